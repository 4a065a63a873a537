/-
  The arguments of the statements of layer 11, opened: numbers of 16 and 32 bits, commands and frames.
-/
import Derived.Test.YtpccahdbienjeaaDoorGO1
import Derived.Test.YtpccahdbienjeaaDoorGX1
import Derived.Test.YtpccahdbienjeaaDoorKyMath
namespace Go.Proofs.YtpccahdbienjeaaDoor
open Go.ChangeShapes Go.WideShapes Go.ChangeAt Go.RowKit Go.Joins

end Go.Proofs.YtpccahdbienjeaaDoor
