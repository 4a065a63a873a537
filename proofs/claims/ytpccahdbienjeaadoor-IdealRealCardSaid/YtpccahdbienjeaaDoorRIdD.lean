/-
  The reference of layer 12, walked: Same.
-/
import Derived.Test.YtpccahdbienjeaaDoorRIdB
namespace Go.Proofs.YtpccahdbienjeaaDoor
open Go.RowKit

end Go.Proofs.YtpccahdbienjeaaDoor
