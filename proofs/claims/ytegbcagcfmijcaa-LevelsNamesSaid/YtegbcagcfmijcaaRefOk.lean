/-
  The reference of layer 1 with its results under names.
-/
import Derived.Test.YtegbcagcfmijcaaRefB
namespace Go.Proofs.Ytegbcagcfmijcaa
open Go.RowKit

end Go.Proofs.Ytegbcagcfmijcaa
