/-
  The reference of layer 3, walked: full buckets, charging, refilling.
-/
import Derived.Test.YtegbcagcfmijcaaRef03
import Derived.Deep.RegionHeld3
import Derived.Deep.DeepCutAuto
import Derived.Deep.CutBlock
import Derived.Handy
namespace Go.Proofs.Ytegbcagcfmijcaa
open Go.RowKit

end Go.Proofs.Ytegbcagcfmijcaa
