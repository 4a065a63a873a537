/-
  The reference of layer 1, walked: differences and products.
-/
import Derived.Test.YtegbcagcfmijcaaRef
namespace Go.Proofs.Ytegbcagcfmijcaa
open Go.RowKit

theorem half_mul {a b : Int} (ha : 0 ≤ a) (ha' : a ≤ 4294967295) (hb : 0 ≤ b) (hb' : b ≤ 4294967295) : 0 ≤ a * b ∧ a * b ≤ 18446744065119617025 :=
  ⟨Int.mul_nonneg ha hb, Int.mul_le_mul ha' hb' hb (by omega)⟩

end Go.Proofs.Ytegbcagcfmijcaa
