/-
  The reference of layer 3, walked: refilling.
-/
import Derived.Test.YtegbcagcfmijcaaRef03B
import Derived.IntWalk
namespace Go.Proofs.Ytegbcagcfmijcaa
open Go.RowKit

theorem limE_zero {b r p : Int} (h : limE b r p = 0) : 1 ≤ b ∧ b ≤ 1000000000 ∧ 0 ≤ r ∧ r ≤ 1000000000 ∧ 1 ≤ p ∧ p ≤ 1000000000 := by
  unfold limE at h
  split at h
  · assumption
  · cases h
theorem fil_range {r a t q : Int} (h0 : 0 ≤ r) (h1 : r ≤ 1000000000) (ha : isU a) (ht : isU t) (hat : a ≤ t) (hq : 0 ≤ q) (hq1 : q ≤ 1000000000) : 0 ≤ (t - a) * r ∧ (t - a) * r ≤ 18446744073709551615000000000 := by
  have _ := hq
  have _ := hq1
  unfold isU at ha ht
  refine ⟨Int.mul_nonneg (by omega) h0, ?_⟩
  have h2 := Int.mul_le_mul_of_nonneg_left h1 (show 0 ≤ t - a by omega)
  have h3 : (t - a) * 1000000000 ≤ 18446744073709551615 * 1000000000 := Int.mul_le_mul_of_nonneg_right (by omega) (by omega)
  omega
theorem Box.put {w : World} {b i : Nat} {vs us : List Value} {x : Value} (h : Box w b vs) (e : vs.set i x = us) : Box (w.setCell ⟨b, i, none⟩ x) b us := by
  rw [← e]
  exact h.set i x
theorem isU_of {n x : Int} (h : Hid (wLo n = x)) : isU x := by
  rw [← h.out]
  exact isU_lo _

end Go.Proofs.Ytegbcagcfmijcaa
