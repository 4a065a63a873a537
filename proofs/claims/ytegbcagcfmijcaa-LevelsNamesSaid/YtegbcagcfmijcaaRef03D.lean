/-
  The reference of layer 3: what a refilled bucket is; refilling, walked.
-/
import Derived.Test.YtegbcagcfmijcaaRef03C
namespace Go.Proofs.Ytegbcagcfmijcaa
open Go.RowKit

/-- What came in, and the part that was there. -/
def inN (ra pt a t : Int) : Int := (t - a) * ra + pt
/-- Level, part and tick of a refilled bucket. -/
def filL (bu ra pe le pt a t : Int) : Int := if t < a then le else if bu - le ≤ inN ra pt a t / pe then bu else le + inN ra pt a t / pe
def filP (bu ra pe le pt a t : Int) : Int := if t < a then pt else if bu - le ≤ inN ra pt a t / pe then 0 else inN ra pt a t % pe
def filA (a t : Int) : Int := if t < a then a else t
/-- A valid bucket. -/
structure Buc (bu ra pe le pt a : Int) : Prop where
  lim : limE bu ra pe = 0
  l0 : 0 ≤ le
  l1 : le ≤ bu
  q0 : 0 ≤ pt
  q1 : pt < pe
  top : le = bu → pt = 0
  tick : isU a
theorem Buc.of {bu ra pe le pt a : Int} (h : bucE bu ra pe le pt = 0) (ha : isU a) : Buc bu ra pe le pt a := by
  unfold bucE at h
  split at h
  · rename_i h1
    exact ⟨h1.1, h1.2.1, h1.2.2.1, h1.2.2.2.1, h1.2.2.2.2.1, h1.2.2.2.2.2, ha⟩
  · cases h
theorem Buc.ok {bu ra pe le pt a : Int} (h : Buc bu ra pe le pt a) : bucE bu ra pe le pt = 0 := bucE_yes h.lim ⟨h.l0, h.l1, h.q0, h.q1, h.top⟩
theorem bucE_two (bu ra pe le pt : Int) : bucE bu ra pe le pt = 0 ∨ bucE bu ra pe le pt = 8 := by unfold bucE; split <;> simp
theorem Buc.nums {bu ra pe le pt a : Int} (h : Buc bu ra pe le pt a) : 1 ≤ bu ∧ bu ≤ 1000000000 ∧ 0 ≤ ra ∧ ra ≤ 1000000000 ∧ 1 ≤ pe ∧ pe ≤ 1000000000 := limE_zero h.lim
theorem Buc.in0 {bu ra pe le pt a t : Int} (h : Buc bu ra pe le pt a) (ht : isU t) (hat : a ≤ t) : 0 ≤ inN ra pt a t ∧ inN ra pt a t ≤ 18446744073709551616000000000 := by
  obtain ⟨_, _, h3, h4, _, h6⟩ := h.nums
  have := fil_range h3 h4 h.tick ht hat h.q0 (by have := h.q1; omega)
  have h0 := h.q0
  have h1 := h.q1
  unfold inN
  omega
theorem Buc.filled {bu ra pe le pt a t : Int} (h : Buc bu ra pe le pt a) (ht : isU t) : Buc bu ra pe (filL bu ra pe le pt a t) (filP bu ra pe le pt a t) (filA a t) := by
  obtain ⟨n1, n2, n3, n4, n5, n6⟩ := h.nums
  have := h.l0
  have := h.l1
  have := h.q0
  have := h.q1
  unfold filL filP filA
  by_cases h1 : t < a
  · rw [if_pos h1, if_pos h1, if_pos h1]
    exact h
  · rw [if_neg h1, if_neg h1, if_neg h1]
    have hn := h.in0 ht (by omega)
    have hd : 0 ≤ inN ra pt a t / pe := Int.ediv_nonneg hn.1 (by omega)
    have hm := Int.emod_nonneg (inN ra pt a t) (show pe ≠ 0 by omega)
    have hm2 := Int.emod_lt_of_pos (inN ra pt a t) (show 0 < pe by omega)
    by_cases h2 : bu - le ≤ inN ra pt a t / pe
    · rw [if_pos h2, if_pos h2]
      exact ⟨h.lim, by omega, by omega, by omega, by omega, fun _ => rfl, ht⟩
    · rw [if_neg h2, if_neg h2]
      exact ⟨h.lim, by omega, by omega, hm, hm2, fun q => by omega, ht⟩

end Go.Proofs.Ytegbcagcfmijcaa
