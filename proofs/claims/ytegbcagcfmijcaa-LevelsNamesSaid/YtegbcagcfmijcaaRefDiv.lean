/-
  The reference of layer 1, walked: the quotient and the rest, digit by digit to the base 2.
-/
import Derived.Test.YtegbcagcfmijcaaRefOk
namespace Go.Proofs.Ytegbcagcfmijcaa
open Go.RowKit

/-- The number of the first k of 128 digits. -/
def topk (n : Int) (k : Nat) : Int := n / 2 ^ (128 - k)
theorem topk_zero {n : Int} (h : isW n) : topk n 0 = 0 := by
  unfold isW at h
  exact Int.ediv_eq_zero_of_lt h.1 h.2
theorem topk_all (n : Int) : topk n 128 = n := Int.ediv_one n
theorem topk_step (n : Int) (k : Nat) (hk : k < 128) : topk n (k + 1) = 2 * topk n k + n / 2 ^ (127 - k) % 2 := by
  unfold topk
  have e1 : 128 - (k + 1) = 127 - k := by omega
  have e2 : 128 - k = 127 - k + 1 := by omega
  have e3 : n / 2 ^ (128 - k) = n / 2 ^ (127 - k) / 2 := by
    rw [e2, Int.pow_succ, Int.ediv_ediv_of_nonneg (Int.le_of_lt (Int.pow_pos (by omega)))]
  rw [e1, e3]
  omega
theorem topk_bd {n : Int} (h : isW n) (k : Nat) : 0 ≤ topk n k ∧ topk n k ≤ n := by
  unfold isW at h
  exact ⟨Int.ediv_nonneg h.1 (Int.le_of_lt (Int.pow_pos (by omega))), Int.ediv_le_self _ h.1⟩
theorem topk_half {n : Int} (h : isW n) (k : Nat) (hk : k < 128) : topk n k < 170141183460469231731687303715884105728 := by
  have h1 := topk_step n k hk
  have h2 := topk_bd h (k + 1)
  have h3 := topk_bd h k
  unfold isW at h
  omega
theorem digit_high {h l : Int} (hl : isU l) (k : Nat) (hk : k ≤ 63) : wN h l / 2 ^ (127 - k) % 2 = h / 2 ^ (63 - k) % 2 := by
  unfold isU at hl
  have e : wN h l / 2 ^ (127 - k) = h / 2 ^ (63 - k) := by
    rw [show 127 - k = 64 + (63 - k) by omega, Int.pow_add, ← Int.ediv_ediv_of_nonneg (by omega)]
    congr 1
    rw [show (2 : Int) ^ 64 = 18446744073709551616 from rfl]
    unfold wN
    omega
  rw [e]
theorem digit_low {h l : Int} (k : Nat) (hk : 64 ≤ k) (hk' : k < 128) : wN h l / 2 ^ (127 - k) % 2 = l / 2 ^ (127 - k) % 2 := by
  have hp : (0 : Int) < 2 ^ (127 - k) := Int.pow_pos (by omega)
  have e1 : (18446744073709551616 : Int) = 2 * 2 ^ (k - 64) * 2 ^ (127 - k) := by
    rw [Int.mul_assoc, ← Int.pow_add, show k - 64 + (127 - k) = 63 by omega]
    rfl
  have e : wN h l = l + h * (2 * 2 ^ (k - 64)) * 2 ^ (127 - k) := by
    unfold wN
    rw [Int.mul_assoc h, ← e1]
    omega
  rw [e, Int.add_mul_ediv_right _ _ (by omega), show h * (2 * 2 ^ (k - 64)) = 2 * (h * 2 ^ (k - 64)) by rw [← Int.mul_assoc, Int.mul_comm h 2, Int.mul_assoc]]
  omega

theorem and_one {x : Int} (h0 : 0 ≤ x) (h1 : x < 18446744073709551616) : bits .and .u64 x 1 = x % 2 := by go_bits2

def qk (n d : Int) (k : Nat) : Int := topk n k / d
def rk (n d : Int) (k : Nat) : Int := topk n k % d
/-- One digit more. -/
theorem step_facts {n d : Int} (hd : 0 < d) (k : Nat) (hk : k < 128) (b : Int) (hb : n / 2 ^ (127 - k) % 2 = b) :
    (d ≤ 2 * rk n d k + b → qk n d (k + 1) = 2 * qk n d k + 1 ∧ rk n d (k + 1) = 2 * rk n d k + b - d) ∧
    (2 * rk n d k + b < d → qk n d (k + 1) = 2 * qk n d k ∧ rk n d (k + 1) = 2 * rk n d k + b) ∧ (b = 0 ∨ b = 1) ∧ 0 ≤ rk n d k ∧ rk n d k < d := by
  have h0 := Int.mul_ediv_add_emod (topk n k) d
  have h1 := Int.emod_nonneg (topk n k) (show d ≠ 0 by omega)
  have h2 := Int.emod_lt_of_pos (topk n k) hd
  have h3 := topk_step n k hk
  rw [hb] at h3
  unfold qk rk
  generalize topk n k / d = q at *
  generalize topk n k % d = r at *
  refine ⟨fun h => ?_, fun h => ?_, by omega, h1, h2⟩
  · have e : topk n (k + 1) = (2 * r + b - d) + (2 * q + 1) * d := by rw [h3, ← h0, Int.add_mul, Int.mul_assoc, Int.mul_comm d q]; omega
    rw [e, Int.add_mul_ediv_right _ _ (by omega), Int.add_mul_emod_self_right, Int.ediv_eq_zero_of_lt (by omega) (by omega), Int.emod_eq_of_lt (by omega) (by omega)]
    omega
  · have e : topk n (k + 1) = (2 * r + b) + 2 * q * d := by rw [h3, ← h0, Int.mul_assoc, Int.mul_comm d q]; omega
    rw [e, Int.add_mul_ediv_right _ _ (by omega), Int.add_mul_emod_self_right, Int.ediv_eq_zero_of_lt (by omega) (by omega), Int.emod_eq_of_lt (by omega) (by omega)]
    omega

end Go.Proofs.Ytegbcagcfmijcaa
