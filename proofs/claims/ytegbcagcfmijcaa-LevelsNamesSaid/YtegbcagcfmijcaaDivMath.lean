/-
  Plain arithmetic: one step of the long division by halves (a trial digit, lowered until it fits), and what normalizing a division by a power of two does.
-/
import Derived.WalkKit
namespace Go.Proofs.Ytegbcagcfmijcaa.DivMath

theorem mul_lt_of_lt {a b k : Int} (hk : 0 < k) (h : a < b) : a * k < b * k := (Int.mul_lt_mul_right hk).2 h
theorem lt_of_mul {a b k : Int} (hk : 0 < k) (h : a * k < b * k) : a < b := (Int.mul_lt_mul_right hk).1 h
theorem le_of_mul {a b k : Int} (hk : 0 < k) (h : a * k ≤ b * k) : a ≤ b := (Int.mul_le_mul_right hk).1 h

/-- The least over-estimate: the quotient by the high half alone is no less than the true digit. -/
theorem first_ge {u d n1 n0 q : Int} (hn1 : 0 < n1) (hn0 : 0 ≤ n0) (hq : 0 ≤ q) (hd : d < 4294967296) (hle : q * (n1 * 4294967296 + n0) ≤ u * 4294967296 + d) : q ≤ u / n1 := by
  have e : q * (n1 * 4294967296 + n0) = q * n1 * 4294967296 + q * n0 := by rw [Int.mul_add, Int.mul_assoc]
  have h0 : 0 ≤ q * n0 := Int.mul_nonneg hq hn0
  have h1 : q * n1 ≤ u := by omega
  exact Int.le_ediv_of_mul_le hn1 h1

/-- The trial digit is at most 2^32 + 1. -/
theorem first_le {u n1 n0 : Int} (hn1 : 2147483648 ≤ n1) (hn0 : n0 < 4294967296) (hu : u < n1 * 4294967296 + n0) : u / n1 ≤ 4294967297 := by
  have : u / n1 < 4294967298 := by
    refine Int.ediv_lt_of_lt_mul (by omega) ?_
    omega
  omega

/-- What a trial digit and its rest give: the digit times the divisor. -/
theorem back {u d n1 n0 q r : Int} (hr : r = u - q * n1) : q * (n1 * 4294967296 + n0) = u * 4294967296 + d - (r * 4294967296 + d - q * n0) := by
  have e : q * (n1 * 4294967296 + n0) = q * n1 * 4294967296 + q * n0 := by rw [Int.mul_add, Int.mul_assoc]
  omega

theorem quot_of {N D q : Int} (h1 : q * D ≤ N) (h2 : N < q * D + D) : N / D = q := by
  have hD : 0 < D := by omega
  have e1 : q ≤ N / D := Int.le_ediv_of_mul_le hD h1
  have e2 : N / D < q + 1 := Int.ediv_lt_of_lt_mul hD (by rw [Int.add_mul]; omega)
  omega

/-- A trial digit that passes the test is the digit. -/
theorem digit_ok {u d n1 n0 q r : Int} (hD : 0 < n1 * 4294967296 + n0) (hr : r = u - q * n1) (hge : (u * 4294967296 + d) / (n1 * 4294967296 + n0) ≤ q)
    (hok : q * n0 ≤ r * 4294967296 + d) : (u * 4294967296 + d) / (n1 * 4294967296 + n0) = q := by
  have hb := back (d := d) (n0 := n0) hr
  have : q ≤ (u * 4294967296 + d) / (n1 * 4294967296 + n0) := Int.le_ediv_of_mul_le hD (by omega)
  omega

/-- One that fails it is too great. -/
theorem digit_no {u d n1 n0 q r : Int} (hD : 0 < n1 * 4294967296 + n0) (hr : r = u - q * n1) (hno : r * 4294967296 + d < q * n0) :
    (u * 4294967296 + d) / (n1 * 4294967296 + n0) ≤ q - 1 := by
  have hb := back (d := d) (n0 := n0) hr
  have : (u * 4294967296 + d) / (n1 * 4294967296 + n0) < q := Int.ediv_lt_of_lt_mul hD (by omega)
  omega

/-- So is one of 2^32 or more. -/
theorem digit_big {u d n1 n0 : Int} (hd : d < 4294967296) (hu : u < n1 * 4294967296 + n0) (hD : 0 < n1 * 4294967296 + n0) :
    (u * 4294967296 + d) / (n1 * 4294967296 + n0) < 4294967296 := by
  refine Int.ediv_lt_of_lt_mul hD ?_
  omega

/-- A rest of 2^32 or more: the digit, at most 2^32, passes the test by itself. -/
theorem digit_out {u d n1 n0 q r : Int} (hD : 0 < n1 * 4294967296 + n0) (hr : r = u - q * n1) (hge : (u * 4294967296 + d) / (n1 * 4294967296 + n0) ≤ q)
    (hq : q ≤ 4294967296) (hn0 : 0 ≤ n0) (hn0' : n0 < 4294967296) (hd : 0 ≤ d) (hr32 : 4294967296 ≤ r) : (u * 4294967296 + d) / (n1 * 4294967296 + n0) = q := by
  refine digit_ok hD hr hge ?_
  have h1 : q * n0 ≤ 4294967296 * n0 := Int.mul_le_mul_of_nonneg_right hq hn0
  omega

/-- The two digits together. -/
theorem two_digits {U D d1 d0 : Int} (hD : 0 < D) (q1 u1 : Int) (hu1 : u1 = U * 4294967296 + d1 - q1 * D) :
    (U * 18446744073709551616 + d1 * 4294967296 + d0) / D = q1 * 4294967296 + (u1 * 4294967296 + d0) / D ∧
    (U * 18446744073709551616 + d1 * 4294967296 + d0) % D = (u1 * 4294967296 + d0) % D := by
  have e : U * 18446744073709551616 + d1 * 4294967296 + d0 = (u1 * 4294967296 + d0) + q1 * 4294967296 * D := by
    have : q1 * 4294967296 * D = q1 * D * 4294967296 := by rw [Int.mul_assoc, Int.mul_comm 4294967296 D, Int.mul_assoc]
    omega
  rw [e]
  constructor
  · rw [Int.add_mul_ediv_right _ _ (by omega)]; omega
  · exact Int.add_mul_emod_self_right _ _ _

/-- What a digit and its rest are like. -/
theorem digit_facts {U d n1 n0 q v : Int} (b1 : 2147483648 ≤ n1) (b2 : n1 < 4294967296) (b3 : 0 ≤ n0) (b4 : n0 < 4294967296) (hU : 0 ≤ U) (hU' : U < n1 * 4294967296 + n0) (hd : 0 ≤ d) (hd' : d < 4294967296)
    (hq : q = (U * 4294967296 + d) / (n1 * 4294967296 + n0)) (hv : v = U * 4294967296 + d - q * (n1 * 4294967296 + n0)) :
    0 ≤ q ∧ q < 4294967296 ∧ 0 ≤ v ∧ v < n1 * 4294967296 + n0 ∧ q ≤ U / n1 ∧ U / n1 ≤ 4294967297 ∧ 0 ≤ U / n1 * n1 ∧ U / n1 * n1 ≤ U ∧ U - U / n1 * n1 < 4294967296 := by
  have h1 := Int.mul_ediv_add_emod (U * 4294967296 + d) (n1 * 4294967296 + n0)
  have h2 := Int.emod_nonneg (U * 4294967296 + d) (show n1 * 4294967296 + n0 ≠ 0 by omega)
  have h3 := Int.emod_lt_of_pos (U * 4294967296 + d) (show 0 < n1 * 4294967296 + n0 by omega)
  have h0 : 0 ≤ q := by rw [hq]; exact Int.ediv_nonneg (by omega) (by omega)
  have h4 : q < 4294967296 := by rw [hq]; exact digit_big hd' hU' (by omega)
  rw [← hq, Int.mul_comm] at h1
  have h5 := Int.mul_ediv_add_emod U n1
  have h6 := Int.emod_nonneg U (show n1 ≠ 0 by omega)
  have h7 := Int.emod_lt_of_pos U (show 0 < n1 by omega)
  rw [Int.mul_comm] at h5
  have h8 : 0 ≤ U / n1 * n1 := Int.mul_nonneg (Int.ediv_nonneg hU (by omega)) (by omega)
  exact ⟨h0, h4, by omega, by omega, first_ge (by omega) b3 h0 hd' (by omega), first_le b1 b4 hU', h8, by omega, by omega⟩

theorem sub_mul_div {N D : Int} : N - N / D * D = N % D := by
  have := Int.mul_ediv_add_emod N D
  have e : N / D * D = D * (N / D) := Int.mul_comm _ _
  omega

/-- Both sides times a power: the quotient stays, the rest is the power's multiple. -/
theorem scaled {N y p : Int} (hp : 0 < p) : N * p / (y * p) = N / y ∧ N * p % (y * p) / p = N % y := by
  refine ⟨Int.mul_ediv_mul_of_pos_left N y hp, ?_⟩
  rw [Int.mul_comm N p, Int.mul_comm y p, Int.mul_emod_mul_of_pos N y hp]
  exact Int.mul_ediv_cancel_left _ (by omega)

end Go.Proofs.Ytegbcagcfmijcaa.DivMath
