/-
  Div and Up of package wide, walked: the quotient, the rest, the raised quotient.
-/
import Derived.Test.YtegbcagcfmijcaaWide
namespace Go.Proofs.Ytegbcagcfmijcaa
open Go.RowKit

def divV (n d : Int) : Int := if d = 0 then 0 else n / d
def divR (n d : Int) : Int := if d = 0 then 0 else n % d
def divE (d : Int) : Int := if d = 0 then 26 else 0
def upV (n d : Int) : Int := if d = 0 then 0 else if n % d = 0 then n / d else n / d + 1

theorem isW_divV {n d : Int} (h : isW n) (hd : 0 ≤ d) : isW (divV n d) := by
  unfold divV isW at *
  split
  · omega
  · have h1 := Int.ediv_nonneg h.1 hd
    have h2 := Int.ediv_le_self d h.1
    omega
theorem isU_divR {n d : Int} (hd : isU d) : isU (divR n d) := by
  unfold divR isU at *
  split
  · omega
  · have h1 := Int.emod_nonneg n (show d ≠ 0 by omega)
    have h2 := Int.emod_lt_of_pos n (show 0 < d by omega)
    omega

theorem div_parts {ah al d : Int} (h2 : isU al) (hd : 0 < d) :
    wHi (wN ah al / d) = ah / d ∧ wLo (wN ah al / d) = (ah % d * 18446744073709551616 + al) / d ∧ wN ah al % d = (ah % d * 18446744073709551616 + al) % d := by
  unfold isU at h2
  have e : wN ah al = (ah % d * 18446744073709551616 + al) + ah / d * 18446744073709551616 * d := by
    have h := Int.mul_ediv_add_emod ah d
    unfold wN
    have e1 : ah / d * 18446744073709551616 * d = d * (ah / d) * 18446744073709551616 := by
      rw [Int.mul_assoc, Int.mul_comm 18446744073709551616 d, ← Int.mul_assoc, Int.mul_comm (ah / d) d]
    omega
  have m0 := Int.emod_nonneg ah (show d ≠ 0 by omega)
  have m1 := Int.emod_lt_of_pos ah hd
  have q1 : (ah % d * 18446744073709551616 + al) / d < 18446744073709551616 := by
    refine Int.ediv_lt_of_lt_mul hd ?_
    omega
  have q0 : 0 ≤ (ah % d * 18446744073709551616 + al) / d := Int.ediv_nonneg (by omega) (by omega)
  have eq : wN ah al / d = (ah % d * 18446744073709551616 + al) / d + ah / d * 18446744073709551616 := by
    rw [e, Int.add_mul_ediv_right _ _ (by omega)]
  refine ⟨?_, ?_, ?_⟩
  · unfold wHi; omega
  · unfold wLo; omega
  · rw [e]; exact Int.add_mul_emod_self_right _ _ _

set_option maxHeartbeats 400000 in
theorem div_any (ah al d : Int) (w : World) (h1 : isU ah) (h2 : isU al) (h3 : isU d) :
    Calls Try.prog 42 #[.agg #[.int .u64 ah, .int .u64 al], .int .u64 d] w fun e w' =>
      e = .returned (.tuple #[.agg #[.int .u64 (wHi (divV (wN ah al) d)), .int .u64 (wLo (divV (wN ah al) d))], .int .u64 (divR (wN ah al) d), .int .i64 (divE d)]) ∧ Below w.heap.size w w' := by
  by_cases hd : d = 0
  · subst hd
    go_enter Try.func42, Try.ntmps42
    go_wp2
    go_returns
    refine ⟨rfl, ?_⟩
    go_grown
  · have h3' := h3
    have h2' := h2
    unfold isU at h1 h2 h3
    have e := div_parts (ah := ah) (al := al) (d := d) h2' (by omega)
    have r1 := Lib.hid (show divV (wN ah al) d = wN ah al / d from if_neg hd)
    have r2 := Lib.hid (show divR (wN ah al) d = wN ah al % d from if_neg hd)
    have r3 := Lib.hid (show divE d = 0 from if_neg hd)
    have E := Lib.hid e
    have e0 : (d == 0) = false := beq_eq_false_iff_ne.2 hd
    have m0 := Int.emod_nonneg ah (show d ≠ 0 by omega)
    have m1 := Int.emod_lt_of_pos ah (show 0 < d by omega)
    clear e hd
    go_enter Try.func42, Try.ntmps42
    go_wp2
    go_quiet ((go_at_call 47; exact Calls.quiet_of (div64_any _ _ _ _ (by omega) (by omega) (by omega) (by omega) (by omega))))
    go_wp2
    go_returns
    refine ⟨by rw [r1.out, r2.out, r3.out, E.out.1, E.out.2.1, E.out.2.2], ?_⟩
    go_grown
    refine below_drewN ?_ _
    go_grown

set_option maxHeartbeats 800000 in
theorem up_any (ah al d : Int) (w : World) (h1 : isU ah) (h2 : isU al) (h3 : isU d) :
    Calls Try.prog 39 #[.agg #[.int .u64 ah, .int .u64 al], .int .u64 d] w fun e w' =>
      e = .returned (.tuple #[.agg #[.int .u64 (wHi (upV (wN ah al) d)), .int .u64 (wLo (upV (wN ah al) d))], .int .i64 (divE d)]) ∧ Below w.heap.size w w' := by
  have hq := isW_divV (isW_of h1 h2) (show 0 ≤ d by unfold isU at h3; omega)
  have q1 := isU_hi hq
  have q2 := isU_lo (divV (wN ah al) d)
  by_cases hd : d = 0
  · have r1 := Lib.hid (show upV (wN ah al) d = divV (wN ah al) d by unfold upV divV; rw [if_pos hd, if_pos hd])
    have e0 : (divE d != 0) = true := by rw [show divE d = 26 from if_pos hd]; rfl
    clear hd
    go_enter Try.func39, Try.ntmps39
    go_wp2_with (go_at_call 42; refine (div_any _ _ _ _ h1 h2 h3).mono ?_; rintro e w1 ⟨rfl, hb⟩; obtain ⟨hc, hf, hz⟩ := bcell hb; simp at hz hc hf; have hz0 : w.heap.size < w1.heap.size := (by omega); have hz1 : w.heap.size + 1 < w1.heap.size := (by omega); clear hz; have hB : Below w.heap.size w w1 := below_thru (by go_grown) hb; clear hb)
    refine bodyPost_ret (v := .tuple #[.agg #[.int .u64 (wHi (divV (wN ah al) d)), .int .u64 (wLo (divV (wN ah al) d))], .int .i64 (divE d)]) (by simp [results, Try.results39, go_sem, hc, hz1]) rfl ⟨by rw [r1.out], ?_⟩
    go_grown
  · have r0 := Lib.hid (show divE d = 0 from if_neg hd)
    have e0 : (divE d != 0) = false := by rw [show divE d = 0 from if_neg hd]; rfl
    by_cases hr : wN ah al % d = 0
    · have r1 := Lib.hid (show upV (wN ah al) d = divV (wN ah al) d by unfold upV divV; rw [if_neg hd, if_neg hd, if_pos hr])
      have e1 : (divR (wN ah al) d == 0) = true := by rw [show divR (wN ah al) d = wN ah al % d from if_neg hd, hr]; rfl
      clear hd hr
      go_enter Try.func39, Try.ntmps39
      go_wp2_with (go_at_call 42; refine (div_any _ _ _ _ h1 h2 h3).mono ?_; rintro e w1 ⟨rfl, hb⟩; obtain ⟨hc, hf, hz⟩ := bcell hb; simp at hz hc hf; have hz0 : w.heap.size < w1.heap.size := (by omega); have hz1 : w.heap.size + 1 < w1.heap.size := (by omega); clear hz; have hB : Below w.heap.size w w1 := below_thru (by go_grown) hb; clear hb)
      refine bodyPost_ret (v := .tuple #[.agg #[.int .u64 (wHi (divV (wN ah al) d)), .int .u64 (wLo (divV (wN ah al) d))], .int .i64 (divE d)]) (by simp [results, Try.results39, go_sem, hc, hz1]) rfl ⟨by rw [r1.out], ?_⟩
      go_grown
    · have hv : divV (wN ah al) d + 1 < 340282366920938463463374607431768211456 := by
        have hd2 : 2 ≤ d := by
          unfold isU at h3
          have : d ≠ 1 := by rintro rfl; exact hr (Int.emod_one _)
          omega
        have hw := isW_of h1 h2
        unfold isW at hw
        have : wN ah al / d < 170141183460469231731687303715884105728 := Int.ediv_lt_of_lt_mul (by omega) (by omega)
        rw [show divV (wN ah al) d = wN ah al / d from if_neg hd]
        omega
      have r1 := Lib.hid (show upV (wN ah al) d = divV (wN ah al) d + 1 by unfold upV divV; rw [if_neg hd, if_neg hd, if_neg hr])
      have e1 : (divR (wN ah al) d == 0) = false := by rw [show divR (wN ah al) d = wN ah al % d from if_neg hd]; simpa using hr
      have s1 := Lib.hid (show addV (divV (wN ah al) d + 1) = divV (wN ah al) d + 1 from if_pos hv)
      have s2 := Lib.hid (show addE (divV (wN ah al) d + 1) = 0 from if_pos hv)
      have s3 := Lib.hid (show wN (wHi (divV (wN ah al) d)) (wLo (divV (wN ah al) d)) + wN 0 1 = divV (wN ah al) d + 1 by rw [wN_parts]; rfl)
      have u0 : isU 0 := by unfold isU; omega
      have u1 : isU 1 := by unfold isU; omega
      clear hd hr hv
      go_enter Try.func39, Try.ntmps39
      go_wp2_with (go_at_call 42; refine (div_any _ _ _ _ h1 h2 h3).mono ?_; rintro e w1 ⟨rfl, hb⟩; obtain ⟨hc, hf, hz⟩ := bcell hb; simp at hz hc hf; have hz0 : w.heap.size < w1.heap.size := (by omega); have hz1 : w.heap.size + 1 < w1.heap.size := (by omega); clear hz; have hB : Below w.heap.size w w1 := below_thru (by go_grown) hb; clear hb)
      go_region_with (first
        | (go_at_call 34; refine (of_any _ _).mono ?_; rintro e w2 ⟨rfl, hb2⟩; obtain ⟨hc2, hf2, hz2⟩ := bcell hb2; simp at hz2 hc2 hf2; have hz20 : w.heap.size < w2.heap.size := (by omega); have hz21 : w.heap.size + 1 < w2.heap.size := (by omega); have hB2 : Below w.heap.size w w2 := below_thru (by go_grown) hb2; clear hb2 hz2)
        | (go_at_call 40; refine (add_any _ _ _ _ _ q1 q2 u0 u1).mono ?_; rintro e w3 ⟨rfl, hb3⟩; obtain ⟨hc3, hf3, hz3⟩ := bcell hb3; have hz30 : w.heap.size < w3.heap.size := (by omega); have hz31 : w.heap.size + 1 < w3.heap.size := (by omega); have hB3 : Below w.heap.size w w3 := below_thru (by go_grown) hb3; clear hb3 hz3))
      all_goals
        go_wp2
        refine bodyPost_ret (v := .tuple #[.agg #[.int .u64 (wHi (upV (wN ah al) d)), .int .u64 (wLo (upV (wN ah al) d))], .int .i64 (divE d)]) (by
          simp [results, s3.out, s1.out, s2.out, r1.out, r0.out, Try.results39, go_sem, hc, hz0, hz1, hz21, hc2, hc3]) rfl ⟨rfl, ?_⟩
        go_grown

end Go.Proofs.Ytegbcagcfmijcaa
