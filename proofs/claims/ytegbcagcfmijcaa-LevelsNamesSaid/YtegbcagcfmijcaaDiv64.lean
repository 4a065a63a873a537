/-
  math/bits.Div64, walked: the quotient and the rest of a number of 128 bits by one of 64, the high part less than the divisor.
-/
import Derived.Test.YtegbcagcfmijcaaKit
import Derived.Test.YtegbcagcfmijcaaDivMath
import Derived.Test.YtegbcagcfmijcaaShelf
import Derived.Lib.ItoaNum
namespace Go.Proofs.Ytegbcagcfmijcaa
open Go.RowKit

def lz (y : Int) : Nat := 64 - Lib.bitLen y.toNat
theorem lz_any (y : Int) (w : World) (h0 : 0 < y) (h1 : y ≤ 18446744073709551615) :
    Calls Try.prog 49 #[.int .u64 y] w fun e w' => e = .returned (.int .i64 (lz y : Int)) ∧ w = w' := by
  refine (Try.bits_LeadingZeros64 y w (by omega) h1).mono ?_
  rintro e w' ⟨rfl, rfl⟩
  have := Any.bitLen_le64 y (by omega) h1
  refine ⟨?_, rfl⟩
  rw [show (64 - (Lib.bitLen y.toNat : Int)) = (lz y : Int) from by unfold lz; omega]

set_option maxRecDepth 100000 in
set_option maxHeartbeats 1600000 in
theorem div64_norm (hi lo y : Int) (w : World) (h1 : 0 < hi) (h3 : hi < y) (h5 : y ≤ 18446744073709551615)
   (s : Nat) (hs : s ≤ 63) (H : Hid (lz y = s)) (D n1 n0 U L d1 d0 q1 v1 q0 rr : Int)
   (b1 : 2147483648 ≤ n1) (b2 : n1 < 4294967296) (b3 : 0 ≤ n0) (b4 : n0 < 4294967296) (b5 : 0 ≤ d1) (b6 : d1 < 4294967296) (b7 : 0 ≤ d0) (b8 : d0 < 4294967296) (b9 : 0 ≤ U) (b10 : U < n1 * 4294967296 + n0)
   (hD : IntKind.u64.wrap (y * 2 ^ s) = D) (hn1 : D / 4294967296 = n1) (hn0 : bits BinOp.and IntKind.u64 D 4294967295 = n0)
   (hU : bits BinOp.or IntKind.u64 (IntKind.u64.wrap (hi * 2 ^ s)) (lo / 2 ^ (64 - s)) = U)
   (hL : IntKind.u64.wrap (lo * 2 ^ s) = L) (hd1 : L / 4294967296 = d1) (hd0 : bits BinOp.and IntKind.u64 L 4294967295 = d0)
   (Hq1 : Hid (q1 = (U * 4294967296 + d1) / (n1 * 4294967296 + n0))) (a1 : 0 ≤ q1) (a2 : q1 < 4294967296) (a3 : q1 ≤ U / n1) (a4 : U / n1 ≤ 4294967297)
   (hv1 : IntKind.u64.wrap (IntKind.u64.wrap (IntKind.u64.wrap (U * 4294967296) + d1) - IntKind.u64.wrap (q1 * D)) = v1)
   (b11 : 0 ≤ v1) (b12 : v1 < n1 * 4294967296 + n0) (Hq0 : Hid (q0 = (v1 * 4294967296 + d0) / (n1 * 4294967296 + n0))) (a5 : 0 ≤ q0) (a6 : q0 < 4294967296) (a7 : q0 ≤ v1 / n1) (a8 : v1 / n1 ≤ 4294967297)
   (hrr : IntKind.u64.wrap (IntKind.u64.wrap (IntKind.u64.wrap (v1 * 4294967296) + d0) - IntKind.u64.wrap (q0 * D)) / 2 ^ s = rr)
   (c1 : 0 ≤ U / n1 * n1) (c2 : U / n1 * n1 ≤ U) (c3 : 0 ≤ v1 / n1 * n1) (c4 : v1 / n1 * n1 ≤ v1) (c5 : U - U / n1 * n1 < 4294967296) (c6 : v1 - v1 / n1 * n1 < 4294967296) :
    Calls Try.prog 47 #[.int .u64 hi, .int .u64 lo, .int .u64 y] w fun e w' => e = .returned (.tuple #[.int .u64 (q1 * 4294967296 + q0), .int .u64 rr]) ∧ w = w' := by
  have e0 : (y == 0) = false := beq_eq_false_iff_ne.2 (by omega)
  have e1 : (hi == 0) = false := beq_eq_false_iff_ne.2 (by omega)
  have e2 : decide (y ≤ hi) = false := by simp; omega
  have e3 : (n1 == 0) = false := beq_eq_false_iff_ne.2 (by omega)
  have HV := Lib.hid hv1; have HR := Lib.hid hrr
  clear hv1 hrr
  go_enter Try.func47, Try.ntmps47
  go_upto_block 0 with (go_at_call 49; refine (lz_any _ _ (by omega) (by omega)).mono ?_; rintro e w' ⟨rfl, rfl⟩; rw [H.out])
  all_goals clear hD hn1 hn0 hU hL hd1 hd0
  go_cut [15, 16] (fun q _ wx => q = .int .u64 q1 ∧ wx = w)
  case first =>
    go_wp2_with fail
    go_loop [15, 16] (fun a b => ∃ q r : Int, a = .int .u64 q ∧ b = .int .u64 r ∧ Hid (r = U - q * n1) ∧ 0 ≤ r ∧ r < 4294967296 ∧ q1 ≤ q ∧ q ≤ 4294967297) (fun a _ => (intOf a).toNat)
    case atStart =>
      exact ⟨_, _, rfl, rfl, rfl, by omega, by omega, by omega, by omega⟩
    case round =>
      obtain ⟨q, r, rfl, rfl, hr, g1, g2, g3, g5⟩ := hrel
      have g6 : 0 ≤ q * n0 := Int.mul_nonneg (by omega) b3
      by_cases h : q < 4294967296
      · have k1 : decide (q ≥ 4294967296) = false := by simpa using h
        have k2 : q * n0 ≤ 4294967295 * n0 := Int.mul_le_mul_of_nonneg_right (by omega) b3
        by_cases h' : 4294967296 * r + d1 < q * n0
        · have k3 : decide (q * n0 > 4294967296 * r + d1) = true := by simpa using h'
          have k4 : q1 ≤ q - 1 := by rw [Hq1.out]; exact DivMath.digit_no (by omega) hr.out (by omega)
          have k5 : r + n1 = U - (q - 1) * n1 := by have := hr.out; rw [Int.sub_mul]; omega
          have K5 := Lib.hid k5; clear k5
          go_wp2
          · go_meet
            refine ⟨?_, rfl⟩
            rw [Hq1.out, ← DivMath.digit_out (q := q - 1) (by omega) K5.out (by rw [← Hq1.out]; omega) (by omega) b3 b4 (by omega) (by omega)]
          · go_round
            case rel => exact ⟨_, _, rfl, rfl, K5, by omega, by omega, by omega, by omega⟩
            case measure => simp [intOf]; omega
        · have k3 : decide (q * n0 > 4294967296 * r + d1) = false := by simpa using h'
          go_wp2
          go_meet
          refine ⟨?_, rfl⟩
          rw [Hq1.out, ← DivMath.digit_ok (q := q) (d := d1) (n1 := n1) (n0 := n0) (by omega) hr.out (by rw [← Hq1.out]; omega) (by omega)]
      · have k1 : decide (q ≥ 4294967296) = true := by simp; omega
        have k5 : r + n1 = U - (q - 1) * n1 := by have := hr.out; rw [Int.sub_mul]; omega
        have K5 := Lib.hid k5; clear k5
        go_wp2
        · go_meet
          refine ⟨?_, rfl⟩
          rw [Hq1.out, ← DivMath.digit_out (q := q - 1) (by omega) K5.out (by rw [← Hq1.out]; omega) (by omega) b3 b4 (by omega) (by omega)]
        · go_round
          case rel => exact ⟨_, _, rfl, rfl, K5, by omega, by omega, by omega, by omega⟩
          case measure => simp [intOf]; omega
  case rest =>
    obtain ⟨rfl, rfl⟩ := hcut
    have hv1 := HV.out
    go_upto_block 2 with fail
    all_goals clear hv1
    go_cut [16, 18] (fun _ q wx => q = .int .u64 q0 ∧ wx = wc)
    case first =>
      go_wp2_with fail
      go_loop [16, 18] (fun a b => ∃ q r : Int, b = .int .u64 q ∧ a = .int .u64 r ∧ Hid (r = v1 - q * n1) ∧ 0 ≤ r ∧ r < 4294967296 ∧ q0 ≤ q ∧ q ≤ 4294967297) (fun _ b => (intOf b).toNat)
      case atStart =>
        exact ⟨_, _, rfl, rfl, rfl, by omega, by omega, by omega, by omega⟩
      case round =>
        obtain ⟨q, r, rfl, rfl, hr, g1, g2, g3, g5⟩ := hrel
        have g6 : 0 ≤ q * n0 := Int.mul_nonneg (by omega) b3
        by_cases h : q < 4294967296
        · have k1 : decide (q ≥ 4294967296) = false := by simpa using h
          have k2 : q * n0 ≤ 4294967295 * n0 := Int.mul_le_mul_of_nonneg_right (by omega) b3
          by_cases h' : 4294967296 * r + d0 < q * n0
          · have k3 : decide (q * n0 > 4294967296 * r + d0) = true := by simpa using h'
            have k4 : q0 ≤ q - 1 := by rw [Hq0.out]; exact DivMath.digit_no (by omega) hr.out (by omega)
            have k5 : r + n1 = v1 - (q - 1) * n1 := by have := hr.out; rw [Int.sub_mul]; omega
            have K5 := Lib.hid k5; clear k5
            go_wp2
            · go_meet
              refine ⟨?_, rfl⟩
              rw [Hq0.out, ← DivMath.digit_out (q := q - 1) (by omega) K5.out (by rw [← Hq0.out]; omega) (by omega) b3 b4 (by omega) (by omega)]
            · go_round
              case rel => exact ⟨_, _, rfl, rfl, K5, by omega, by omega, by omega, by omega⟩
              case measure => simp [intOf]; omega
          · have k3 : decide (q * n0 > 4294967296 * r + d0) = false := by simpa using h'
            go_wp2
            go_meet
            refine ⟨?_, rfl⟩
            rw [Hq0.out, ← DivMath.digit_ok (q := q) (d := d0) (n1 := n1) (n0 := n0) (by omega) hr.out (by rw [← Hq0.out]; omega) (by omega)]
        · have k1 : decide (q ≥ 4294967296) = true := by simp; omega
          have k5 : r + n1 = v1 - (q - 1) * n1 := by have := hr.out; rw [Int.sub_mul]; omega
          have K5 := Lib.hid k5; clear k5
          go_wp2
          · go_meet
            refine ⟨?_, rfl⟩
            rw [Hq0.out, ← DivMath.digit_out (q := q - 1) (by omega) K5.out (by rw [← Hq0.out]; omega) (by omega) b3 b4 (by omega) (by omega)]
          · go_round
            case rel => exact ⟨_, _, rfl, rfl, K5, by omega, by omega, by omega, by omega⟩
            case measure => simp [intOf]; omega
    case rest =>
      obtain ⟨rfl, rfl⟩ := hcut
      have hrr := HR.out
      go_wp2
      go_returns
      exact ⟨rfl, rfl⟩

/-- What normalizing does: p is a power of two, r the other one, p r = 2^64. -/
theorem norm_high {lo p r : Int} (hr : 0 < r) (hpr : p * r = 18446744073709551616) (h2 : lo < 18446744073709551616) : lo / r < p := by
  refine Int.ediv_lt_of_lt_mul hr ?_
  omega
theorem norm_low {lo p r : Int} (hp : 0 < p) (hr : 0 < r) (hpr : p * r = 18446744073709551616) : lo * p = lo / r * 18446744073709551616 + lo * p % 18446744073709551616 := by
  have e : lo * p = (lo % r) * p + (lo / r) * 18446744073709551616 := by
    have h := Int.mul_ediv_add_emod lo r
    have h' : lo * p = (r * (lo / r) + lo % r) * p := by rw [h]
    rw [h', Int.add_mul, Int.mul_comm r, Int.mul_assoc, Int.mul_comm r p, hpr]
    omega
  have h0 : 0 ≤ lo % r * p := Int.mul_nonneg (Int.emod_nonneg _ (by omega)) (by omega)
  have h1 : lo % r * p < 18446744073709551616 := by
    have : lo % r * p < r * p := (Int.mul_lt_mul_right hp).2 (Int.emod_lt_of_pos lo hr)
    rw [Int.mul_comm r p, hpr] at this
    exact this
  omega
theorem norm_le {hi y p : Int} (hp : 0 < p) (h : hi < y) : hi * p + p ≤ y * p := by
  have h1 : (hi + 1) * p ≤ y * p := Int.mul_le_mul_of_nonneg_right (by omega) (by omega)
  rw [Int.add_mul] at h1
  omega
theorem two_pow_split (s : Nat) (hs : s ≤ 64) : (2 : Int) ^ s * 2 ^ (64 - s) = 18446744073709551616 := by
  rw [← Int.pow_add, show s + (64 - s) = 64 from by omega]; rfl
theorem or_add (a b s : Nat) (h : b < 2 ^ s) : (a * 2 ^ s) ||| b = a * 2 ^ s + b := by
  rw [← Nat.shiftLeft_eq, Nat.shiftLeft_add_eq_or_of_lt h]

theorem lz_bounds (y : Int) (h0 : 0 < y) (h1 : y ≤ 18446744073709551615) : lz y ≤ 63 ∧ 9223372036854775808 ≤ y * 2 ^ lz y ∧ y * 2 ^ lz y < 18446744073709551616 := by
  obtain ⟨n, rfl⟩ := Int.eq_ofNat_of_zero_le (show 0 ≤ y by omega)
  have hb := Lib.bitLenAux_bounds 64 n (by omega) (by omega)
  have hl := Any.bitLen_le64 (n : Int) (by omega) h1
  unfold lz
  simp only [Int.toNat_natCast] at *
  change 1 ≤ Lib.bitLen n ∧ 2 ^ (Lib.bitLen n - 1) ≤ n ∧ n < 2 ^ Lib.bitLen n at hb
  generalize Lib.bitLen n = k at *
  obtain ⟨h2, h3, h4⟩ := hb
  refine ⟨by omega, ?_, ?_⟩
  · have : 2 ^ (k - 1) * 2 ^ (64 - k) ≤ n * 2 ^ (64 - k) := Nat.mul_le_mul_right _ h3
    rw [← Nat.pow_add, show k - 1 + (64 - k) = 63 from by omega] at this
    have e := Int.ofNat_le.2 this
    rw [Int.natCast_mul, Int.natCast_pow] at e
    exact e
  · have : n * 2 ^ (64 - k) < 2 ^ k * 2 ^ (64 - k) := (Nat.mul_lt_mul_right (Nat.two_pow_pos _)).2 h4
    rw [← Nat.pow_add, show k + (64 - k) = 64 from by omega] at this
    have e := Int.ofNat_lt.2 this
    rw [Int.natCast_mul, Int.natCast_pow] at e
    exact e

theorem u64_or_add (a b : Int) (s : Nat) (h0 : 0 ≤ a) (h1 : a * 2 ^ s < 18446744073709551616) (h2 : 0 ≤ b) (h3 : b < 2 ^ s) (h4 : b < 18446744073709551616) :
    bits .or .u64 (a * 2 ^ s) b = a * 2 ^ s + b := by
  obtain ⟨a, rfl⟩ := Int.eq_ofNat_of_zero_le h0
  obtain ⟨b, rfl⟩ := Int.eq_ofNat_of_zero_le h2
  have e : ((a : Int) * 2 ^ s) = ((a * 2 ^ s : Nat) : Int) := by rw [Int.natCast_mul, Int.natCast_pow]; rfl
  have h3' : b < 2 ^ s := by
    have e2 : ((2 : Int) ^ s) = ((2 ^ s : Nat) : Int) := by rw [Int.natCast_pow]; rfl
    rw [e2] at h3
    exact Int.ofNat_lt.1 h3
  rw [e] at h1
  rw [e, u64_or_nat _ _ (by omega) (by omega), or_add _ _ _ h3', Int.natCast_add]

theorem mod_sub' {v d x : Int} (h0 : 0 ≤ v * 4294967296 + d - x) (h1 : v * 4294967296 + d - x < 18446744073709551616) :
    IntKind.u64.wrap (IntKind.u64.wrap (IntKind.u64.wrap (v * 4294967296) + d) - IntKind.u64.wrap x) = v * 4294967296 + d - x := by
  simp only [IntKind.wrap_u64]
  omega

theorem div64_any (hi lo y : Int) (w : World) (h0 : 0 ≤ hi) (h1 : hi < y) (h2 : y ≤ 18446744073709551615) (h3 : 0 ≤ lo) (h4 : lo ≤ 18446744073709551615) :
    Calls Try.prog 47 #[.int .u64 hi, .int .u64 lo, .int .u64 y] w fun e w' =>
      e = .returned (.tuple #[.int .u64 ((hi * 18446744073709551616 + lo) / y), .int .u64 ((hi * 18446744073709551616 + lo) % y)]) ∧ ∃ n, w' = w.drewN n := by
  by_cases hz : hi = 0
  · subst hz
    have e0 : (y == 0) = false := beq_eq_false_iff_ne.2 (by omega)
    have e2 : decide (y ≤ 0) = false := by simp; omega
    go_enter Try.func47, Try.ntmps47
    go_wp2
    go_quiet (fail)
    go_wp2
    go_returns
    refine ⟨?_, nq, rfl⟩
    rw [show 0 * 18446744073709551616 + lo = lo from by omega]
    rfl
  · obtain ⟨s, hls⟩ : ∃ s, lz y = s := ⟨_, rfl⟩
    have hb := lz_bounds y (by omega) h2
    rw [hls] at hb
    obtain ⟨hs, hD1, hD2⟩ := hb
    have hp : (0 : Int) < 2 ^ s := Int.pow_pos (by omega)
    have hr : (0 : Int) < 2 ^ (64 - s) := Int.pow_pos (by omega)
    have hpr := two_pow_split s (by omega)
    have hnl := norm_low (lo := lo) hp hr hpr
    have hnh := norm_high (lo := lo) hr hpr (by omega)
    have hle := norm_le hp h1
    have hB0 : 0 ≤ lo / 2 ^ (64 - s) := Int.ediv_nonneg h3 (by omega)
    have hB1 : lo / 2 ^ (64 - s) < 18446744073709551616 := by
      have := Int.ediv_le_self (2 ^ (64 - s)) h3
      omega
    have hA0 : 0 ≤ hi * 2 ^ s := Int.mul_nonneg h0 (by omega)
    have hwy : IntKind.u64.wrap (y * 2 ^ s) = y * 2 ^ s := IntWalk.u64_in _ ⟨by omega, by omega⟩
    have hwh : IntKind.u64.wrap (hi * 2 ^ s) = hi * 2 ^ s := IntWalk.u64_in _ ⟨by omega, by omega⟩
    have hor : bits .or .u64 (IntKind.u64.wrap (hi * 2 ^ s)) (lo / 2 ^ (64 - s)) = hi * 2 ^ s + lo / 2 ^ (64 - s) := by
      rw [hwh]; exact u64_or_add hi _ s h0 (by omega) hB0 hnh hB1
    have hwl : IntKind.u64.wrap (lo * 2 ^ s) = lo * 2 ^ s % 18446744073709551616 := IntKind.wrap_u64 _
    have hN : (hi * 18446744073709551616 + lo) * 2 ^ s = hi * 2 ^ s * 18446744073709551616 + lo * 2 ^ s := by
      rw [Int.add_mul, Int.mul_assoc, Int.mul_comm 18446744073709551616, Int.mul_assoc]
    have hsc := DivMath.scaled (N := hi * 18446744073709551616 + lo) (y := y) hp
    rw [hN] at hsc
    have hm : ∀ z : Int, 0 ≤ z → z < 18446744073709551616 → bits .and .u64 z 4294967295 = z % 4294967296 := fun z a b => and_low32 z a b
    have hm1 := hm (y * 2 ^ s) (by omega) (by omega)
    have hm2 := hm (lo * 2 ^ s % 18446744073709551616) (by omega) (by omega)
    clear hm
    generalize hBe : lo / 2 ^ (64 - s) = B at *
    generalize hAe : hi * 2 ^ s = A at *
    generalize hLe : lo * 2 ^ s = L at *
    generalize hDe : y * 2 ^ s = D at *
    obtain ⟨U, hU⟩ : ∃ U, A + B = U := ⟨_, rfl⟩
    obtain ⟨n1, hn1⟩ : ∃ n1, D / 4294967296 = n1 := ⟨_, rfl⟩
    obtain ⟨n0, hn0⟩ : ∃ n0, D % 4294967296 = n0 := ⟨_, rfl⟩
    obtain ⟨M, hM⟩ : ∃ M, L % 18446744073709551616 = M := ⟨_, rfl⟩
    obtain ⟨d1, hd1⟩ : ∃ d1, M / 4294967296 = d1 := ⟨_, rfl⟩
    obtain ⟨d0, hd0⟩ : ∃ d0, M % 4294967296 = d0 := ⟨_, rfl⟩
    have hDn : D = n1 * 4294967296 + n0 := by omega
    obtain ⟨q1, hq1⟩ : ∃ q1, q1 = (U * 4294967296 + d1) / D := ⟨_, rfl⟩
    obtain ⟨v1, hv1⟩ : ∃ v1, v1 = U * 4294967296 + d1 - q1 * D := ⟨_, rfl⟩
    obtain ⟨q0, hq0⟩ : ∃ q0, q0 = (v1 * 4294967296 + d0) / D := ⟨_, rfl⟩
    obtain ⟨v0, hv0⟩ : ∃ v0, v0 = v1 * 4294967296 + d0 - q0 * D := ⟨_, rfl⟩
    have t := DivMath.two_digits (U := U) (D := D) (d1 := d1) (d0 := d0) (by omega) q1 v1 hv1
    have z := DivMath.sub_mul_div (N := v1 * 4294967296 + d0) (D := D)
    rw [← hq0, ← hv0] at z
    rw [← hq0, ← z] at t
    have hN2 : A * 18446744073709551616 + L = U * 18446744073709551616 + d1 * 4294967296 + d0 := by omega
    rw [hN2, t.1, t.2] at hsc
    have f1 := DivMath.digit_facts (U := U) (d := d1) (n1 := n1) (n0 := n0) (q := q1) (v := v1) (by omega) (by omega) (by omega) (by omega) (by omega) (by omega) (by omega) (by omega) (by rw [← hDn]; exact hq1) (by rw [← hDn]; exact hv1)
    have f0 := DivMath.digit_facts (U := v1) (d := d0) (n1 := n1) (n0 := n0) (q := q0) (v := v0) (by omega) (by omega) (by omega) (by omega) (by omega) (by omega) (by omega) (by omega) (by rw [← hDn]; exact hq0) (by rw [← hDn]; exact hv0)
    rw [← hsc.1, ← hsc.2]
    have m1 : IntKind.u64.wrap (IntKind.u64.wrap (IntKind.u64.wrap (U * 4294967296) + d1) - IntKind.u64.wrap (q1 * D)) = v1 := by
      rw [mod_sub' (by omega) (by omega)]; exact hv1.symm
    have m0 : IntKind.u64.wrap (IntKind.u64.wrap (IntKind.u64.wrap (v1 * 4294967296) + d0) - IntKind.u64.wrap (q0 * D)) / 2 ^ s = v0 / 2 ^ s := by
      rw [mod_sub' (by omega) (by omega), ← hv0]
    refine (div64_norm hi lo y w (by omega) h1 h2 s hs hls D n1 n0 U M d1 d0 q1 v1 q0 (v0 / 2 ^ s) (by omega) (by omega) (by omega) (by omega) (by omega) (by omega) (by omega) (by omega) (by omega) (by omega)
      (by rw [hDe]; exact hwy) hn1 (by rw [hm1]; exact hn0) (by rw [hAe, hBe, hor]; exact hU) (by rw [hLe, hwl]; exact hM) hd1 (by rw [← hM, hm2, hM]; exact hd0)
      (by rw [← hDn]; exact hq1) f1.1 f1.2.1 f1.2.2.2.2.1 f1.2.2.2.2.2.1 m1 f1.2.2.1 f1.2.2.2.1 (by rw [← hDn]; exact hq0) f0.1 f0.2.1 f0.2.2.2.2.1 f0.2.2.2.2.2.1 m0
      f1.2.2.2.2.2.2.1 f1.2.2.2.2.2.2.2.1 f0.2.2.2.2.2.2.1 f0.2.2.2.2.2.2.2.1 f1.2.2.2.2.2.2.2.2 f0.2.2.2.2.2.2.2.2).mono ?_
    rintro e w' ⟨rfl, rfl⟩
    exact ⟨rfl, 0, rfl⟩

end Go.Proofs.Ytegbcagcfmijcaa
