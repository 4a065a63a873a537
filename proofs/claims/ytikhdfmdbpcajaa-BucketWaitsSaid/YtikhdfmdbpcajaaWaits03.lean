/-
  BucketWaits, walked over the contracts of package bucket: it returns true.
-/
import Derived.Test.YtikhdfmdbpcajaaLawKit03
namespace Go.Proofs.Ytikhdfmdbpcajaa
open Go.RowKit

theorem filL_now {bu ra pe le pt a : Int} (h : Buc bu ra pe le pt a) : filL bu ra pe le pt a a = le := by
  have e1 : inN ra pt a a = pt := by unfold inN; rw [Int.sub_self, Int.zero_mul, Int.zero_add]
  have e2 : pt / pe = 0 := Int.ediv_eq_zero_of_lt h.q0 h.q1
  have := h.l1
  unfold filL
  rw [if_neg (by omega), e1, e2]
  split <;> omega
theorem wait_small {bu ra pe le pt a c n : Int} (h : Buc bu ra pe le pt a) (hc : 0 ≤ c) (hw : IsWait bu ra pe le pt a c n) (hn : ¬ (n = 18446744073709551615 ∧ filL bu ra pe le pt a 18446744073709551615 < c)) :
    n ≤ 1000000000000000000 ∧ n ≤ 18446744073709551615 - a ∧ c ≤ filL bu ra pe le pt a (a + n) ∧ c ≤ filL bu ra pe le pt a 18446744073709551615 ∧ (n = 0 → c ≤ le) ∧ (0 < n → filL bu ra pe le pt a (a + n - 1) < c) := by
  have _ := hc
  rcases hw.is with e | ⟨b1, l1, m1⟩
  · exact absurd e hn
  · have hu := hw.num
    have ht := h.tick
    unfold isU at hu ht
    obtain ⟨k1, k2, k3, k4, k5, k6⟩ := h.nums
    have i1 := (h.holds_iff (c := c) hu.1 (by unfold isU; omega)).1 l1
    have hmono := filL_mono (t1 := a + n) (t2 := 18446744073709551615) h (by omega) (by omega)
    refine ⟨?_, b1, l1, by omega, fun e => ?_, fun hp => ?_⟩
    · rcases Int.lt_or_le 0 n with hp | hp
      · have f := m1 (n - 1) (by omega) (by omega)
        have i2 := h.holds_iff (c := c) (n := n - 1) (by omega) (by unfold isU; omega)
        have hv := h.vol0
        have g1 : vol pe le pt + (n - 1) * ra < c * pe := by
          rcases Int.lt_or_le (vol pe le pt + (n - 1) * ra) (c * pe) with q | q
          · exact q
          · have := i2.2 ⟨i1.1, q⟩
            omega
        have g2 : c * pe ≤ 1000000000 * 1000000000 := Int.mul_le_mul (by omega) (by omega) (by omega) (by omega)
        rcases Int.lt_or_le 0 ra with r | r
        · have g3 := Int.mul_le_mul_of_nonneg_left (show 1 ≤ ra by omega) (show 0 ≤ n - 1 by omega)
          omega
        · obtain rfl : ra = 0 := by omega
          have := i1.2
          rw [Int.mul_zero] at this g1
          omega
      · omega
    · subst e
      rw [Int.add_zero, filL_now h] at l1
      exact l1
    · rw [show a + n - 1 = a + (n - 1) by omega]
      exact m1 (n - 1) (by omega) (by omega)

set_option maxRecDepth 100000 in
set_option maxHeartbeats 3200000 in
theorem waitsl_bad {bu ra pe le pt a c : Int} (h : Hid (bucE bu ra pe le pt = 8)) (w : World) :
    Calls Try.prog 7 #[.agg #[.int .i64 bu, .int .i64 ra, .int .i64 pe, .int .i64 le, .int .i64 pt, .int .u64 a], .int .i64 c] w fun e w' => e = .returned (.bool true) ∧ Below w.heap.size w w' := by
  go_enter Try.func7, Try.ntmps7
  go_wp2_with fail
  refine (rcheck_is h _).mono ?_
  rintro e w1 ⟨rfl, hb⟩
  have hB1 : Below w.heap.size w w1 := below_thru (by go_grown) hb
  have hs1 : w.heap.size ≤ w1.heap.size := hB1.size
  have x_x1 : Box w1 (w.heap.size) [.int .i64 bu, .int .i64 ra, .int .i64 pe, .int .i64 le, .int .i64 pt, .int .u64 a] := (by refine Box.below ?_ hb; repeat (first | (with_reducible assumption) | (with_reducible refine Box.drew ?_) | (with_reducible refine Box.drewN ?_ _) | ((with_reducible refine Box.new ?_); simp; done) | (with_reducible apply Box.set2) | ((with_reducible apply Box.put); (with_reducible assumption); rfl) | (with_reducible refine Box.alloc ?_ _) | (with_reducible refine Box.other ?_ (by first | (dsimp only; omega) | omega) _)))
  have z_x1 := x_x1.lt
  have c_x1_0 := x_x1.c 0 _ rfl
  have f_x1_0 := x_x1.f 0 _ rfl
  have c_x1_1 := x_x1.c 1 _ rfl
  have f_x1_1 := x_x1.f 1 _ rfl
  have c_x1_2 := x_x1.c 2 _ rfl
  have f_x1_2 := x_x1.f 2 _ rfl
  have c_x1_3 := x_x1.c 3 _ rfl
  have f_x1_3 := x_x1.f 3 _ rfl
  have c_x1_4 := x_x1.c 4 _ rfl
  have f_x1_4 := x_x1.f 4 _ rfl
  have c_x1_5 := x_x1.c 5 _ rfl
  have f_x1_5 := x_x1.f 5 _ rfl
  have t1 := hb.size
  try simp at t1
  clear hb
  go_wp2_with fail
  refine (alive03_any _).mono ?_
  rintro e w2 ⟨rfl, hb⟩
  have hB2 : Below w.heap.size w w2 := below_thru (by go_grown) hb
  have hs2 : w.heap.size ≤ w2.heap.size := hB2.size
  have x_x2 : Box w2 (w.heap.size) [.int .i64 bu, .int .i64 ra, .int .i64 pe, .int .i64 le, .int .i64 pt, .int .u64 a] := (by refine Box.below ?_ hb; repeat (first | (with_reducible assumption) | (with_reducible refine Box.drew ?_) | (with_reducible refine Box.drewN ?_ _) | ((with_reducible refine Box.new ?_); simp; done) | (with_reducible apply Box.set2) | ((with_reducible apply Box.put); (with_reducible assumption); rfl) | (with_reducible refine Box.alloc ?_ _) | (with_reducible refine Box.other ?_ (by first | (dsimp only; omega) | omega) _)))
  have z_x2 := x_x2.lt
  have c_x2_0 := x_x2.c 0 _ rfl
  have f_x2_0 := x_x2.f 0 _ rfl
  have c_x2_1 := x_x2.c 1 _ rfl
  have f_x2_1 := x_x2.f 1 _ rfl
  have c_x2_2 := x_x2.c 2 _ rfl
  have f_x2_2 := x_x2.f 2 _ rfl
  have c_x2_3 := x_x2.c 3 _ rfl
  have f_x2_3 := x_x2.f 3 _ rfl
  have c_x2_4 := x_x2.c 4 _ rfl
  have f_x2_4 := x_x2.f 4 _ rfl
  have c_x2_5 := x_x2.c 5 _ rfl
  have f_x2_5 := x_x2.f 5 _ rfl
  have t2 := hb.size
  try simp at t2
  clear hb hB1 hs1 x_x1 z_x1 c_x1_0 c_x1_1 c_x1_2 c_x1_3 c_x1_4 c_x1_5 f_x1_0 f_x1_1 f_x1_2 f_x1_3 f_x1_4 f_x1_5
  go_wp2_with fail
  go_returns
  exact ⟨rfl, by go_grown⟩

set_option maxRecDepth 100000 in
set_option maxHeartbeats 3200000 in
theorem waitsl_arg {bu ra pe le pt a c : Int} (h : Hid (bucE bu ra pe le pt = 0)) (hc : c < 0) (w : World) :
    Calls Try.prog 7 #[.agg #[.int .i64 bu, .int .i64 ra, .int .i64 pe, .int .i64 le, .int .i64 pt, .int .u64 a], .int .i64 c] w fun e w' => e = .returned (.bool true) ∧ Below w.heap.size w w' := by
  have d1 : decide (c < 0) = true := decide_eq_true hc
  go_enter Try.func7, Try.ntmps7
  go_wp2_with fail
  refine (rcheck_is h _).mono ?_
  rintro e w1 ⟨rfl, hb⟩
  have hB1 : Below w.heap.size w w1 := below_thru (by go_grown) hb
  have hs1 : w.heap.size ≤ w1.heap.size := hB1.size
  have x_x1 : Box w1 (w.heap.size) [.int .i64 bu, .int .i64 ra, .int .i64 pe, .int .i64 le, .int .i64 pt, .int .u64 a] := (by refine Box.below ?_ hb; repeat (first | (with_reducible assumption) | (with_reducible refine Box.drew ?_) | (with_reducible refine Box.drewN ?_ _) | ((with_reducible refine Box.new ?_); simp; done) | (with_reducible apply Box.set2) | ((with_reducible apply Box.put); (with_reducible assumption); rfl) | (with_reducible refine Box.alloc ?_ _) | (with_reducible refine Box.other ?_ (by first | (dsimp only; omega) | omega) _)))
  have z_x1 := x_x1.lt
  have c_x1_0 := x_x1.c 0 _ rfl
  have f_x1_0 := x_x1.f 0 _ rfl
  have c_x1_1 := x_x1.c 1 _ rfl
  have f_x1_1 := x_x1.f 1 _ rfl
  have c_x1_2 := x_x1.c 2 _ rfl
  have f_x1_2 := x_x1.f 2 _ rfl
  have c_x1_3 := x_x1.c 3 _ rfl
  have f_x1_3 := x_x1.f 3 _ rfl
  have c_x1_4 := x_x1.c 4 _ rfl
  have f_x1_4 := x_x1.f 4 _ rfl
  have c_x1_5 := x_x1.c 5 _ rfl
  have f_x1_5 := x_x1.f 5 _ rfl
  have t1 := hb.size
  try simp at t1
  clear hb
  go_wp2_with fail
  refine (alive03_any _).mono ?_
  rintro e w2 ⟨rfl, hb⟩
  have hB2 : Below w.heap.size w w2 := below_thru (by go_grown) hb
  have hs2 : w.heap.size ≤ w2.heap.size := hB2.size
  have x_x2 : Box w2 (w.heap.size) [.int .i64 bu, .int .i64 ra, .int .i64 pe, .int .i64 le, .int .i64 pt, .int .u64 a] := (by refine Box.below ?_ hb; repeat (first | (with_reducible assumption) | (with_reducible refine Box.drew ?_) | (with_reducible refine Box.drewN ?_ _) | ((with_reducible refine Box.new ?_); simp; done) | (with_reducible apply Box.set2) | ((with_reducible apply Box.put); (with_reducible assumption); rfl) | (with_reducible refine Box.alloc ?_ _) | (with_reducible refine Box.other ?_ (by first | (dsimp only; omega) | omega) _)))
  have z_x2 := x_x2.lt
  have c_x2_0 := x_x2.c 0 _ rfl
  have f_x2_0 := x_x2.f 0 _ rfl
  have c_x2_1 := x_x2.c 1 _ rfl
  have f_x2_1 := x_x2.f 1 _ rfl
  have c_x2_2 := x_x2.c 2 _ rfl
  have f_x2_2 := x_x2.f 2 _ rfl
  have c_x2_3 := x_x2.c 3 _ rfl
  have f_x2_3 := x_x2.f 3 _ rfl
  have c_x2_4 := x_x2.c 4 _ rfl
  have f_x2_4 := x_x2.f 4 _ rfl
  have c_x2_5 := x_x2.c 5 _ rfl
  have f_x2_5 := x_x2.f 5 _ rfl
  have t2 := hb.size
  try simp at t2
  clear hb hB1 hs1 x_x1 z_x1 c_x1_0 c_x1_1 c_x1_2 c_x1_3 c_x1_4 c_x1_5 f_x1_0 f_x1_1 f_x1_2 f_x1_3 f_x1_4 f_x1_5
  go_wp2_with fail
  go_returns
  exact ⟨rfl, by go_grown⟩

set_option maxRecDepth 100000 in
set_option maxHeartbeats 3200000 in
theorem waitsl_never {bu ra pe le pt a c : Int} (hb : Buc bu ra pe le pt a) (hc : 0 ≤ c) (hw : IsWait bu ra pe le pt a c 18446744073709551615) (hl : filL bu ra pe le pt a 18446744073709551615 < c) (w : World) :
    Calls Try.prog 7 #[.agg #[.int .i64 bu, .int .i64 ra, .int .i64 pe, .int .i64 le, .int .i64 pt, .int .u64 a], .int .i64 c] w fun e w' => e = .returned (.bool true) ∧ Below w.heap.size w w' := by
  have d1 : decide (c < 0) = false := decide_eq_false (by omega)
  have h := Lib.hid hb.ok
  have HB := Lib.hid hb
  have HW := Lib.hid hw
  have ht := hb.tick
  obtain ⟨L, e1⟩ : ∃ x, filL bu ra pe le pt a 18446744073709551615 = x := ⟨_, rfl⟩
  obtain ⟨Q, e2⟩ : ∃ x, filP bu ra pe le pt a 18446744073709551615 = x := ⟨_, rfl⟩
  have E1 := Lib.hid e1
  have E2 := Lib.hid e2
  have E3 := Lib.hid (show filA a 18446744073709551615 = 18446744073709551615 from if_neg (by unfold isU at ht; omega))
  have d2 : decide (L < c) = true := decide_eq_true (by rw [← e1]; exact hl)
  clear e1 e2 hl hb hw ht
  go_enter Try.func7, Try.ntmps7
  go_wp2_with fail
  refine (rcheck_is h _).mono ?_
  rintro e w1 ⟨rfl, hb⟩
  have hB1 : Below w.heap.size w w1 := below_thru (by go_grown) hb
  have hs1 : w.heap.size ≤ w1.heap.size := hB1.size
  have x_x1 : Box w1 (w.heap.size) [.int .i64 bu, .int .i64 ra, .int .i64 pe, .int .i64 le, .int .i64 pt, .int .u64 a] := (by refine Box.below ?_ hb; repeat (first | (with_reducible assumption) | (with_reducible refine Box.drew ?_) | (with_reducible refine Box.drewN ?_ _) | ((with_reducible refine Box.new ?_); simp; done) | (with_reducible apply Box.set2) | ((with_reducible apply Box.put); (with_reducible assumption); rfl) | (with_reducible refine Box.alloc ?_ _) | (with_reducible refine Box.other ?_ (by first | (dsimp only; omega) | omega) _)))
  have z_x1 := x_x1.lt
  have c_x1_0 := x_x1.c 0 _ rfl
  have f_x1_0 := x_x1.f 0 _ rfl
  have c_x1_1 := x_x1.c 1 _ rfl
  have f_x1_1 := x_x1.f 1 _ rfl
  have c_x1_2 := x_x1.c 2 _ rfl
  have f_x1_2 := x_x1.f 2 _ rfl
  have c_x1_3 := x_x1.c 3 _ rfl
  have f_x1_3 := x_x1.f 3 _ rfl
  have c_x1_4 := x_x1.c 4 _ rfl
  have f_x1_4 := x_x1.f 4 _ rfl
  have c_x1_5 := x_x1.c 5 _ rfl
  have f_x1_5 := x_x1.f 5 _ rfl
  have t1 := hb.size
  try simp at t1
  clear hb
  go_wp2_with fail
  refine (wait_ok HB.out hc HW _).mono ?_
  rintro e w2 ⟨rfl, hb⟩
  have hB2 : Below w.heap.size w w2 := below_thru (by go_grown) hb
  have hs2 : w.heap.size ≤ w2.heap.size := hB2.size
  have x_x2 : Box w2 (w.heap.size) [.int .i64 bu, .int .i64 ra, .int .i64 pe, .int .i64 le, .int .i64 pt, .int .u64 a] := (by refine Box.below ?_ hb; repeat (first | (with_reducible assumption) | (with_reducible refine Box.drew ?_) | (with_reducible refine Box.drewN ?_ _) | ((with_reducible refine Box.new ?_); simp; done) | (with_reducible apply Box.set2) | ((with_reducible apply Box.put); (with_reducible assumption); rfl) | (with_reducible refine Box.alloc ?_ _) | (with_reducible refine Box.other ?_ (by first | (dsimp only; omega) | omega) _)))
  have z_x2 := x_x2.lt
  have c_x2_0 := x_x2.c 0 _ rfl
  have f_x2_0 := x_x2.f 0 _ rfl
  have c_x2_1 := x_x2.c 1 _ rfl
  have f_x2_1 := x_x2.f 1 _ rfl
  have c_x2_2 := x_x2.c 2 _ rfl
  have f_x2_2 := x_x2.f 2 _ rfl
  have c_x2_3 := x_x2.c 3 _ rfl
  have f_x2_3 := x_x2.f 3 _ rfl
  have c_x2_4 := x_x2.c 4 _ rfl
  have f_x2_4 := x_x2.f 4 _ rfl
  have c_x2_5 := x_x2.c 5 _ rfl
  have f_x2_5 := x_x2.f 5 _ rfl
  have t2 := hb.size
  try simp at t2
  clear hb hB1 hs1 x_x1 z_x1 c_x1_0 c_x1_1 c_x1_2 c_x1_3 c_x1_4 c_x1_5 f_x1_0 f_x1_1 f_x1_2 f_x1_3 f_x1_4 f_x1_5
  go_wp2_with fail
  refine (refill_ok HB.out uMax E1 E2 E3 _).mono ?_
  rintro e w3 ⟨rfl, hb⟩
  have hB3 : Below w.heap.size w w3 := below_thru (by go_grown) hb
  have hs3 : w.heap.size ≤ w3.heap.size := hB3.size
  have x_x3 : Box w3 (w.heap.size) [.int .i64 bu, .int .i64 ra, .int .i64 pe, .int .i64 le, .int .i64 pt, .int .u64 a] := (by refine Box.below ?_ hb; repeat (first | (with_reducible assumption) | (with_reducible refine Box.drew ?_) | (with_reducible refine Box.drewN ?_ _) | ((with_reducible refine Box.new ?_); simp; done) | (with_reducible apply Box.set2) | ((with_reducible apply Box.put); (with_reducible assumption); rfl) | (with_reducible refine Box.alloc ?_ _) | (with_reducible refine Box.other ?_ (by first | (dsimp only; omega) | omega) _)))
  have z_x3 := x_x3.lt
  have c_x3_0 := x_x3.c 0 _ rfl
  have f_x3_0 := x_x3.f 0 _ rfl
  have c_x3_1 := x_x3.c 1 _ rfl
  have f_x3_1 := x_x3.f 1 _ rfl
  have c_x3_2 := x_x3.c 2 _ rfl
  have f_x3_2 := x_x3.f 2 _ rfl
  have c_x3_3 := x_x3.c 3 _ rfl
  have f_x3_3 := x_x3.f 3 _ rfl
  have c_x3_4 := x_x3.c 4 _ rfl
  have f_x3_4 := x_x3.f 4 _ rfl
  have c_x3_5 := x_x3.c 5 _ rfl
  have f_x3_5 := x_x3.f 5 _ rfl
  have t3 := hb.size
  try simp at t3
  clear hb hB2 hs2 x_x2 z_x2 c_x2_0 c_x2_1 c_x2_2 c_x2_3 c_x2_4 c_x2_5 f_x2_0 f_x2_1 f_x2_2 f_x2_3 f_x2_4 f_x2_5
  go_wp2_with fail
  refine (alive03_any _).mono ?_
  rintro e w4 ⟨rfl, hb⟩
  have hB4 : Below w.heap.size w w4 := below_thru (by go_grown) hb
  have hs4 : w.heap.size ≤ w4.heap.size := hB4.size
  have x_x4 : Box w4 (w.heap.size) [.int .i64 bu, .int .i64 ra, .int .i64 pe, .int .i64 le, .int .i64 pt, .int .u64 a] := (by refine Box.below ?_ hb; repeat (first | (with_reducible assumption) | (with_reducible refine Box.drew ?_) | (with_reducible refine Box.drewN ?_ _) | ((with_reducible refine Box.new ?_); simp; done) | (with_reducible apply Box.set2) | ((with_reducible apply Box.put); (with_reducible assumption); rfl) | (with_reducible refine Box.alloc ?_ _) | (with_reducible refine Box.other ?_ (by first | (dsimp only; omega) | omega) _)))
  have z_x4 := x_x4.lt
  have c_x4_0 := x_x4.c 0 _ rfl
  have f_x4_0 := x_x4.f 0 _ rfl
  have c_x4_1 := x_x4.c 1 _ rfl
  have f_x4_1 := x_x4.f 1 _ rfl
  have c_x4_2 := x_x4.c 2 _ rfl
  have f_x4_2 := x_x4.f 2 _ rfl
  have c_x4_3 := x_x4.c 3 _ rfl
  have f_x4_3 := x_x4.f 3 _ rfl
  have c_x4_4 := x_x4.c 4 _ rfl
  have f_x4_4 := x_x4.f 4 _ rfl
  have c_x4_5 := x_x4.c 5 _ rfl
  have f_x4_5 := x_x4.f 5 _ rfl
  have x_f4 : Box w4 (w3.heap.size) [.int .i64 bu, .int .i64 ra, .int .i64 pe, .int .i64 L, .int .i64 Q, .int .u64 18446744073709551615] := (by refine Box.below ?_ hb; repeat (first | (with_reducible assumption) | (with_reducible refine Box.drew ?_) | (with_reducible refine Box.drewN ?_ _) | ((with_reducible refine Box.new ?_); simp; done) | (with_reducible apply Box.set2) | ((with_reducible apply Box.put); (with_reducible assumption); rfl) | (with_reducible refine Box.alloc ?_ _) | (with_reducible refine Box.other ?_ (by first | (dsimp only; omega) | omega) _)))
  have z_f4 := x_f4.lt
  have c_f4_0 := x_f4.c 0 _ rfl
  have f_f4_0 := x_f4.f 0 _ rfl
  have c_f4_1 := x_f4.c 1 _ rfl
  have f_f4_1 := x_f4.f 1 _ rfl
  have c_f4_2 := x_f4.c 2 _ rfl
  have f_f4_2 := x_f4.f 2 _ rfl
  have c_f4_3 := x_f4.c 3 _ rfl
  have f_f4_3 := x_f4.f 3 _ rfl
  have c_f4_4 := x_f4.c 4 _ rfl
  have f_f4_4 := x_f4.f 4 _ rfl
  have c_f4_5 := x_f4.c 5 _ rfl
  have f_f4_5 := x_f4.f 5 _ rfl
  have t4 := hb.size
  try simp at t4
  clear hb hB3 hs3 x_x3 z_x3 c_x3_0 c_x3_1 c_x3_2 c_x3_3 c_x3_4 c_x3_5 f_x3_0 f_x3_1 f_x3_2 f_x3_3 f_x3_4 f_x3_5
  go_wp2_with fail
  go_returns
  exact ⟨rfl, by go_grown⟩

set_option maxRecDepth 100000 in
set_option maxHeartbeats 3200000 in
theorem waitsl_zero {bu ra pe le pt a c n : Int} (hb : Buc bu ra pe le pt a) (hc : 0 ≤ c) (hw : IsWait bu ra pe le pt a c n) (hn : ¬ (n = 18446744073709551615 ∧ filL bu ra pe le pt a 18446744073709551615 < c)) (h0 : n = 0) (w : World) :
    Calls Try.prog 7 #[.agg #[.int .i64 bu, .int .i64 ra, .int .i64 pe, .int .i64 le, .int .i64 pt, .int .u64 a], .int .i64 c] w fun e w' => e = .returned (.bool true) ∧ Below w.heap.size w w' := by
  have d1 : decide (c < 0) = false := decide_eq_false (by omega)
  have h := Lib.hid hb.ok
  have HB := Lib.hid hb
  have HW := Lib.hid hw
  have ht := hb.tick
  obtain ⟨L, e1⟩ : ∃ x, filL bu ra pe le pt a 18446744073709551615 = x := ⟨_, rfl⟩
  obtain ⟨Q, e2⟩ : ∃ x, filP bu ra pe le pt a 18446744073709551615 = x := ⟨_, rfl⟩
  have E1 := Lib.hid e1
  have E2 := Lib.hid e2
  have E3 := Lib.hid (show filA a 18446744073709551615 = 18446744073709551615 from if_neg (by unfold isU at ht; omega))
  obtain ⟨s1, s2, s3, s4, s5, s6⟩ := wait_small hb hc hw hn
  have hu := hw.num
  unfold isU at ht hu
  have hle : L ≤ 1000000000 := by rw [← e1]; have := (hb.filled (t := 18446744073709551615) uMax).l1; have := hb.nums; omega
  have d2 : decide (L < c) = false := decide_eq_false (by rw [← e1]; omega)
  have d3 : (n == 18446744073709551615) = false := beq_eq_false_iff_ne.2 (by omega)
  have d4 : decide (18446744073709551615 - a < n) = false := decide_eq_false (by omega)
  have d5 : decide (1000000000000000000 < n) = false := decide_eq_false (by omega)
  obtain ⟨L2, e3⟩ : ∃ x, filL bu ra pe le pt a (a + n) = x := ⟨_, rfl⟩
  obtain ⟨Q2, e4⟩ : ∃ x, filP bu ra pe le pt a (a + n) = x := ⟨_, rfl⟩
  have b2 := hb.filled (t := a + n) (by unfold isU; omega)
  have ea : filA a (a + n) = a + n := if_neg (by omega)
  rw [e3, e4, ea] at b2
  rw [e3] at s3
  have ok2 := Lib.hid b2.ok
  have F1 := Lib.hid e3
  have F2 := Lib.hid e4
  have F3 := Lib.hid ea
  have hl2 : L2 ≤ 1000000000 := by have := b2.l1; have := hb.nums; omega
  have tn : isU (a + n) := by unfold isU; omega
  have a0 : 0 ≤ a := ht.1
  have a1 : a ≤ 18446744073709551615 := ht.2
  have a2 : 0 ≤ a + n := by omega
  have a3 : a + n ≤ 18446744073709551615 := by omega
  have wr1 : IntKind.u64.wrap (18446744073709551615 - a) = 18446744073709551615 - a := IntWalk.u64_in _ (by omega)
  have d6 : (n == 0) = true := by rw [h0]; rfl
  have d7 : decide (c ≤ le) = true := decide_eq_true (s5 h0)
  clear e1 e2 e3 e4 ea b2 s5 s6 hn hb hw h0
  go_enter Try.func7, Try.ntmps7
  go_wp2_with fail
  refine (rcheck_is h _).mono ?_
  rintro e w1 ⟨rfl, hb⟩
  have hB1 : Below w.heap.size w w1 := below_thru (by go_grown) hb
  have hs1 : w.heap.size ≤ w1.heap.size := hB1.size
  have x_x1 : Box w1 (w.heap.size) [.int .i64 bu, .int .i64 ra, .int .i64 pe, .int .i64 le, .int .i64 pt, .int .u64 a] := (by refine Box.below ?_ hb; repeat (first | (with_reducible assumption) | (with_reducible refine Box.drew ?_) | (with_reducible refine Box.drewN ?_ _) | ((with_reducible refine Box.new ?_); simp; done) | (with_reducible apply Box.set2) | ((with_reducible apply Box.put); (with_reducible assumption); rfl) | (with_reducible refine Box.alloc ?_ _) | (with_reducible refine Box.other ?_ (by first | (dsimp only; omega) | omega) _)))
  have z_x1 := x_x1.lt
  have c_x1_0 := x_x1.c 0 _ rfl
  have f_x1_0 := x_x1.f 0 _ rfl
  have c_x1_1 := x_x1.c 1 _ rfl
  have f_x1_1 := x_x1.f 1 _ rfl
  have c_x1_2 := x_x1.c 2 _ rfl
  have f_x1_2 := x_x1.f 2 _ rfl
  have c_x1_3 := x_x1.c 3 _ rfl
  have f_x1_3 := x_x1.f 3 _ rfl
  have c_x1_4 := x_x1.c 4 _ rfl
  have f_x1_4 := x_x1.f 4 _ rfl
  have c_x1_5 := x_x1.c 5 _ rfl
  have f_x1_5 := x_x1.f 5 _ rfl
  have t1 := hb.size
  try simp at t1
  clear hb
  go_wp2_with fail
  refine (wait_ok HB.out hc HW _).mono ?_
  rintro e w2 ⟨rfl, hb⟩
  have hB2 : Below w.heap.size w w2 := below_thru (by go_grown) hb
  have hs2 : w.heap.size ≤ w2.heap.size := hB2.size
  have x_x2 : Box w2 (w.heap.size) [.int .i64 bu, .int .i64 ra, .int .i64 pe, .int .i64 le, .int .i64 pt, .int .u64 a] := (by refine Box.below ?_ hb; repeat (first | (with_reducible assumption) | (with_reducible refine Box.drew ?_) | (with_reducible refine Box.drewN ?_ _) | ((with_reducible refine Box.new ?_); simp; done) | (with_reducible apply Box.set2) | ((with_reducible apply Box.put); (with_reducible assumption); rfl) | (with_reducible refine Box.alloc ?_ _) | (with_reducible refine Box.other ?_ (by first | (dsimp only; omega) | omega) _)))
  have z_x2 := x_x2.lt
  have c_x2_0 := x_x2.c 0 _ rfl
  have f_x2_0 := x_x2.f 0 _ rfl
  have c_x2_1 := x_x2.c 1 _ rfl
  have f_x2_1 := x_x2.f 1 _ rfl
  have c_x2_2 := x_x2.c 2 _ rfl
  have f_x2_2 := x_x2.f 2 _ rfl
  have c_x2_3 := x_x2.c 3 _ rfl
  have f_x2_3 := x_x2.f 3 _ rfl
  have c_x2_4 := x_x2.c 4 _ rfl
  have f_x2_4 := x_x2.f 4 _ rfl
  have c_x2_5 := x_x2.c 5 _ rfl
  have f_x2_5 := x_x2.f 5 _ rfl
  have t2 := hb.size
  try simp at t2
  clear hb hB1 hs1 x_x1 z_x1 c_x1_0 c_x1_1 c_x1_2 c_x1_3 c_x1_4 c_x1_5 f_x1_0 f_x1_1 f_x1_2 f_x1_3 f_x1_4 f_x1_5
  go_wp2_with fail
  refine (refill_ok HB.out uMax E1 E2 E3 _).mono ?_
  rintro e w3 ⟨rfl, hb⟩
  have hB3 : Below w.heap.size w w3 := below_thru (by go_grown) hb
  have hs3 : w.heap.size ≤ w3.heap.size := hB3.size
  have x_x3 : Box w3 (w.heap.size) [.int .i64 bu, .int .i64 ra, .int .i64 pe, .int .i64 le, .int .i64 pt, .int .u64 a] := (by refine Box.below ?_ hb; repeat (first | (with_reducible assumption) | (with_reducible refine Box.drew ?_) | (with_reducible refine Box.drewN ?_ _) | ((with_reducible refine Box.new ?_); simp; done) | (with_reducible apply Box.set2) | ((with_reducible apply Box.put); (with_reducible assumption); rfl) | (with_reducible refine Box.alloc ?_ _) | (with_reducible refine Box.other ?_ (by first | (dsimp only; omega) | omega) _)))
  have z_x3 := x_x3.lt
  have c_x3_0 := x_x3.c 0 _ rfl
  have f_x3_0 := x_x3.f 0 _ rfl
  have c_x3_1 := x_x3.c 1 _ rfl
  have f_x3_1 := x_x3.f 1 _ rfl
  have c_x3_2 := x_x3.c 2 _ rfl
  have f_x3_2 := x_x3.f 2 _ rfl
  have c_x3_3 := x_x3.c 3 _ rfl
  have f_x3_3 := x_x3.f 3 _ rfl
  have c_x3_4 := x_x3.c 4 _ rfl
  have f_x3_4 := x_x3.f 4 _ rfl
  have c_x3_5 := x_x3.c 5 _ rfl
  have f_x3_5 := x_x3.f 5 _ rfl
  have t3 := hb.size
  try simp at t3
  clear hb hB2 hs2 x_x2 z_x2 c_x2_0 c_x2_1 c_x2_2 c_x2_3 c_x2_4 c_x2_5 f_x2_0 f_x2_1 f_x2_2 f_x2_3 f_x2_4 f_x2_5
  go_wp2_with fail
  refine (refill_ok HB.out tn F1 F2 F3 _).mono ?_
  rintro e w4 ⟨rfl, hb⟩
  have hB4 : Below w.heap.size w w4 := below_thru (by go_grown) hb
  have hs4 : w.heap.size ≤ w4.heap.size := hB4.size
  have x_x4 : Box w4 (w.heap.size) [.int .i64 bu, .int .i64 ra, .int .i64 pe, .int .i64 le, .int .i64 pt, .int .u64 a] := (by refine Box.below ?_ hb; repeat (first | (with_reducible assumption) | (with_reducible refine Box.drew ?_) | (with_reducible refine Box.drewN ?_ _) | ((with_reducible refine Box.new ?_); simp; done) | (with_reducible apply Box.set2) | ((with_reducible apply Box.put); (with_reducible assumption); rfl) | (with_reducible refine Box.alloc ?_ _) | (with_reducible refine Box.other ?_ (by first | (dsimp only; omega) | omega) _)))
  have z_x4 := x_x4.lt
  have c_x4_0 := x_x4.c 0 _ rfl
  have f_x4_0 := x_x4.f 0 _ rfl
  have c_x4_1 := x_x4.c 1 _ rfl
  have f_x4_1 := x_x4.f 1 _ rfl
  have c_x4_2 := x_x4.c 2 _ rfl
  have f_x4_2 := x_x4.f 2 _ rfl
  have c_x4_3 := x_x4.c 3 _ rfl
  have f_x4_3 := x_x4.f 3 _ rfl
  have c_x4_4 := x_x4.c 4 _ rfl
  have f_x4_4 := x_x4.f 4 _ rfl
  have c_x4_5 := x_x4.c 5 _ rfl
  have f_x4_5 := x_x4.f 5 _ rfl
  have x_f4 : Box w4 (w3.heap.size) [.int .i64 bu, .int .i64 ra, .int .i64 pe, .int .i64 L, .int .i64 Q, .int .u64 18446744073709551615] := (by refine Box.below ?_ hb; repeat (first | (with_reducible assumption) | (with_reducible refine Box.drew ?_) | (with_reducible refine Box.drewN ?_ _) | ((with_reducible refine Box.new ?_); simp; done) | (with_reducible apply Box.set2) | ((with_reducible apply Box.put); (with_reducible assumption); rfl) | (with_reducible refine Box.alloc ?_ _) | (with_reducible refine Box.other ?_ (by first | (dsimp only; omega) | omega) _)))
  have z_f4 := x_f4.lt
  have c_f4_0 := x_f4.c 0 _ rfl
  have f_f4_0 := x_f4.f 0 _ rfl
  have c_f4_1 := x_f4.c 1 _ rfl
  have f_f4_1 := x_f4.f 1 _ rfl
  have c_f4_2 := x_f4.c 2 _ rfl
  have f_f4_2 := x_f4.f 2 _ rfl
  have c_f4_3 := x_f4.c 3 _ rfl
  have f_f4_3 := x_f4.f 3 _ rfl
  have c_f4_4 := x_f4.c 4 _ rfl
  have f_f4_4 := x_f4.f 4 _ rfl
  have c_f4_5 := x_f4.c 5 _ rfl
  have f_f4_5 := x_f4.f 5 _ rfl
  have t4 := hb.size
  try simp at t4
  clear hb hB3 hs3 x_x3 z_x3 c_x3_0 c_x3_1 c_x3_2 c_x3_3 c_x3_4 c_x3_5 f_x3_0 f_x3_1 f_x3_2 f_x3_3 f_x3_4 f_x3_5
  go_wp2_with fail
  refine (charge_ok ok2 hc s3 hl2 _).mono ?_
  rintro e w5 ⟨rfl, hb⟩
  have hB5 : Below w.heap.size w w5 := below_thru (by go_grown) hb
  have hs5 : w.heap.size ≤ w5.heap.size := hB5.size
  have x_x5 : Box w5 (w.heap.size) [.int .i64 bu, .int .i64 ra, .int .i64 pe, .int .i64 le, .int .i64 pt, .int .u64 a] := (by refine Box.below ?_ hb; repeat (first | (with_reducible assumption) | (with_reducible refine Box.drew ?_) | (with_reducible refine Box.drewN ?_ _) | ((with_reducible refine Box.new ?_); simp; done) | (with_reducible apply Box.set2) | ((with_reducible apply Box.put); (with_reducible assumption); rfl) | (with_reducible refine Box.alloc ?_ _) | (with_reducible refine Box.other ?_ (by first | (dsimp only; omega) | omega) _)))
  have z_x5 := x_x5.lt
  have c_x5_0 := x_x5.c 0 _ rfl
  have f_x5_0 := x_x5.f 0 _ rfl
  have c_x5_1 := x_x5.c 1 _ rfl
  have f_x5_1 := x_x5.f 1 _ rfl
  have c_x5_2 := x_x5.c 2 _ rfl
  have f_x5_2 := x_x5.f 2 _ rfl
  have c_x5_3 := x_x5.c 3 _ rfl
  have f_x5_3 := x_x5.f 3 _ rfl
  have c_x5_4 := x_x5.c 4 _ rfl
  have f_x5_4 := x_x5.f 4 _ rfl
  have c_x5_5 := x_x5.c 5 _ rfl
  have f_x5_5 := x_x5.f 5 _ rfl
  have x_f5 : Box w5 (w3.heap.size) [.int .i64 bu, .int .i64 ra, .int .i64 pe, .int .i64 L, .int .i64 Q, .int .u64 18446744073709551615] := (by refine Box.below ?_ hb; repeat (first | (with_reducible assumption) | (with_reducible refine Box.drew ?_) | (with_reducible refine Box.drewN ?_ _) | ((with_reducible refine Box.new ?_); simp; done) | (with_reducible apply Box.set2) | ((with_reducible apply Box.put); (with_reducible assumption); rfl) | (with_reducible refine Box.alloc ?_ _) | (with_reducible refine Box.other ?_ (by first | (dsimp only; omega) | omega) _)))
  have z_f5 := x_f5.lt
  have c_f5_0 := x_f5.c 0 _ rfl
  have f_f5_0 := x_f5.f 0 _ rfl
  have c_f5_1 := x_f5.c 1 _ rfl
  have f_f5_1 := x_f5.f 1 _ rfl
  have c_f5_2 := x_f5.c 2 _ rfl
  have f_f5_2 := x_f5.f 2 _ rfl
  have c_f5_3 := x_f5.c 3 _ rfl
  have f_f5_3 := x_f5.f 3 _ rfl
  have c_f5_4 := x_f5.c 4 _ rfl
  have f_f5_4 := x_f5.f 4 _ rfl
  have c_f5_5 := x_f5.c 5 _ rfl
  have f_f5_5 := x_f5.f 5 _ rfl
  have x_g5 : Box w5 (w4.heap.size) [.int .i64 bu, .int .i64 ra, .int .i64 pe, .int .i64 L2, .int .i64 Q2, .int .u64 (a + n)] := (by refine Box.below ?_ hb; repeat (first | (with_reducible assumption) | (with_reducible refine Box.drew ?_) | (with_reducible refine Box.drewN ?_ _) | ((with_reducible refine Box.new ?_); simp; done) | (with_reducible apply Box.set2) | ((with_reducible apply Box.put); (with_reducible assumption); rfl) | (with_reducible refine Box.alloc ?_ _) | (with_reducible refine Box.other ?_ (by first | (dsimp only; omega) | omega) _)))
  have z_g5 := x_g5.lt
  have c_g5_0 := x_g5.c 0 _ rfl
  have f_g5_0 := x_g5.f 0 _ rfl
  have c_g5_1 := x_g5.c 1 _ rfl
  have f_g5_1 := x_g5.f 1 _ rfl
  have c_g5_2 := x_g5.c 2 _ rfl
  have f_g5_2 := x_g5.f 2 _ rfl
  have c_g5_3 := x_g5.c 3 _ rfl
  have f_g5_3 := x_g5.f 3 _ rfl
  have c_g5_4 := x_g5.c 4 _ rfl
  have f_g5_4 := x_g5.f 4 _ rfl
  have c_g5_5 := x_g5.c 5 _ rfl
  have f_g5_5 := x_g5.f 5 _ rfl
  have t5 := hb.size
  try simp at t5
  clear hb hB4 hs4 x_x4 z_x4 c_x4_0 c_x4_1 c_x4_2 c_x4_3 c_x4_4 c_x4_5 f_x4_0 f_x4_1 f_x4_2 f_x4_3 f_x4_4 f_x4_5 x_f4 z_f4 c_f4_0 c_f4_1 c_f4_2 c_f4_3 c_f4_4 c_f4_5 f_f4_0 f_f4_1 f_f4_2 f_f4_3 f_f4_4 f_f4_5
  go_wp2_with fail
  refine (alive03_any _).mono ?_
  rintro e w6 ⟨rfl, hb⟩
  have hB6 : Below w.heap.size w w6 := below_thru (by go_grown) hb
  have hs6 : w.heap.size ≤ w6.heap.size := hB6.size
  have x_x6 : Box w6 (w.heap.size) [.int .i64 bu, .int .i64 ra, .int .i64 pe, .int .i64 le, .int .i64 pt, .int .u64 a] := (by refine Box.below ?_ hb; repeat (first | (with_reducible assumption) | (with_reducible refine Box.drew ?_) | (with_reducible refine Box.drewN ?_ _) | ((with_reducible refine Box.new ?_); simp; done) | (with_reducible apply Box.set2) | ((with_reducible apply Box.put); (with_reducible assumption); rfl) | (with_reducible refine Box.alloc ?_ _) | (with_reducible refine Box.other ?_ (by first | (dsimp only; omega) | omega) _)))
  have z_x6 := x_x6.lt
  have c_x6_0 := x_x6.c 0 _ rfl
  have f_x6_0 := x_x6.f 0 _ rfl
  have c_x6_1 := x_x6.c 1 _ rfl
  have f_x6_1 := x_x6.f 1 _ rfl
  have c_x6_2 := x_x6.c 2 _ rfl
  have f_x6_2 := x_x6.f 2 _ rfl
  have c_x6_3 := x_x6.c 3 _ rfl
  have f_x6_3 := x_x6.f 3 _ rfl
  have c_x6_4 := x_x6.c 4 _ rfl
  have f_x6_4 := x_x6.f 4 _ rfl
  have c_x6_5 := x_x6.c 5 _ rfl
  have f_x6_5 := x_x6.f 5 _ rfl
  have x_f6 : Box w6 (w3.heap.size) [.int .i64 bu, .int .i64 ra, .int .i64 pe, .int .i64 L, .int .i64 Q, .int .u64 18446744073709551615] := (by refine Box.below ?_ hb; repeat (first | (with_reducible assumption) | (with_reducible refine Box.drew ?_) | (with_reducible refine Box.drewN ?_ _) | ((with_reducible refine Box.new ?_); simp; done) | (with_reducible apply Box.set2) | ((with_reducible apply Box.put); (with_reducible assumption); rfl) | (with_reducible refine Box.alloc ?_ _) | (with_reducible refine Box.other ?_ (by first | (dsimp only; omega) | omega) _)))
  have z_f6 := x_f6.lt
  have c_f6_0 := x_f6.c 0 _ rfl
  have f_f6_0 := x_f6.f 0 _ rfl
  have c_f6_1 := x_f6.c 1 _ rfl
  have f_f6_1 := x_f6.f 1 _ rfl
  have c_f6_2 := x_f6.c 2 _ rfl
  have f_f6_2 := x_f6.f 2 _ rfl
  have c_f6_3 := x_f6.c 3 _ rfl
  have f_f6_3 := x_f6.f 3 _ rfl
  have c_f6_4 := x_f6.c 4 _ rfl
  have f_f6_4 := x_f6.f 4 _ rfl
  have c_f6_5 := x_f6.c 5 _ rfl
  have f_f6_5 := x_f6.f 5 _ rfl
  have x_g6 : Box w6 (w4.heap.size) [.int .i64 bu, .int .i64 ra, .int .i64 pe, .int .i64 L2, .int .i64 Q2, .int .u64 (a + n)] := (by refine Box.below ?_ hb; repeat (first | (with_reducible assumption) | (with_reducible refine Box.drew ?_) | (with_reducible refine Box.drewN ?_ _) | ((with_reducible refine Box.new ?_); simp; done) | (with_reducible apply Box.set2) | ((with_reducible apply Box.put); (with_reducible assumption); rfl) | (with_reducible refine Box.alloc ?_ _) | (with_reducible refine Box.other ?_ (by first | (dsimp only; omega) | omega) _)))
  have z_g6 := x_g6.lt
  have c_g6_0 := x_g6.c 0 _ rfl
  have f_g6_0 := x_g6.f 0 _ rfl
  have c_g6_1 := x_g6.c 1 _ rfl
  have f_g6_1 := x_g6.f 1 _ rfl
  have c_g6_2 := x_g6.c 2 _ rfl
  have f_g6_2 := x_g6.f 2 _ rfl
  have c_g6_3 := x_g6.c 3 _ rfl
  have f_g6_3 := x_g6.f 3 _ rfl
  have c_g6_4 := x_g6.c 4 _ rfl
  have f_g6_4 := x_g6.f 4 _ rfl
  have c_g6_5 := x_g6.c 5 _ rfl
  have f_g6_5 := x_g6.f 5 _ rfl
  have t6 := hb.size
  try simp at t6
  clear hb hB5 hs5 x_x5 z_x5 c_x5_0 c_x5_1 c_x5_2 c_x5_3 c_x5_4 c_x5_5 f_x5_0 f_x5_1 f_x5_2 f_x5_3 f_x5_4 f_x5_5 x_f5 z_f5 c_f5_0 c_f5_1 c_f5_2 c_f5_3 c_f5_4 c_f5_5 f_f5_0 f_f5_1 f_f5_2 f_f5_3 f_f5_4 f_f5_5 x_g5 z_g5 c_g5_0 c_g5_1 c_g5_2 c_g5_3 c_g5_4 c_g5_5 f_g5_0 f_g5_1 f_g5_2 f_g5_3 f_g5_4 f_g5_5
  go_wp2_with fail
  go_returns
  exact ⟨rfl, by go_grown⟩

set_option maxRecDepth 100000 in
set_option maxHeartbeats 3200000 in
theorem waitsl_some {bu ra pe le pt a c n : Int} (hb : Buc bu ra pe le pt a) (hc : 0 ≤ c) (hw : IsWait bu ra pe le pt a c n) (hn : ¬ (n = 18446744073709551615 ∧ filL bu ra pe le pt a 18446744073709551615 < c)) (h0 : 0 < n) (w : World) :
    Calls Try.prog 7 #[.agg #[.int .i64 bu, .int .i64 ra, .int .i64 pe, .int .i64 le, .int .i64 pt, .int .u64 a], .int .i64 c] w fun e w' => e = .returned (.bool true) ∧ Below w.heap.size w w' := by
  have d1 : decide (c < 0) = false := decide_eq_false (by omega)
  have h := Lib.hid hb.ok
  have HB := Lib.hid hb
  have HW := Lib.hid hw
  have ht := hb.tick
  obtain ⟨L, e1⟩ : ∃ x, filL bu ra pe le pt a 18446744073709551615 = x := ⟨_, rfl⟩
  obtain ⟨Q, e2⟩ : ∃ x, filP bu ra pe le pt a 18446744073709551615 = x := ⟨_, rfl⟩
  have E1 := Lib.hid e1
  have E2 := Lib.hid e2
  have E3 := Lib.hid (show filA a 18446744073709551615 = 18446744073709551615 from if_neg (by unfold isU at ht; omega))
  obtain ⟨s1, s2, s3, s4, s5, s6⟩ := wait_small hb hc hw hn
  have hu := hw.num
  unfold isU at ht hu
  have hle : L ≤ 1000000000 := by rw [← e1]; have := (hb.filled (t := 18446744073709551615) uMax).l1; have := hb.nums; omega
  have d2 : decide (L < c) = false := decide_eq_false (by rw [← e1]; omega)
  have d3 : (n == 18446744073709551615) = false := beq_eq_false_iff_ne.2 (by omega)
  have d4 : decide (18446744073709551615 - a < n) = false := decide_eq_false (by omega)
  have d5 : decide (1000000000000000000 < n) = false := decide_eq_false (by omega)
  obtain ⟨L2, e3⟩ : ∃ x, filL bu ra pe le pt a (a + n) = x := ⟨_, rfl⟩
  obtain ⟨Q2, e4⟩ : ∃ x, filP bu ra pe le pt a (a + n) = x := ⟨_, rfl⟩
  have b2 := hb.filled (t := a + n) (by unfold isU; omega)
  have ea : filA a (a + n) = a + n := if_neg (by omega)
  rw [e3, e4, ea] at b2
  rw [e3] at s3
  have ok2 := Lib.hid b2.ok
  have F1 := Lib.hid e3
  have F2 := Lib.hid e4
  have F3 := Lib.hid ea
  have hl2 : L2 ≤ 1000000000 := by have := b2.l1; have := hb.nums; omega
  have tn : isU (a + n) := by unfold isU; omega
  have a0 : 0 ≤ a := ht.1
  have a1 : a ≤ 18446744073709551615 := ht.2
  have a2 : 0 ≤ a + n := by omega
  have a3 : a + n ≤ 18446744073709551615 := by omega
  have wr1 : IntKind.u64.wrap (18446744073709551615 - a) = 18446744073709551615 - a := IntWalk.u64_in _ (by omega)
  have d6 : (n == 0) = false := beq_eq_false_iff_ne.2 (by omega)
  obtain ⟨L3, e5⟩ : ∃ x, filL bu ra pe le pt a (a + n - 1) = x := ⟨_, rfl⟩
  obtain ⟨Q3, e6⟩ : ∃ x, filP bu ra pe le pt a (a + n - 1) = x := ⟨_, rfl⟩
  have b3 := hb.filled (t := a + n - 1) (by unfold isU; omega)
  have eb : filA a (a + n - 1) = a + n - 1 := if_neg (by omega)
  rw [e5, e6, eb] at b3
  have s6 := s6 h0
  rw [e5] at s6
  have ok3 := Lib.hid b3.ok
  have G1 := Lib.hid e5
  have G2 := Lib.hid e6
  have G3 := Lib.hid eb
  have tm : isU (a + n - 1) := by unfold isU; omega
  have a4 : 0 ≤ a + n - 1 := by omega
  have a5 : a + n - 1 ≤ 18446744073709551615 := by omega
  clear e1 e2 e3 e4 e5 e6 ea eb b2 b3 s5 hn hb hw
  go_enter Try.func7, Try.ntmps7
  go_wp2_with fail
  refine (rcheck_is h _).mono ?_
  rintro e w1 ⟨rfl, hb⟩
  have hB1 : Below w.heap.size w w1 := below_thru (by go_grown) hb
  have hs1 : w.heap.size ≤ w1.heap.size := hB1.size
  have x_x1 : Box w1 (w.heap.size) [.int .i64 bu, .int .i64 ra, .int .i64 pe, .int .i64 le, .int .i64 pt, .int .u64 a] := (by refine Box.below ?_ hb; repeat (first | (with_reducible assumption) | (with_reducible refine Box.drew ?_) | (with_reducible refine Box.drewN ?_ _) | ((with_reducible refine Box.new ?_); simp; done) | (with_reducible apply Box.set2) | ((with_reducible apply Box.put); (with_reducible assumption); rfl) | (with_reducible refine Box.alloc ?_ _) | (with_reducible refine Box.other ?_ (by first | (dsimp only; omega) | omega) _)))
  have z_x1 := x_x1.lt
  have c_x1_0 := x_x1.c 0 _ rfl
  have f_x1_0 := x_x1.f 0 _ rfl
  have c_x1_1 := x_x1.c 1 _ rfl
  have f_x1_1 := x_x1.f 1 _ rfl
  have c_x1_2 := x_x1.c 2 _ rfl
  have f_x1_2 := x_x1.f 2 _ rfl
  have c_x1_3 := x_x1.c 3 _ rfl
  have f_x1_3 := x_x1.f 3 _ rfl
  have c_x1_4 := x_x1.c 4 _ rfl
  have f_x1_4 := x_x1.f 4 _ rfl
  have c_x1_5 := x_x1.c 5 _ rfl
  have f_x1_5 := x_x1.f 5 _ rfl
  have t1 := hb.size
  try simp at t1
  clear hb
  go_wp2_with fail
  refine (wait_ok HB.out hc HW _).mono ?_
  rintro e w2 ⟨rfl, hb⟩
  have hB2 : Below w.heap.size w w2 := below_thru (by go_grown) hb
  have hs2 : w.heap.size ≤ w2.heap.size := hB2.size
  have x_x2 : Box w2 (w.heap.size) [.int .i64 bu, .int .i64 ra, .int .i64 pe, .int .i64 le, .int .i64 pt, .int .u64 a] := (by refine Box.below ?_ hb; repeat (first | (with_reducible assumption) | (with_reducible refine Box.drew ?_) | (with_reducible refine Box.drewN ?_ _) | ((with_reducible refine Box.new ?_); simp; done) | (with_reducible apply Box.set2) | ((with_reducible apply Box.put); (with_reducible assumption); rfl) | (with_reducible refine Box.alloc ?_ _) | (with_reducible refine Box.other ?_ (by first | (dsimp only; omega) | omega) _)))
  have z_x2 := x_x2.lt
  have c_x2_0 := x_x2.c 0 _ rfl
  have f_x2_0 := x_x2.f 0 _ rfl
  have c_x2_1 := x_x2.c 1 _ rfl
  have f_x2_1 := x_x2.f 1 _ rfl
  have c_x2_2 := x_x2.c 2 _ rfl
  have f_x2_2 := x_x2.f 2 _ rfl
  have c_x2_3 := x_x2.c 3 _ rfl
  have f_x2_3 := x_x2.f 3 _ rfl
  have c_x2_4 := x_x2.c 4 _ rfl
  have f_x2_4 := x_x2.f 4 _ rfl
  have c_x2_5 := x_x2.c 5 _ rfl
  have f_x2_5 := x_x2.f 5 _ rfl
  have t2 := hb.size
  try simp at t2
  clear hb hB1 hs1 x_x1 z_x1 c_x1_0 c_x1_1 c_x1_2 c_x1_3 c_x1_4 c_x1_5 f_x1_0 f_x1_1 f_x1_2 f_x1_3 f_x1_4 f_x1_5
  go_wp2_with fail
  refine (refill_ok HB.out uMax E1 E2 E3 _).mono ?_
  rintro e w3 ⟨rfl, hb⟩
  have hB3 : Below w.heap.size w w3 := below_thru (by go_grown) hb
  have hs3 : w.heap.size ≤ w3.heap.size := hB3.size
  have x_x3 : Box w3 (w.heap.size) [.int .i64 bu, .int .i64 ra, .int .i64 pe, .int .i64 le, .int .i64 pt, .int .u64 a] := (by refine Box.below ?_ hb; repeat (first | (with_reducible assumption) | (with_reducible refine Box.drew ?_) | (with_reducible refine Box.drewN ?_ _) | ((with_reducible refine Box.new ?_); simp; done) | (with_reducible apply Box.set2) | ((with_reducible apply Box.put); (with_reducible assumption); rfl) | (with_reducible refine Box.alloc ?_ _) | (with_reducible refine Box.other ?_ (by first | (dsimp only; omega) | omega) _)))
  have z_x3 := x_x3.lt
  have c_x3_0 := x_x3.c 0 _ rfl
  have f_x3_0 := x_x3.f 0 _ rfl
  have c_x3_1 := x_x3.c 1 _ rfl
  have f_x3_1 := x_x3.f 1 _ rfl
  have c_x3_2 := x_x3.c 2 _ rfl
  have f_x3_2 := x_x3.f 2 _ rfl
  have c_x3_3 := x_x3.c 3 _ rfl
  have f_x3_3 := x_x3.f 3 _ rfl
  have c_x3_4 := x_x3.c 4 _ rfl
  have f_x3_4 := x_x3.f 4 _ rfl
  have c_x3_5 := x_x3.c 5 _ rfl
  have f_x3_5 := x_x3.f 5 _ rfl
  have t3 := hb.size
  try simp at t3
  clear hb hB2 hs2 x_x2 z_x2 c_x2_0 c_x2_1 c_x2_2 c_x2_3 c_x2_4 c_x2_5 f_x2_0 f_x2_1 f_x2_2 f_x2_3 f_x2_4 f_x2_5
  go_wp2_with fail
  refine (refill_ok HB.out tn F1 F2 F3 _).mono ?_
  rintro e w4 ⟨rfl, hb⟩
  have hB4 : Below w.heap.size w w4 := below_thru (by go_grown) hb
  have hs4 : w.heap.size ≤ w4.heap.size := hB4.size
  have x_x4 : Box w4 (w.heap.size) [.int .i64 bu, .int .i64 ra, .int .i64 pe, .int .i64 le, .int .i64 pt, .int .u64 a] := (by refine Box.below ?_ hb; repeat (first | (with_reducible assumption) | (with_reducible refine Box.drew ?_) | (with_reducible refine Box.drewN ?_ _) | ((with_reducible refine Box.new ?_); simp; done) | (with_reducible apply Box.set2) | ((with_reducible apply Box.put); (with_reducible assumption); rfl) | (with_reducible refine Box.alloc ?_ _) | (with_reducible refine Box.other ?_ (by first | (dsimp only; omega) | omega) _)))
  have z_x4 := x_x4.lt
  have c_x4_0 := x_x4.c 0 _ rfl
  have f_x4_0 := x_x4.f 0 _ rfl
  have c_x4_1 := x_x4.c 1 _ rfl
  have f_x4_1 := x_x4.f 1 _ rfl
  have c_x4_2 := x_x4.c 2 _ rfl
  have f_x4_2 := x_x4.f 2 _ rfl
  have c_x4_3 := x_x4.c 3 _ rfl
  have f_x4_3 := x_x4.f 3 _ rfl
  have c_x4_4 := x_x4.c 4 _ rfl
  have f_x4_4 := x_x4.f 4 _ rfl
  have c_x4_5 := x_x4.c 5 _ rfl
  have f_x4_5 := x_x4.f 5 _ rfl
  have x_f4 : Box w4 (w3.heap.size) [.int .i64 bu, .int .i64 ra, .int .i64 pe, .int .i64 L, .int .i64 Q, .int .u64 18446744073709551615] := (by refine Box.below ?_ hb; repeat (first | (with_reducible assumption) | (with_reducible refine Box.drew ?_) | (with_reducible refine Box.drewN ?_ _) | ((with_reducible refine Box.new ?_); simp; done) | (with_reducible apply Box.set2) | ((with_reducible apply Box.put); (with_reducible assumption); rfl) | (with_reducible refine Box.alloc ?_ _) | (with_reducible refine Box.other ?_ (by first | (dsimp only; omega) | omega) _)))
  have z_f4 := x_f4.lt
  have c_f4_0 := x_f4.c 0 _ rfl
  have f_f4_0 := x_f4.f 0 _ rfl
  have c_f4_1 := x_f4.c 1 _ rfl
  have f_f4_1 := x_f4.f 1 _ rfl
  have c_f4_2 := x_f4.c 2 _ rfl
  have f_f4_2 := x_f4.f 2 _ rfl
  have c_f4_3 := x_f4.c 3 _ rfl
  have f_f4_3 := x_f4.f 3 _ rfl
  have c_f4_4 := x_f4.c 4 _ rfl
  have f_f4_4 := x_f4.f 4 _ rfl
  have c_f4_5 := x_f4.c 5 _ rfl
  have f_f4_5 := x_f4.f 5 _ rfl
  have t4 := hb.size
  try simp at t4
  clear hb hB3 hs3 x_x3 z_x3 c_x3_0 c_x3_1 c_x3_2 c_x3_3 c_x3_4 c_x3_5 f_x3_0 f_x3_1 f_x3_2 f_x3_3 f_x3_4 f_x3_5
  go_wp2_with fail
  refine (charge_ok ok2 hc s3 hl2 _).mono ?_
  rintro e w5 ⟨rfl, hb⟩
  have hB5 : Below w.heap.size w w5 := below_thru (by go_grown) hb
  have hs5 : w.heap.size ≤ w5.heap.size := hB5.size
  have x_x5 : Box w5 (w.heap.size) [.int .i64 bu, .int .i64 ra, .int .i64 pe, .int .i64 le, .int .i64 pt, .int .u64 a] := (by refine Box.below ?_ hb; repeat (first | (with_reducible assumption) | (with_reducible refine Box.drew ?_) | (with_reducible refine Box.drewN ?_ _) | ((with_reducible refine Box.new ?_); simp; done) | (with_reducible apply Box.set2) | ((with_reducible apply Box.put); (with_reducible assumption); rfl) | (with_reducible refine Box.alloc ?_ _) | (with_reducible refine Box.other ?_ (by first | (dsimp only; omega) | omega) _)))
  have z_x5 := x_x5.lt
  have c_x5_0 := x_x5.c 0 _ rfl
  have f_x5_0 := x_x5.f 0 _ rfl
  have c_x5_1 := x_x5.c 1 _ rfl
  have f_x5_1 := x_x5.f 1 _ rfl
  have c_x5_2 := x_x5.c 2 _ rfl
  have f_x5_2 := x_x5.f 2 _ rfl
  have c_x5_3 := x_x5.c 3 _ rfl
  have f_x5_3 := x_x5.f 3 _ rfl
  have c_x5_4 := x_x5.c 4 _ rfl
  have f_x5_4 := x_x5.f 4 _ rfl
  have c_x5_5 := x_x5.c 5 _ rfl
  have f_x5_5 := x_x5.f 5 _ rfl
  have x_f5 : Box w5 (w3.heap.size) [.int .i64 bu, .int .i64 ra, .int .i64 pe, .int .i64 L, .int .i64 Q, .int .u64 18446744073709551615] := (by refine Box.below ?_ hb; repeat (first | (with_reducible assumption) | (with_reducible refine Box.drew ?_) | (with_reducible refine Box.drewN ?_ _) | ((with_reducible refine Box.new ?_); simp; done) | (with_reducible apply Box.set2) | ((with_reducible apply Box.put); (with_reducible assumption); rfl) | (with_reducible refine Box.alloc ?_ _) | (with_reducible refine Box.other ?_ (by first | (dsimp only; omega) | omega) _)))
  have z_f5 := x_f5.lt
  have c_f5_0 := x_f5.c 0 _ rfl
  have f_f5_0 := x_f5.f 0 _ rfl
  have c_f5_1 := x_f5.c 1 _ rfl
  have f_f5_1 := x_f5.f 1 _ rfl
  have c_f5_2 := x_f5.c 2 _ rfl
  have f_f5_2 := x_f5.f 2 _ rfl
  have c_f5_3 := x_f5.c 3 _ rfl
  have f_f5_3 := x_f5.f 3 _ rfl
  have c_f5_4 := x_f5.c 4 _ rfl
  have f_f5_4 := x_f5.f 4 _ rfl
  have c_f5_5 := x_f5.c 5 _ rfl
  have f_f5_5 := x_f5.f 5 _ rfl
  have x_g5 : Box w5 (w4.heap.size) [.int .i64 bu, .int .i64 ra, .int .i64 pe, .int .i64 L2, .int .i64 Q2, .int .u64 (a + n)] := (by refine Box.below ?_ hb; repeat (first | (with_reducible assumption) | (with_reducible refine Box.drew ?_) | (with_reducible refine Box.drewN ?_ _) | ((with_reducible refine Box.new ?_); simp; done) | (with_reducible apply Box.set2) | ((with_reducible apply Box.put); (with_reducible assumption); rfl) | (with_reducible refine Box.alloc ?_ _) | (with_reducible refine Box.other ?_ (by first | (dsimp only; omega) | omega) _)))
  have z_g5 := x_g5.lt
  have c_g5_0 := x_g5.c 0 _ rfl
  have f_g5_0 := x_g5.f 0 _ rfl
  have c_g5_1 := x_g5.c 1 _ rfl
  have f_g5_1 := x_g5.f 1 _ rfl
  have c_g5_2 := x_g5.c 2 _ rfl
  have f_g5_2 := x_g5.f 2 _ rfl
  have c_g5_3 := x_g5.c 3 _ rfl
  have f_g5_3 := x_g5.f 3 _ rfl
  have c_g5_4 := x_g5.c 4 _ rfl
  have f_g5_4 := x_g5.f 4 _ rfl
  have c_g5_5 := x_g5.c 5 _ rfl
  have f_g5_5 := x_g5.f 5 _ rfl
  have t5 := hb.size
  try simp at t5
  clear hb hB4 hs4 x_x4 z_x4 c_x4_0 c_x4_1 c_x4_2 c_x4_3 c_x4_4 c_x4_5 f_x4_0 f_x4_1 f_x4_2 f_x4_3 f_x4_4 f_x4_5 x_f4 z_f4 c_f4_0 c_f4_1 c_f4_2 c_f4_3 c_f4_4 c_f4_5 f_f4_0 f_f4_1 f_f4_2 f_f4_3 f_f4_4 f_f4_5
  go_wp2_with fail
  refine (refill_ok HB.out tm G1 G2 G3 _).mono ?_
  rintro e w6 ⟨rfl, hb⟩
  have hB6 : Below w.heap.size w w6 := below_thru (by go_grown) hb
  have hs6 : w.heap.size ≤ w6.heap.size := hB6.size
  have x_x6 : Box w6 (w.heap.size) [.int .i64 bu, .int .i64 ra, .int .i64 pe, .int .i64 le, .int .i64 pt, .int .u64 a] := (by refine Box.below ?_ hb; repeat (first | (with_reducible assumption) | (with_reducible refine Box.drew ?_) | (with_reducible refine Box.drewN ?_ _) | ((with_reducible refine Box.new ?_); simp; done) | (with_reducible apply Box.set2) | ((with_reducible apply Box.put); (with_reducible assumption); rfl) | (with_reducible refine Box.alloc ?_ _) | (with_reducible refine Box.other ?_ (by first | (dsimp only; omega) | omega) _)))
  have z_x6 := x_x6.lt
  have c_x6_0 := x_x6.c 0 _ rfl
  have f_x6_0 := x_x6.f 0 _ rfl
  have c_x6_1 := x_x6.c 1 _ rfl
  have f_x6_1 := x_x6.f 1 _ rfl
  have c_x6_2 := x_x6.c 2 _ rfl
  have f_x6_2 := x_x6.f 2 _ rfl
  have c_x6_3 := x_x6.c 3 _ rfl
  have f_x6_3 := x_x6.f 3 _ rfl
  have c_x6_4 := x_x6.c 4 _ rfl
  have f_x6_4 := x_x6.f 4 _ rfl
  have c_x6_5 := x_x6.c 5 _ rfl
  have f_x6_5 := x_x6.f 5 _ rfl
  have x_f6 : Box w6 (w3.heap.size) [.int .i64 bu, .int .i64 ra, .int .i64 pe, .int .i64 L, .int .i64 Q, .int .u64 18446744073709551615] := (by refine Box.below ?_ hb; repeat (first | (with_reducible assumption) | (with_reducible refine Box.drew ?_) | (with_reducible refine Box.drewN ?_ _) | ((with_reducible refine Box.new ?_); simp; done) | (with_reducible apply Box.set2) | ((with_reducible apply Box.put); (with_reducible assumption); rfl) | (with_reducible refine Box.alloc ?_ _) | (with_reducible refine Box.other ?_ (by first | (dsimp only; omega) | omega) _)))
  have z_f6 := x_f6.lt
  have c_f6_0 := x_f6.c 0 _ rfl
  have f_f6_0 := x_f6.f 0 _ rfl
  have c_f6_1 := x_f6.c 1 _ rfl
  have f_f6_1 := x_f6.f 1 _ rfl
  have c_f6_2 := x_f6.c 2 _ rfl
  have f_f6_2 := x_f6.f 2 _ rfl
  have c_f6_3 := x_f6.c 3 _ rfl
  have f_f6_3 := x_f6.f 3 _ rfl
  have c_f6_4 := x_f6.c 4 _ rfl
  have f_f6_4 := x_f6.f 4 _ rfl
  have c_f6_5 := x_f6.c 5 _ rfl
  have f_f6_5 := x_f6.f 5 _ rfl
  have x_g6 : Box w6 (w4.heap.size) [.int .i64 bu, .int .i64 ra, .int .i64 pe, .int .i64 L2, .int .i64 Q2, .int .u64 (a + n)] := (by refine Box.below ?_ hb; repeat (first | (with_reducible assumption) | (with_reducible refine Box.drew ?_) | (with_reducible refine Box.drewN ?_ _) | ((with_reducible refine Box.new ?_); simp; done) | (with_reducible apply Box.set2) | ((with_reducible apply Box.put); (with_reducible assumption); rfl) | (with_reducible refine Box.alloc ?_ _) | (with_reducible refine Box.other ?_ (by first | (dsimp only; omega) | omega) _)))
  have z_g6 := x_g6.lt
  have c_g6_0 := x_g6.c 0 _ rfl
  have f_g6_0 := x_g6.f 0 _ rfl
  have c_g6_1 := x_g6.c 1 _ rfl
  have f_g6_1 := x_g6.f 1 _ rfl
  have c_g6_2 := x_g6.c 2 _ rfl
  have f_g6_2 := x_g6.f 2 _ rfl
  have c_g6_3 := x_g6.c 3 _ rfl
  have f_g6_3 := x_g6.f 3 _ rfl
  have c_g6_4 := x_g6.c 4 _ rfl
  have f_g6_4 := x_g6.f 4 _ rfl
  have c_g6_5 := x_g6.c 5 _ rfl
  have f_g6_5 := x_g6.f 5 _ rfl
  have t6 := hb.size
  try simp at t6
  clear hb hB5 hs5 x_x5 z_x5 c_x5_0 c_x5_1 c_x5_2 c_x5_3 c_x5_4 c_x5_5 f_x5_0 f_x5_1 f_x5_2 f_x5_3 f_x5_4 f_x5_5 x_f5 z_f5 c_f5_0 c_f5_1 c_f5_2 c_f5_3 c_f5_4 c_f5_5 f_f5_0 f_f5_1 f_f5_2 f_f5_3 f_f5_4 f_f5_5 x_g5 z_g5 c_g5_0 c_g5_1 c_g5_2 c_g5_3 c_g5_4 c_g5_5 f_g5_0 f_g5_1 f_g5_2 f_g5_3 f_g5_4 f_g5_5
  go_wp2_with fail
  refine (charge_low ok3 hc s6 _).mono ?_
  rintro e w7 ⟨rfl, hb⟩
  have hB7 : Below w.heap.size w w7 := below_thru (by go_grown) hb
  have hs7 : w.heap.size ≤ w7.heap.size := hB7.size
  have x_x7 : Box w7 (w.heap.size) [.int .i64 bu, .int .i64 ra, .int .i64 pe, .int .i64 le, .int .i64 pt, .int .u64 a] := (by refine Box.below ?_ hb; repeat (first | (with_reducible assumption) | (with_reducible refine Box.drew ?_) | (with_reducible refine Box.drewN ?_ _) | ((with_reducible refine Box.new ?_); simp; done) | (with_reducible apply Box.set2) | ((with_reducible apply Box.put); (with_reducible assumption); rfl) | (with_reducible refine Box.alloc ?_ _) | (with_reducible refine Box.other ?_ (by first | (dsimp only; omega) | omega) _)))
  have z_x7 := x_x7.lt
  have c_x7_0 := x_x7.c 0 _ rfl
  have f_x7_0 := x_x7.f 0 _ rfl
  have c_x7_1 := x_x7.c 1 _ rfl
  have f_x7_1 := x_x7.f 1 _ rfl
  have c_x7_2 := x_x7.c 2 _ rfl
  have f_x7_2 := x_x7.f 2 _ rfl
  have c_x7_3 := x_x7.c 3 _ rfl
  have f_x7_3 := x_x7.f 3 _ rfl
  have c_x7_4 := x_x7.c 4 _ rfl
  have f_x7_4 := x_x7.f 4 _ rfl
  have c_x7_5 := x_x7.c 5 _ rfl
  have f_x7_5 := x_x7.f 5 _ rfl
  have x_f7 : Box w7 (w3.heap.size) [.int .i64 bu, .int .i64 ra, .int .i64 pe, .int .i64 L, .int .i64 Q, .int .u64 18446744073709551615] := (by refine Box.below ?_ hb; repeat (first | (with_reducible assumption) | (with_reducible refine Box.drew ?_) | (with_reducible refine Box.drewN ?_ _) | ((with_reducible refine Box.new ?_); simp; done) | (with_reducible apply Box.set2) | ((with_reducible apply Box.put); (with_reducible assumption); rfl) | (with_reducible refine Box.alloc ?_ _) | (with_reducible refine Box.other ?_ (by first | (dsimp only; omega) | omega) _)))
  have z_f7 := x_f7.lt
  have c_f7_0 := x_f7.c 0 _ rfl
  have f_f7_0 := x_f7.f 0 _ rfl
  have c_f7_1 := x_f7.c 1 _ rfl
  have f_f7_1 := x_f7.f 1 _ rfl
  have c_f7_2 := x_f7.c 2 _ rfl
  have f_f7_2 := x_f7.f 2 _ rfl
  have c_f7_3 := x_f7.c 3 _ rfl
  have f_f7_3 := x_f7.f 3 _ rfl
  have c_f7_4 := x_f7.c 4 _ rfl
  have f_f7_4 := x_f7.f 4 _ rfl
  have c_f7_5 := x_f7.c 5 _ rfl
  have f_f7_5 := x_f7.f 5 _ rfl
  have x_g7 : Box w7 (w4.heap.size) [.int .i64 bu, .int .i64 ra, .int .i64 pe, .int .i64 L2, .int .i64 Q2, .int .u64 (a + n)] := (by refine Box.below ?_ hb; repeat (first | (with_reducible assumption) | (with_reducible refine Box.drew ?_) | (with_reducible refine Box.drewN ?_ _) | ((with_reducible refine Box.new ?_); simp; done) | (with_reducible apply Box.set2) | ((with_reducible apply Box.put); (with_reducible assumption); rfl) | (with_reducible refine Box.alloc ?_ _) | (with_reducible refine Box.other ?_ (by first | (dsimp only; omega) | omega) _)))
  have z_g7 := x_g7.lt
  have c_g7_0 := x_g7.c 0 _ rfl
  have f_g7_0 := x_g7.f 0 _ rfl
  have c_g7_1 := x_g7.c 1 _ rfl
  have f_g7_1 := x_g7.f 1 _ rfl
  have c_g7_2 := x_g7.c 2 _ rfl
  have f_g7_2 := x_g7.f 2 _ rfl
  have c_g7_3 := x_g7.c 3 _ rfl
  have f_g7_3 := x_g7.f 3 _ rfl
  have c_g7_4 := x_g7.c 4 _ rfl
  have f_g7_4 := x_g7.f 4 _ rfl
  have c_g7_5 := x_g7.c 5 _ rfl
  have f_g7_5 := x_g7.f 5 _ rfl
  have x_i7 : Box w7 (w6.heap.size) [.int .i64 bu, .int .i64 ra, .int .i64 pe, .int .i64 L3, .int .i64 Q3, .int .u64 (a + n - 1)] := (by refine Box.below ?_ hb; repeat (first | (with_reducible assumption) | (with_reducible refine Box.drew ?_) | (with_reducible refine Box.drewN ?_ _) | ((with_reducible refine Box.new ?_); simp; done) | (with_reducible apply Box.set2) | ((with_reducible apply Box.put); (with_reducible assumption); rfl) | (with_reducible refine Box.alloc ?_ _) | (with_reducible refine Box.other ?_ (by first | (dsimp only; omega) | omega) _)))
  have z_i7 := x_i7.lt
  have c_i7_0 := x_i7.c 0 _ rfl
  have f_i7_0 := x_i7.f 0 _ rfl
  have c_i7_1 := x_i7.c 1 _ rfl
  have f_i7_1 := x_i7.f 1 _ rfl
  have c_i7_2 := x_i7.c 2 _ rfl
  have f_i7_2 := x_i7.f 2 _ rfl
  have c_i7_3 := x_i7.c 3 _ rfl
  have f_i7_3 := x_i7.f 3 _ rfl
  have c_i7_4 := x_i7.c 4 _ rfl
  have f_i7_4 := x_i7.f 4 _ rfl
  have c_i7_5 := x_i7.c 5 _ rfl
  have f_i7_5 := x_i7.f 5 _ rfl
  have t7 := hb.size
  try simp at t7
  clear hb hB6 hs6 x_x6 z_x6 c_x6_0 c_x6_1 c_x6_2 c_x6_3 c_x6_4 c_x6_5 f_x6_0 f_x6_1 f_x6_2 f_x6_3 f_x6_4 f_x6_5 x_f6 z_f6 c_f6_0 c_f6_1 c_f6_2 c_f6_3 c_f6_4 c_f6_5 f_f6_0 f_f6_1 f_f6_2 f_f6_3 f_f6_4 f_f6_5 x_g6 z_g6 c_g6_0 c_g6_1 c_g6_2 c_g6_3 c_g6_4 c_g6_5 f_g6_0 f_g6_1 f_g6_2 f_g6_3 f_g6_4 f_g6_5
  go_wp2_with fail
  refine (alive03_any _).mono ?_
  rintro e w8 ⟨rfl, hb⟩
  have hB8 : Below w.heap.size w w8 := below_thru (by go_grown) hb
  have hs8 : w.heap.size ≤ w8.heap.size := hB8.size
  have x_x8 : Box w8 (w.heap.size) [.int .i64 bu, .int .i64 ra, .int .i64 pe, .int .i64 le, .int .i64 pt, .int .u64 a] := (by refine Box.below ?_ hb; repeat (first | (with_reducible assumption) | (with_reducible refine Box.drew ?_) | (with_reducible refine Box.drewN ?_ _) | ((with_reducible refine Box.new ?_); simp; done) | (with_reducible apply Box.set2) | ((with_reducible apply Box.put); (with_reducible assumption); rfl) | (with_reducible refine Box.alloc ?_ _) | (with_reducible refine Box.other ?_ (by first | (dsimp only; omega) | omega) _)))
  have z_x8 := x_x8.lt
  have c_x8_0 := x_x8.c 0 _ rfl
  have f_x8_0 := x_x8.f 0 _ rfl
  have c_x8_1 := x_x8.c 1 _ rfl
  have f_x8_1 := x_x8.f 1 _ rfl
  have c_x8_2 := x_x8.c 2 _ rfl
  have f_x8_2 := x_x8.f 2 _ rfl
  have c_x8_3 := x_x8.c 3 _ rfl
  have f_x8_3 := x_x8.f 3 _ rfl
  have c_x8_4 := x_x8.c 4 _ rfl
  have f_x8_4 := x_x8.f 4 _ rfl
  have c_x8_5 := x_x8.c 5 _ rfl
  have f_x8_5 := x_x8.f 5 _ rfl
  have x_f8 : Box w8 (w3.heap.size) [.int .i64 bu, .int .i64 ra, .int .i64 pe, .int .i64 L, .int .i64 Q, .int .u64 18446744073709551615] := (by refine Box.below ?_ hb; repeat (first | (with_reducible assumption) | (with_reducible refine Box.drew ?_) | (with_reducible refine Box.drewN ?_ _) | ((with_reducible refine Box.new ?_); simp; done) | (with_reducible apply Box.set2) | ((with_reducible apply Box.put); (with_reducible assumption); rfl) | (with_reducible refine Box.alloc ?_ _) | (with_reducible refine Box.other ?_ (by first | (dsimp only; omega) | omega) _)))
  have z_f8 := x_f8.lt
  have c_f8_0 := x_f8.c 0 _ rfl
  have f_f8_0 := x_f8.f 0 _ rfl
  have c_f8_1 := x_f8.c 1 _ rfl
  have f_f8_1 := x_f8.f 1 _ rfl
  have c_f8_2 := x_f8.c 2 _ rfl
  have f_f8_2 := x_f8.f 2 _ rfl
  have c_f8_3 := x_f8.c 3 _ rfl
  have f_f8_3 := x_f8.f 3 _ rfl
  have c_f8_4 := x_f8.c 4 _ rfl
  have f_f8_4 := x_f8.f 4 _ rfl
  have c_f8_5 := x_f8.c 5 _ rfl
  have f_f8_5 := x_f8.f 5 _ rfl
  have x_g8 : Box w8 (w4.heap.size) [.int .i64 bu, .int .i64 ra, .int .i64 pe, .int .i64 L2, .int .i64 Q2, .int .u64 (a + n)] := (by refine Box.below ?_ hb; repeat (first | (with_reducible assumption) | (with_reducible refine Box.drew ?_) | (with_reducible refine Box.drewN ?_ _) | ((with_reducible refine Box.new ?_); simp; done) | (with_reducible apply Box.set2) | ((with_reducible apply Box.put); (with_reducible assumption); rfl) | (with_reducible refine Box.alloc ?_ _) | (with_reducible refine Box.other ?_ (by first | (dsimp only; omega) | omega) _)))
  have z_g8 := x_g8.lt
  have c_g8_0 := x_g8.c 0 _ rfl
  have f_g8_0 := x_g8.f 0 _ rfl
  have c_g8_1 := x_g8.c 1 _ rfl
  have f_g8_1 := x_g8.f 1 _ rfl
  have c_g8_2 := x_g8.c 2 _ rfl
  have f_g8_2 := x_g8.f 2 _ rfl
  have c_g8_3 := x_g8.c 3 _ rfl
  have f_g8_3 := x_g8.f 3 _ rfl
  have c_g8_4 := x_g8.c 4 _ rfl
  have f_g8_4 := x_g8.f 4 _ rfl
  have c_g8_5 := x_g8.c 5 _ rfl
  have f_g8_5 := x_g8.f 5 _ rfl
  have x_i8 : Box w8 (w6.heap.size) [.int .i64 bu, .int .i64 ra, .int .i64 pe, .int .i64 L3, .int .i64 Q3, .int .u64 (a + n - 1)] := (by refine Box.below ?_ hb; repeat (first | (with_reducible assumption) | (with_reducible refine Box.drew ?_) | (with_reducible refine Box.drewN ?_ _) | ((with_reducible refine Box.new ?_); simp; done) | (with_reducible apply Box.set2) | ((with_reducible apply Box.put); (with_reducible assumption); rfl) | (with_reducible refine Box.alloc ?_ _) | (with_reducible refine Box.other ?_ (by first | (dsimp only; omega) | omega) _)))
  have z_i8 := x_i8.lt
  have c_i8_0 := x_i8.c 0 _ rfl
  have f_i8_0 := x_i8.f 0 _ rfl
  have c_i8_1 := x_i8.c 1 _ rfl
  have f_i8_1 := x_i8.f 1 _ rfl
  have c_i8_2 := x_i8.c 2 _ rfl
  have f_i8_2 := x_i8.f 2 _ rfl
  have c_i8_3 := x_i8.c 3 _ rfl
  have f_i8_3 := x_i8.f 3 _ rfl
  have c_i8_4 := x_i8.c 4 _ rfl
  have f_i8_4 := x_i8.f 4 _ rfl
  have c_i8_5 := x_i8.c 5 _ rfl
  have f_i8_5 := x_i8.f 5 _ rfl
  have t8 := hb.size
  try simp at t8
  clear hb hB7 hs7 x_x7 z_x7 c_x7_0 c_x7_1 c_x7_2 c_x7_3 c_x7_4 c_x7_5 f_x7_0 f_x7_1 f_x7_2 f_x7_3 f_x7_4 f_x7_5 x_f7 z_f7 c_f7_0 c_f7_1 c_f7_2 c_f7_3 c_f7_4 c_f7_5 f_f7_0 f_f7_1 f_f7_2 f_f7_3 f_f7_4 f_f7_5 x_g7 z_g7 c_g7_0 c_g7_1 c_g7_2 c_g7_3 c_g7_4 c_g7_5 f_g7_0 f_g7_1 f_g7_2 f_g7_3 f_g7_4 f_g7_5 x_i7 z_i7 c_i7_0 c_i7_1 c_i7_2 c_i7_3 c_i7_4 c_i7_5 f_i7_0 f_i7_1 f_i7_2 f_i7_3 f_i7_4 f_i7_5
  go_wp2_with fail
  go_returns
  exact ⟨rfl, by go_grown⟩

end Go.Proofs.Ytikhdfmdbpcajaa
