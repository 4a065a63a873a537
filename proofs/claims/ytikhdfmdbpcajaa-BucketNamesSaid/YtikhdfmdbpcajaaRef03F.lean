/-
  The reference of layer 3, walked: waits and changes.
-/
import Derived.Test.YtikhdfmdbpcajaaRef03E
namespace Go.Proofs.Ytikhdfmdbpcajaa
open Go.RowKit

theorem put6 {w : World} {b : Nat} {a0 a1 a2 a3 a4 a5 : Value} (h : Box w b [a0, a1, a2, a3, a4, a5]) (x0 x1 x2 x3 x4 x5 : Value) :
    Box ((((((w.setCell ⟨b, 0, none⟩ x0).setCell ⟨b, 1, none⟩ x1).setCell ⟨b, 2, none⟩ x2).setCell ⟨b, 3, none⟩ x3).setCell ⟨b, 4, none⟩ x4).setCell ⟨b, 5, none⟩ x5) b [x0, x1, x2, x3, x4, x5] :=
  (((((h.set 0 x0).set 1 x1).set 2 x2).set 3 x3).set 4 x4).set 5 x5
theorem other6 {w : World} {b c : Nat} {vs : List Value} (h : Box w c vs) (hc : b ≠ c) (x0 x1 x2 x3 x4 x5 : Value) :
    Box ((((((w.setCell ⟨b, 0, none⟩ x0).setCell ⟨b, 1, none⟩ x1).setCell ⟨b, 2, none⟩ x2).setCell ⟨b, 3, none⟩ x3).setCell ⟨b, 4, none⟩ x4).setCell ⟨b, 5, none⟩ x5) c vs :=
  (((((h.other hc x0).other hc x1).other hc x2).other hc x3).other hc x4).other hc x5
theorem below6 {w w1 : World} (h : Below w.heap.size w w1) (x0 x1 x2 x3 x4 x5 : Value) :
    Below w.heap.size w ((((((w1.setCell ⟨w.heap.size, 0, none⟩ x0).setCell ⟨w.heap.size, 1, none⟩ x1).setCell ⟨w.heap.size, 2, none⟩ x2).setCell ⟨w.heap.size, 3, none⟩ x3).setCell ⟨w.heap.size, 4, none⟩ x4).setCell ⟨w.heap.size, 5, none⟩ x5) :=
  (((((h.setCell (Nat.le_refl _) x0).setCell (Nat.le_refl _) x1).setCell (Nat.le_refl _) x2).setCell (Nat.le_refl _) x3).setCell (Nat.le_refl _) x4).setCell (Nat.le_refl _) x5
theorem below6b {w w1 : World} {b : Nat} (hb : w.heap.size ≤ b) (h : Below w.heap.size w w1) (x0 x1 x2 x3 x4 x5 : Value) :
    Below w.heap.size w ((((((w1.setCell ⟨b, 0, none⟩ x0).setCell ⟨b, 1, none⟩ x1).setCell ⟨b, 2, none⟩ x2).setCell ⟨b, 3, none⟩ x3).setCell ⟨b, 4, none⟩ x4).setCell ⟨b, 5, none⟩ x5) :=
  (((((h.setCell hb x0).setCell hb x1).setCell hb x2).setCell hb x3).setCell hb x4).setCell hb x5
theorem IsWait.unique {bu ra pe le pt a c n m : Int} (hb : Buc bu ra pe le pt a) (h1 : IsWait bu ra pe le pt a c n) (h2 : IsWait bu ra pe le pt a c m) : n = m := by
  have key : ∀ k, isU k → k ≤ 18446744073709551615 - a → c ≤ filL bu ra pe le pt a (a + k) → ¬ filL bu ra pe le pt a 18446744073709551615 < c := fun k q0 q1 q2 q3 => by
    have := filL_mono (t1 := a + k) (t2 := 18446744073709551615) hb (by unfold isU at q0; omega) (by omega)
    omega
  rcases h1.is with ⟨e1, f1⟩ | ⟨b1, l1, m1⟩
  · rcases h2.is with ⟨e2, _⟩ | ⟨b2, l2, _⟩
    · rw [e1, e2]
    · exact absurd f1 (key m h2.num b2 l2)
  · rcases h2.is with ⟨_, f2⟩ | ⟨b2, l2, m2⟩
    · exact absurd f2 (key n h1.num b1 l1)
    · have n1 := h1.num.1
      have n2 := h2.num.1
      rcases Int.lt_trichotomy n m with q | q | q
      · have := m2 n n1 q; omega
      · exact q
      · have := m1 m n2 q; omega
theorem rwaited_any {bu ra pe le pt a c : Int} (hb : Buc bu ra pe le pt a) (w : World) :
    Calls Try.prog 39 #[.agg #[.int .i64 bu, .int .i64 ra, .int .i64 pe, .int .i64 le, .int .i64 pt, .int .u64 a], .int .i64 c] w fun e w' =>
      (∃ n, e = .returned (.int .u64 n) ∧ IsWait bu ra pe le pt a c n) ∧ Below w.heap.size w w' := by
  by_cases h : filL bu ra pe le pt a 18446744073709551615 < c
  · exact (rwaited_never hb h w).mono fun e w' ⟨he, hw⟩ => ⟨⟨_, he, ⟨uMax, .inl ⟨rfl, h⟩⟩⟩, hw⟩
  · exact rwaited_some hb h w
theorem rwaited_is {bu ra pe le pt a c n : Int} (hb : Buc bu ra pe le pt a) (hn : Hid (IsWait bu ra pe le pt a c n)) (w : World) :
    Calls Try.prog 39 #[.agg #[.int .i64 bu, .int .i64 ra, .int .i64 pe, .int .i64 le, .int .i64 pt, .int .u64 a], .int .i64 c] w fun e w' => e = .returned (.int .u64 n) ∧ Below w.heap.size w w' :=
  (rwaited_any hb w).mono fun e w' ⟨⟨m, he, hm⟩, hw⟩ => ⟨by rw [he, hm.unique hb hn.out], hw⟩

set_option maxRecDepth 100000 in
set_option maxHeartbeats 1600000 in
theorem rwait_bad {bu ra pe le pt a c : Int} (h : Hid (bucE bu ra pe le pt = 8)) (w : World) :
    Calls Try.prog 26 #[.agg #[.int .i64 bu, .int .i64 ra, .int .i64 pe, .int .i64 le, .int .i64 pt, .int .u64 a], .int .i64 c] w fun e w' => e = .returned (.tuple #[.int .u64 0, .int .i64 8]) ∧ Below w.heap.size w w' := by
  go_enter Try.func26, Try.ntmps26
  go_wp2_with fail
  refine (rcheck_is h _).mono ?_
  rintro e w1 ⟨rfl, hb⟩
  have hB1 : Below w.heap.size w w1 := below_thru (by go_grown) hb
  have hs1 : w.heap.size ≤ w1.heap.size := hB1.size
  have x_x1 : Box w1 (w.heap.size) [.int .i64 bu, .int .i64 ra, .int .i64 pe, .int .i64 le, .int .i64 pt, .int .u64 a] := (by refine Box.below ?_ hb; repeat (first | (with_reducible assumption) | (with_reducible refine Box.drew ?_) | (with_reducible refine Box.drewN ?_ _) | ((with_reducible refine Box.new ?_); simp; done) | (with_reducible apply Box.set2) | (with_reducible refine Box.alloc ?_ _) | (with_reducible refine Box.other ?_ (by first | (dsimp only; omega) | omega) _)))
  have z_x1 := x_x1.lt
  have c_x1_0 := x_x1.c 0 _ rfl
  have f_x1_0 := x_x1.f 0 _ rfl
  have c_x1_1 := x_x1.c 1 _ rfl
  have f_x1_1 := x_x1.f 1 _ rfl
  have c_x1_2 := x_x1.c 2 _ rfl
  have f_x1_2 := x_x1.f 2 _ rfl
  have c_x1_3 := x_x1.c 3 _ rfl
  have f_x1_3 := x_x1.f 3 _ rfl
  have c_x1_4 := x_x1.c 4 _ rfl
  have f_x1_4 := x_x1.f 4 _ rfl
  have c_x1_5 := x_x1.c 5 _ rfl
  have f_x1_5 := x_x1.f 5 _ rfl
  clear hb
  go_wp2_with fail
  refine (rcheck_is h _).mono ?_
  rintro e w2 ⟨rfl, hb⟩
  have hB2 : Below w.heap.size w w2 := below_thru (by go_grown) hb
  have hs2 : w.heap.size ≤ w2.heap.size := hB2.size
  have x_x2 : Box w2 (w.heap.size) [.int .i64 bu, .int .i64 ra, .int .i64 pe, .int .i64 le, .int .i64 pt, .int .u64 a] := (by refine Box.below ?_ hb; repeat (first | (with_reducible assumption) | (with_reducible refine Box.drew ?_) | (with_reducible refine Box.drewN ?_ _) | ((with_reducible refine Box.new ?_); simp; done) | (with_reducible apply Box.set2) | (with_reducible refine Box.alloc ?_ _) | (with_reducible refine Box.other ?_ (by first | (dsimp only; omega) | omega) _)))
  have z_x2 := x_x2.lt
  have c_x2_0 := x_x2.c 0 _ rfl
  have f_x2_0 := x_x2.f 0 _ rfl
  have c_x2_1 := x_x2.c 1 _ rfl
  have f_x2_1 := x_x2.f 1 _ rfl
  have c_x2_2 := x_x2.c 2 _ rfl
  have f_x2_2 := x_x2.f 2 _ rfl
  have c_x2_3 := x_x2.c 3 _ rfl
  have f_x2_3 := x_x2.f 3 _ rfl
  have c_x2_4 := x_x2.c 4 _ rfl
  have f_x2_4 := x_x2.f 4 _ rfl
  have c_x2_5 := x_x2.c 5 _ rfl
  have f_x2_5 := x_x2.f 5 _ rfl
  clear hb hB1 hs1 x_x1 z_x1 c_x1_0 c_x1_1 c_x1_2 c_x1_3 c_x1_4 c_x1_5 f_x1_0 f_x1_1 f_x1_2 f_x1_3 f_x1_4 f_x1_5
  go_wp2_with fail
  go_returns
  exact ⟨rfl, hB2⟩

set_option maxRecDepth 100000 in
set_option maxHeartbeats 1600000 in
theorem rwait_arg {bu ra pe le pt a c : Int} (h : Hid (bucE bu ra pe le pt = 0)) (hc : c < 0) (w : World) :
    Calls Try.prog 26 #[.agg #[.int .i64 bu, .int .i64 ra, .int .i64 pe, .int .i64 le, .int .i64 pt, .int .u64 a], .int .i64 c] w fun e w' => e = .returned (.tuple #[.int .u64 0, .int .i64 2]) ∧ Below w.heap.size w w' := by
  have d1 : decide (c < 0) = true := decide_eq_true hc
  go_enter Try.func26, Try.ntmps26
  go_wp2_with fail
  refine (rcheck_is h _).mono ?_
  rintro e w1 ⟨rfl, hb⟩
  have hB1 : Below w.heap.size w w1 := below_thru (by go_grown) hb
  have hs1 : w.heap.size ≤ w1.heap.size := hB1.size
  have x_x1 : Box w1 (w.heap.size) [.int .i64 bu, .int .i64 ra, .int .i64 pe, .int .i64 le, .int .i64 pt, .int .u64 a] := (by refine Box.below ?_ hb; repeat (first | (with_reducible assumption) | (with_reducible refine Box.drew ?_) | (with_reducible refine Box.drewN ?_ _) | ((with_reducible refine Box.new ?_); simp; done) | (with_reducible apply Box.set2) | (with_reducible refine Box.alloc ?_ _) | (with_reducible refine Box.other ?_ (by first | (dsimp only; omega) | omega) _)))
  have z_x1 := x_x1.lt
  have c_x1_0 := x_x1.c 0 _ rfl
  have f_x1_0 := x_x1.f 0 _ rfl
  have c_x1_1 := x_x1.c 1 _ rfl
  have f_x1_1 := x_x1.f 1 _ rfl
  have c_x1_2 := x_x1.c 2 _ rfl
  have f_x1_2 := x_x1.f 2 _ rfl
  have c_x1_3 := x_x1.c 3 _ rfl
  have f_x1_3 := x_x1.f 3 _ rfl
  have c_x1_4 := x_x1.c 4 _ rfl
  have f_x1_4 := x_x1.f 4 _ rfl
  have c_x1_5 := x_x1.c 5 _ rfl
  have f_x1_5 := x_x1.f 5 _ rfl
  clear hb
  go_wp2_with fail
  go_returns
  exact ⟨rfl, hB1⟩

set_option maxRecDepth 100000 in
set_option maxHeartbeats 1600000 in
theorem rwait_ok {bu ra pe le pt a c n : Int} (hb : Buc bu ra pe le pt a) (hc : 0 ≤ c) (hn : Hid (IsWait bu ra pe le pt a c n)) (w : World) :
    Calls Try.prog 26 #[.agg #[.int .i64 bu, .int .i64 ra, .int .i64 pe, .int .i64 le, .int .i64 pt, .int .u64 a], .int .i64 c] w fun e w' => e = .returned (.tuple #[.int .u64 n, .int .i64 0]) ∧ Below w.heap.size w w' := by
  have d1 : decide (c < 0) = false := decide_eq_false (by omega)
  have h := Lib.hid hb.ok
  have HB := Lib.hid hb
  clear hb
  go_enter Try.func26, Try.ntmps26
  go_wp2_with fail
  refine (rcheck_is h _).mono ?_
  rintro e w1 ⟨rfl, hb⟩
  have hB1 : Below w.heap.size w w1 := below_thru (by go_grown) hb
  have hs1 : w.heap.size ≤ w1.heap.size := hB1.size
  have x_x1 : Box w1 (w.heap.size) [.int .i64 bu, .int .i64 ra, .int .i64 pe, .int .i64 le, .int .i64 pt, .int .u64 a] := (by refine Box.below ?_ hb; repeat (first | (with_reducible assumption) | (with_reducible refine Box.drew ?_) | (with_reducible refine Box.drewN ?_ _) | ((with_reducible refine Box.new ?_); simp; done) | (with_reducible apply Box.set2) | (with_reducible refine Box.alloc ?_ _) | (with_reducible refine Box.other ?_ (by first | (dsimp only; omega) | omega) _)))
  have z_x1 := x_x1.lt
  have c_x1_0 := x_x1.c 0 _ rfl
  have f_x1_0 := x_x1.f 0 _ rfl
  have c_x1_1 := x_x1.c 1 _ rfl
  have f_x1_1 := x_x1.f 1 _ rfl
  have c_x1_2 := x_x1.c 2 _ rfl
  have f_x1_2 := x_x1.f 2 _ rfl
  have c_x1_3 := x_x1.c 3 _ rfl
  have f_x1_3 := x_x1.f 3 _ rfl
  have c_x1_4 := x_x1.c 4 _ rfl
  have f_x1_4 := x_x1.f 4 _ rfl
  have c_x1_5 := x_x1.c 5 _ rfl
  have f_x1_5 := x_x1.f 5 _ rfl
  clear hb
  go_wp2_with fail
  refine (rwaited_is HB.out hn _).mono ?_
  rintro e w2 ⟨rfl, hb⟩
  have hB2 : Below w.heap.size w w2 := below_thru (by go_grown) hb
  have hs2 : w.heap.size ≤ w2.heap.size := hB2.size
  have x_x2 : Box w2 (w.heap.size) [.int .i64 bu, .int .i64 ra, .int .i64 pe, .int .i64 le, .int .i64 pt, .int .u64 a] := (by refine Box.below ?_ hb; repeat (first | (with_reducible assumption) | (with_reducible refine Box.drew ?_) | (with_reducible refine Box.drewN ?_ _) | ((with_reducible refine Box.new ?_); simp; done) | (with_reducible apply Box.set2) | (with_reducible refine Box.alloc ?_ _) | (with_reducible refine Box.other ?_ (by first | (dsimp only; omega) | omega) _)))
  have z_x2 := x_x2.lt
  have c_x2_0 := x_x2.c 0 _ rfl
  have f_x2_0 := x_x2.f 0 _ rfl
  have c_x2_1 := x_x2.c 1 _ rfl
  have f_x2_1 := x_x2.f 1 _ rfl
  have c_x2_2 := x_x2.c 2 _ rfl
  have f_x2_2 := x_x2.f 2 _ rfl
  have c_x2_3 := x_x2.c 3 _ rfl
  have f_x2_3 := x_x2.f 3 _ rfl
  have c_x2_4 := x_x2.c 4 _ rfl
  have f_x2_4 := x_x2.f 4 _ rfl
  have c_x2_5 := x_x2.c 5 _ rfl
  have f_x2_5 := x_x2.f 5 _ rfl
  clear hb hB1 hs1 x_x1 z_x1 c_x1_0 c_x1_1 c_x1_2 c_x1_3 c_x1_4 c_x1_5 f_x1_0 f_x1_1 f_x1_2 f_x1_3 f_x1_4 f_x1_5
  go_wp2_with fail
  go_returns
  exact ⟨rfl, hB2⟩

set_option maxRecDepth 100000 in
set_option maxHeartbeats 1600000 in
theorem rchange_bad {bu ra pe le pt a bu2 ra2 pe2 t : Int} (h : Hid (bucE bu ra pe le pt = 8)) (w : World) :
    Calls Try.prog 27 #[.agg #[.int .i64 bu, .int .i64 ra, .int .i64 pe, .int .i64 le, .int .i64 pt, .int .u64 a], .agg #[.int .i64 bu2, .int .i64 ra2, .int .i64 pe2], .int .u64 t] w fun e w' => e = .returned (.tuple #[.agg #[.int .i64 0, .int .i64 0, .int .i64 0, .int .i64 0, .int .i64 0, .int .u64 0], .int .i64 8]) ∧ Below w.heap.size w w' := by
  go_enter Try.func27, Try.ntmps27
  go_wp2_with fail
  refine (rcheck_is h _).mono ?_
  rintro e w1 ⟨rfl, hb⟩
  have hB1 : Below w.heap.size w w1 := below_thru (by go_grown) hb
  have hs1 : w.heap.size ≤ w1.heap.size := hB1.size
  have x_x1 : Box w1 (w.heap.size) [.int .i64 bu, .int .i64 ra, .int .i64 pe, .int .i64 le, .int .i64 pt, .int .u64 a] := (by refine Box.below ?_ hb; repeat (first | (with_reducible assumption) | (with_reducible refine Box.drew ?_) | (with_reducible refine Box.drewN ?_ _) | ((with_reducible refine Box.new ?_); simp; done) | (with_reducible apply Box.set2) | ((with_reducible apply Box.put); (with_reducible assumption); rfl) | (with_reducible refine Box.alloc ?_ _) | (with_reducible refine Box.other ?_ (by first | (dsimp only; omega) | omega) _)))
  have z_x1 := x_x1.lt
  have c_x1_0 := x_x1.c 0 _ rfl
  have f_x1_0 := x_x1.f 0 _ rfl
  have c_x1_1 := x_x1.c 1 _ rfl
  have f_x1_1 := x_x1.f 1 _ rfl
  have c_x1_2 := x_x1.c 2 _ rfl
  have f_x1_2 := x_x1.f 2 _ rfl
  have c_x1_3 := x_x1.c 3 _ rfl
  have f_x1_3 := x_x1.f 3 _ rfl
  have c_x1_4 := x_x1.c 4 _ rfl
  have f_x1_4 := x_x1.f 4 _ rfl
  have c_x1_5 := x_x1.c 5 _ rfl
  have f_x1_5 := x_x1.f 5 _ rfl
  have x_y1 : Box w1 (w.heap.size + 1) [.int .i64 bu2, .int .i64 ra2, .int .i64 pe2] := (by refine Box.below ?_ hb; repeat (first | (with_reducible assumption) | (with_reducible refine Box.drew ?_) | (with_reducible refine Box.drewN ?_ _) | ((with_reducible refine Box.new ?_); simp; done) | (with_reducible apply Box.set2) | ((with_reducible apply Box.put); (with_reducible assumption); rfl) | (with_reducible refine Box.alloc ?_ _) | (with_reducible refine Box.other ?_ (by first | (dsimp only; omega) | omega) _)))
  have z_y1 := x_y1.lt
  have c_y1_0 := x_y1.c 0 _ rfl
  have f_y1_0 := x_y1.f 0 _ rfl
  have c_y1_1 := x_y1.c 1 _ rfl
  have f_y1_1 := x_y1.f 1 _ rfl
  have c_y1_2 := x_y1.c 2 _ rfl
  have f_y1_2 := x_y1.f 2 _ rfl
  have x_z1 : Box w1 (w.heap.size + 1 + 1) [.int .i64 0, .int .i64 0, .int .i64 0, .int .i64 0, .int .i64 0, .int .u64 0] := (by refine Box.below ?_ hb; repeat (first | (with_reducible assumption) | (with_reducible refine Box.drew ?_) | (with_reducible refine Box.drewN ?_ _) | ((with_reducible refine Box.new ?_); simp; done) | (with_reducible apply Box.set2) | ((with_reducible apply Box.put); (with_reducible assumption); rfl) | (with_reducible refine Box.alloc ?_ _) | (with_reducible refine Box.other ?_ (by first | (dsimp only; omega) | omega) _)))
  have z_z1 := x_z1.lt
  have c_z1_0 := x_z1.c 0 _ rfl
  have f_z1_0 := x_z1.f 0 _ rfl
  have c_z1_1 := x_z1.c 1 _ rfl
  have f_z1_1 := x_z1.f 1 _ rfl
  have c_z1_2 := x_z1.c 2 _ rfl
  have f_z1_2 := x_z1.f 2 _ rfl
  have c_z1_3 := x_z1.c 3 _ rfl
  have f_z1_3 := x_z1.f 3 _ rfl
  have c_z1_4 := x_z1.c 4 _ rfl
  have f_z1_4 := x_z1.f 4 _ rfl
  have c_z1_5 := x_z1.c 5 _ rfl
  have f_z1_5 := x_z1.f 5 _ rfl
  clear hb
  go_wp2_with fail
  refine (rcheck_is h _).mono ?_
  rintro e w2 ⟨rfl, hb⟩
  have hB2 : Below w.heap.size w w2 := below_thru (by go_grown) hb
  have hs2 : w.heap.size ≤ w2.heap.size := hB2.size
  have x_x2 : Box w2 (w.heap.size) [.int .i64 bu, .int .i64 ra, .int .i64 pe, .int .i64 le, .int .i64 pt, .int .u64 a] := (by refine Box.below ?_ hb; repeat (first | (with_reducible assumption) | (with_reducible refine Box.drew ?_) | (with_reducible refine Box.drewN ?_ _) | ((with_reducible refine Box.new ?_); simp; done) | (with_reducible apply Box.set2) | ((with_reducible apply Box.put); (with_reducible assumption); rfl) | (with_reducible refine Box.alloc ?_ _) | (with_reducible refine Box.other ?_ (by first | (dsimp only; omega) | omega) _)))
  have z_x2 := x_x2.lt
  have c_x2_0 := x_x2.c 0 _ rfl
  have f_x2_0 := x_x2.f 0 _ rfl
  have c_x2_1 := x_x2.c 1 _ rfl
  have f_x2_1 := x_x2.f 1 _ rfl
  have c_x2_2 := x_x2.c 2 _ rfl
  have f_x2_2 := x_x2.f 2 _ rfl
  have c_x2_3 := x_x2.c 3 _ rfl
  have f_x2_3 := x_x2.f 3 _ rfl
  have c_x2_4 := x_x2.c 4 _ rfl
  have f_x2_4 := x_x2.f 4 _ rfl
  have c_x2_5 := x_x2.c 5 _ rfl
  have f_x2_5 := x_x2.f 5 _ rfl
  have x_y2 : Box w2 (w.heap.size + 1) [.int .i64 bu2, .int .i64 ra2, .int .i64 pe2] := (by refine Box.below ?_ hb; repeat (first | (with_reducible assumption) | (with_reducible refine Box.drew ?_) | (with_reducible refine Box.drewN ?_ _) | ((with_reducible refine Box.new ?_); simp; done) | (with_reducible apply Box.set2) | ((with_reducible apply Box.put); (with_reducible assumption); rfl) | (with_reducible refine Box.alloc ?_ _) | (with_reducible refine Box.other ?_ (by first | (dsimp only; omega) | omega) _)))
  have z_y2 := x_y2.lt
  have c_y2_0 := x_y2.c 0 _ rfl
  have f_y2_0 := x_y2.f 0 _ rfl
  have c_y2_1 := x_y2.c 1 _ rfl
  have f_y2_1 := x_y2.f 1 _ rfl
  have c_y2_2 := x_y2.c 2 _ rfl
  have f_y2_2 := x_y2.f 2 _ rfl
  have x_z2 : Box w2 (w.heap.size + 1 + 1) [.int .i64 0, .int .i64 0, .int .i64 0, .int .i64 0, .int .i64 0, .int .u64 0] := (by refine Box.below ?_ hb; repeat (first | (with_reducible assumption) | (with_reducible refine Box.drew ?_) | (with_reducible refine Box.drewN ?_ _) | ((with_reducible refine Box.new ?_); simp; done) | (with_reducible apply Box.set2) | ((with_reducible apply Box.put); (with_reducible assumption); rfl) | (with_reducible refine Box.alloc ?_ _) | (with_reducible refine Box.other ?_ (by first | (dsimp only; omega) | omega) _)))
  have z_z2 := x_z2.lt
  have c_z2_0 := x_z2.c 0 _ rfl
  have f_z2_0 := x_z2.f 0 _ rfl
  have c_z2_1 := x_z2.c 1 _ rfl
  have f_z2_1 := x_z2.f 1 _ rfl
  have c_z2_2 := x_z2.c 2 _ rfl
  have f_z2_2 := x_z2.f 2 _ rfl
  have c_z2_3 := x_z2.c 3 _ rfl
  have f_z2_3 := x_z2.f 3 _ rfl
  have c_z2_4 := x_z2.c 4 _ rfl
  have f_z2_4 := x_z2.f 4 _ rfl
  have c_z2_5 := x_z2.c 5 _ rfl
  have f_z2_5 := x_z2.f 5 _ rfl
  clear hb hB1 hs1 x_x1 z_x1 c_x1_0 c_x1_1 c_x1_2 c_x1_3 c_x1_4 c_x1_5 f_x1_0 f_x1_1 f_x1_2 f_x1_3 f_x1_4 f_x1_5 x_y1 z_y1 c_y1_0 c_y1_1 c_y1_2 f_y1_0 f_y1_1 f_y1_2 x_z1 z_z1 c_z1_0 c_z1_1 c_z1_2 c_z1_3 c_z1_4 c_z1_5 f_z1_0 f_z1_1 f_z1_2 f_z1_3 f_z1_4 f_z1_5
  go_wp2_with fail
  refine bodyPost_ret (v := .tuple #[.agg #[.int .i64 0, .int .i64 0, .int .i64 0, .int .i64 0, .int .i64 0, .int .u64 0], .int .i64 8]) (by simp [results, Try.results27, go_sem, c_z2_0, c_z2_1, c_z2_2, c_z2_3, c_z2_4, c_z2_5]) rfl ⟨rfl, ?_⟩
  go_grown

set_option maxRecDepth 100000 in
set_option maxHeartbeats 1600000 in
theorem rchange_lim {bu ra pe le pt a bu2 ra2 pe2 t : Int} (h : Hid (bucE bu ra pe le pt = 0)) (h2 : Hid (limE bu2 ra2 pe2 = 8)) (w : World) :
    Calls Try.prog 27 #[.agg #[.int .i64 bu, .int .i64 ra, .int .i64 pe, .int .i64 le, .int .i64 pt, .int .u64 a], .agg #[.int .i64 bu2, .int .i64 ra2, .int .i64 pe2], .int .u64 t] w fun e w' => e = .returned (.tuple #[.agg #[.int .i64 0, .int .i64 0, .int .i64 0, .int .i64 0, .int .i64 0, .int .u64 0], .int .i64 8]) ∧ Below w.heap.size w w' := by
  go_enter Try.func27, Try.ntmps27
  go_wp2_with fail
  refine (rcheck_is h _).mono ?_
  rintro e w1 ⟨rfl, hb⟩
  have hB1 : Below w.heap.size w w1 := below_thru (by go_grown) hb
  have hs1 : w.heap.size ≤ w1.heap.size := hB1.size
  have x_x1 : Box w1 (w.heap.size) [.int .i64 bu, .int .i64 ra, .int .i64 pe, .int .i64 le, .int .i64 pt, .int .u64 a] := (by refine Box.below ?_ hb; repeat (first | (with_reducible assumption) | (with_reducible refine Box.drew ?_) | (with_reducible refine Box.drewN ?_ _) | ((with_reducible refine Box.new ?_); simp; done) | (with_reducible apply Box.set2) | ((with_reducible apply Box.put); (with_reducible assumption); rfl) | (with_reducible refine Box.alloc ?_ _) | (with_reducible refine Box.other ?_ (by first | (dsimp only; omega) | omega) _)))
  have z_x1 := x_x1.lt
  have c_x1_0 := x_x1.c 0 _ rfl
  have f_x1_0 := x_x1.f 0 _ rfl
  have c_x1_1 := x_x1.c 1 _ rfl
  have f_x1_1 := x_x1.f 1 _ rfl
  have c_x1_2 := x_x1.c 2 _ rfl
  have f_x1_2 := x_x1.f 2 _ rfl
  have c_x1_3 := x_x1.c 3 _ rfl
  have f_x1_3 := x_x1.f 3 _ rfl
  have c_x1_4 := x_x1.c 4 _ rfl
  have f_x1_4 := x_x1.f 4 _ rfl
  have c_x1_5 := x_x1.c 5 _ rfl
  have f_x1_5 := x_x1.f 5 _ rfl
  have x_y1 : Box w1 (w.heap.size + 1) [.int .i64 bu2, .int .i64 ra2, .int .i64 pe2] := (by refine Box.below ?_ hb; repeat (first | (with_reducible assumption) | (with_reducible refine Box.drew ?_) | (with_reducible refine Box.drewN ?_ _) | ((with_reducible refine Box.new ?_); simp; done) | (with_reducible apply Box.set2) | ((with_reducible apply Box.put); (with_reducible assumption); rfl) | (with_reducible refine Box.alloc ?_ _) | (with_reducible refine Box.other ?_ (by first | (dsimp only; omega) | omega) _)))
  have z_y1 := x_y1.lt
  have c_y1_0 := x_y1.c 0 _ rfl
  have f_y1_0 := x_y1.f 0 _ rfl
  have c_y1_1 := x_y1.c 1 _ rfl
  have f_y1_1 := x_y1.f 1 _ rfl
  have c_y1_2 := x_y1.c 2 _ rfl
  have f_y1_2 := x_y1.f 2 _ rfl
  have x_z1 : Box w1 (w.heap.size + 1 + 1) [.int .i64 0, .int .i64 0, .int .i64 0, .int .i64 0, .int .i64 0, .int .u64 0] := (by refine Box.below ?_ hb; repeat (first | (with_reducible assumption) | (with_reducible refine Box.drew ?_) | (with_reducible refine Box.drewN ?_ _) | ((with_reducible refine Box.new ?_); simp; done) | (with_reducible apply Box.set2) | ((with_reducible apply Box.put); (with_reducible assumption); rfl) | (with_reducible refine Box.alloc ?_ _) | (with_reducible refine Box.other ?_ (by first | (dsimp only; omega) | omega) _)))
  have z_z1 := x_z1.lt
  have c_z1_0 := x_z1.c 0 _ rfl
  have f_z1_0 := x_z1.f 0 _ rfl
  have c_z1_1 := x_z1.c 1 _ rfl
  have f_z1_1 := x_z1.f 1 _ rfl
  have c_z1_2 := x_z1.c 2 _ rfl
  have f_z1_2 := x_z1.f 2 _ rfl
  have c_z1_3 := x_z1.c 3 _ rfl
  have f_z1_3 := x_z1.f 3 _ rfl
  have c_z1_4 := x_z1.c 4 _ rfl
  have f_z1_4 := x_z1.f 4 _ rfl
  have c_z1_5 := x_z1.c 5 _ rfl
  have f_z1_5 := x_z1.f 5 _ rfl
  clear hb
  go_wp2_with fail
  refine (rlimit_is h2 _).mono ?_
  rintro e w2 ⟨rfl, hb⟩
  have hB2 : Below w.heap.size w w2 := below_thru (by go_grown) hb
  have hs2 : w.heap.size ≤ w2.heap.size := hB2.size
  have x_x2 : Box w2 (w.heap.size) [.int .i64 bu, .int .i64 ra, .int .i64 pe, .int .i64 le, .int .i64 pt, .int .u64 a] := (by refine Box.below ?_ hb; repeat (first | (with_reducible assumption) | (with_reducible refine Box.drew ?_) | (with_reducible refine Box.drewN ?_ _) | ((with_reducible refine Box.new ?_); simp; done) | (with_reducible apply Box.set2) | ((with_reducible apply Box.put); (with_reducible assumption); rfl) | (with_reducible refine Box.alloc ?_ _) | (with_reducible refine Box.other ?_ (by first | (dsimp only; omega) | omega) _)))
  have z_x2 := x_x2.lt
  have c_x2_0 := x_x2.c 0 _ rfl
  have f_x2_0 := x_x2.f 0 _ rfl
  have c_x2_1 := x_x2.c 1 _ rfl
  have f_x2_1 := x_x2.f 1 _ rfl
  have c_x2_2 := x_x2.c 2 _ rfl
  have f_x2_2 := x_x2.f 2 _ rfl
  have c_x2_3 := x_x2.c 3 _ rfl
  have f_x2_3 := x_x2.f 3 _ rfl
  have c_x2_4 := x_x2.c 4 _ rfl
  have f_x2_4 := x_x2.f 4 _ rfl
  have c_x2_5 := x_x2.c 5 _ rfl
  have f_x2_5 := x_x2.f 5 _ rfl
  have x_y2 : Box w2 (w.heap.size + 1) [.int .i64 bu2, .int .i64 ra2, .int .i64 pe2] := (by refine Box.below ?_ hb; repeat (first | (with_reducible assumption) | (with_reducible refine Box.drew ?_) | (with_reducible refine Box.drewN ?_ _) | ((with_reducible refine Box.new ?_); simp; done) | (with_reducible apply Box.set2) | ((with_reducible apply Box.put); (with_reducible assumption); rfl) | (with_reducible refine Box.alloc ?_ _) | (with_reducible refine Box.other ?_ (by first | (dsimp only; omega) | omega) _)))
  have z_y2 := x_y2.lt
  have c_y2_0 := x_y2.c 0 _ rfl
  have f_y2_0 := x_y2.f 0 _ rfl
  have c_y2_1 := x_y2.c 1 _ rfl
  have f_y2_1 := x_y2.f 1 _ rfl
  have c_y2_2 := x_y2.c 2 _ rfl
  have f_y2_2 := x_y2.f 2 _ rfl
  have x_z2 : Box w2 (w.heap.size + 1 + 1) [.int .i64 0, .int .i64 0, .int .i64 0, .int .i64 0, .int .i64 0, .int .u64 0] := (by refine Box.below ?_ hb; repeat (first | (with_reducible assumption) | (with_reducible refine Box.drew ?_) | (with_reducible refine Box.drewN ?_ _) | ((with_reducible refine Box.new ?_); simp; done) | (with_reducible apply Box.set2) | ((with_reducible apply Box.put); (with_reducible assumption); rfl) | (with_reducible refine Box.alloc ?_ _) | (with_reducible refine Box.other ?_ (by first | (dsimp only; omega) | omega) _)))
  have z_z2 := x_z2.lt
  have c_z2_0 := x_z2.c 0 _ rfl
  have f_z2_0 := x_z2.f 0 _ rfl
  have c_z2_1 := x_z2.c 1 _ rfl
  have f_z2_1 := x_z2.f 1 _ rfl
  have c_z2_2 := x_z2.c 2 _ rfl
  have f_z2_2 := x_z2.f 2 _ rfl
  have c_z2_3 := x_z2.c 3 _ rfl
  have f_z2_3 := x_z2.f 3 _ rfl
  have c_z2_4 := x_z2.c 4 _ rfl
  have f_z2_4 := x_z2.f 4 _ rfl
  have c_z2_5 := x_z2.c 5 _ rfl
  have f_z2_5 := x_z2.f 5 _ rfl
  clear hb hB1 hs1 x_x1 z_x1 c_x1_0 c_x1_1 c_x1_2 c_x1_3 c_x1_4 c_x1_5 f_x1_0 f_x1_1 f_x1_2 f_x1_3 f_x1_4 f_x1_5 x_y1 z_y1 c_y1_0 c_y1_1 c_y1_2 f_y1_0 f_y1_1 f_y1_2 x_z1 z_z1 c_z1_0 c_z1_1 c_z1_2 c_z1_3 c_z1_4 c_z1_5 f_z1_0 f_z1_1 f_z1_2 f_z1_3 f_z1_4 f_z1_5
  go_wp2_with fail
  refine (rlimit_is h2 _).mono ?_
  rintro e w3 ⟨rfl, hb⟩
  have hB3 : Below w.heap.size w w3 := below_thru (by go_grown) hb
  have hs3 : w.heap.size ≤ w3.heap.size := hB3.size
  have x_x3 : Box w3 (w.heap.size) [.int .i64 bu, .int .i64 ra, .int .i64 pe, .int .i64 le, .int .i64 pt, .int .u64 a] := (by refine Box.below ?_ hb; repeat (first | (with_reducible assumption) | (with_reducible refine Box.drew ?_) | (with_reducible refine Box.drewN ?_ _) | ((with_reducible refine Box.new ?_); simp; done) | (with_reducible apply Box.set2) | ((with_reducible apply Box.put); (with_reducible assumption); rfl) | (with_reducible refine Box.alloc ?_ _) | (with_reducible refine Box.other ?_ (by first | (dsimp only; omega) | omega) _)))
  have z_x3 := x_x3.lt
  have c_x3_0 := x_x3.c 0 _ rfl
  have f_x3_0 := x_x3.f 0 _ rfl
  have c_x3_1 := x_x3.c 1 _ rfl
  have f_x3_1 := x_x3.f 1 _ rfl
  have c_x3_2 := x_x3.c 2 _ rfl
  have f_x3_2 := x_x3.f 2 _ rfl
  have c_x3_3 := x_x3.c 3 _ rfl
  have f_x3_3 := x_x3.f 3 _ rfl
  have c_x3_4 := x_x3.c 4 _ rfl
  have f_x3_4 := x_x3.f 4 _ rfl
  have c_x3_5 := x_x3.c 5 _ rfl
  have f_x3_5 := x_x3.f 5 _ rfl
  have x_y3 : Box w3 (w.heap.size + 1) [.int .i64 bu2, .int .i64 ra2, .int .i64 pe2] := (by refine Box.below ?_ hb; repeat (first | (with_reducible assumption) | (with_reducible refine Box.drew ?_) | (with_reducible refine Box.drewN ?_ _) | ((with_reducible refine Box.new ?_); simp; done) | (with_reducible apply Box.set2) | ((with_reducible apply Box.put); (with_reducible assumption); rfl) | (with_reducible refine Box.alloc ?_ _) | (with_reducible refine Box.other ?_ (by first | (dsimp only; omega) | omega) _)))
  have z_y3 := x_y3.lt
  have c_y3_0 := x_y3.c 0 _ rfl
  have f_y3_0 := x_y3.f 0 _ rfl
  have c_y3_1 := x_y3.c 1 _ rfl
  have f_y3_1 := x_y3.f 1 _ rfl
  have c_y3_2 := x_y3.c 2 _ rfl
  have f_y3_2 := x_y3.f 2 _ rfl
  have x_z3 : Box w3 (w.heap.size + 1 + 1) [.int .i64 0, .int .i64 0, .int .i64 0, .int .i64 0, .int .i64 0, .int .u64 0] := (by refine Box.below ?_ hb; repeat (first | (with_reducible assumption) | (with_reducible refine Box.drew ?_) | (with_reducible refine Box.drewN ?_ _) | ((with_reducible refine Box.new ?_); simp; done) | (with_reducible apply Box.set2) | ((with_reducible apply Box.put); (with_reducible assumption); rfl) | (with_reducible refine Box.alloc ?_ _) | (with_reducible refine Box.other ?_ (by first | (dsimp only; omega) | omega) _)))
  have z_z3 := x_z3.lt
  have c_z3_0 := x_z3.c 0 _ rfl
  have f_z3_0 := x_z3.f 0 _ rfl
  have c_z3_1 := x_z3.c 1 _ rfl
  have f_z3_1 := x_z3.f 1 _ rfl
  have c_z3_2 := x_z3.c 2 _ rfl
  have f_z3_2 := x_z3.f 2 _ rfl
  have c_z3_3 := x_z3.c 3 _ rfl
  have f_z3_3 := x_z3.f 3 _ rfl
  have c_z3_4 := x_z3.c 4 _ rfl
  have f_z3_4 := x_z3.f 4 _ rfl
  have c_z3_5 := x_z3.c 5 _ rfl
  have f_z3_5 := x_z3.f 5 _ rfl
  clear hb hB2 hs2 x_x2 z_x2 c_x2_0 c_x2_1 c_x2_2 c_x2_3 c_x2_4 c_x2_5 f_x2_0 f_x2_1 f_x2_2 f_x2_3 f_x2_4 f_x2_5 x_y2 z_y2 c_y2_0 c_y2_1 c_y2_2 f_y2_0 f_y2_1 f_y2_2 x_z2 z_z2 c_z2_0 c_z2_1 c_z2_2 c_z2_3 c_z2_4 c_z2_5 f_z2_0 f_z2_1 f_z2_2 f_z2_3 f_z2_4 f_z2_5
  go_wp2_with fail
  refine bodyPost_ret (v := .tuple #[.agg #[.int .i64 0, .int .i64 0, .int .i64 0, .int .i64 0, .int .i64 0, .int .u64 0], .int .i64 8]) (by simp [results, Try.results27, go_sem, c_z3_0, c_z3_1, c_z3_2, c_z3_3, c_z3_4, c_z3_5]) rfl ⟨rfl, ?_⟩
  go_grown

set_option maxRecDepth 100000 in
set_option maxHeartbeats 1600000 in
theorem rchange_ok {bu ra pe le pt a bu2 ra2 pe2 t L P T : Int} (hb : Buc bu ra pe le pt a) (ht : isU t) (h2 : Hid (limE bu2 ra2 pe2 = 0)) (e1 : Hid (filL bu ra pe le pt a t = L)) (e2 : Hid (filP bu ra pe le pt a t = P)) (e3 : Hid (filA a t = T)) (w : World) :
    Calls Try.prog 27 #[.agg #[.int .i64 bu, .int .i64 ra, .int .i64 pe, .int .i64 le, .int .i64 pt, .int .u64 a], .agg #[.int .i64 bu2, .int .i64 ra2, .int .i64 pe2], .int .u64 t] w fun e w' => e = .returned (.tuple #[.agg #[.int .i64 bu2, .int .i64 ra2, .int .i64 pe2, .int .i64 (min L bu2), .int .i64 0, .int .u64 T], .int .i64 0]) ∧ Below w.heap.size w w' := by
  have h := Lib.hid hb.ok
  have HB := Lib.hid hb
  clear hb
  go_enter Try.func27, Try.ntmps27
  go_wp2_with fail
  refine (rcheck_is h _).mono ?_
  rintro e w1 ⟨rfl, hb⟩
  have hB1 : Below w.heap.size w w1 := below_thru (by go_grown) hb
  have hs1 : w.heap.size ≤ w1.heap.size := hB1.size
  have x_x1 : Box w1 (w.heap.size) [.int .i64 bu, .int .i64 ra, .int .i64 pe, .int .i64 le, .int .i64 pt, .int .u64 a] := (by refine Box.below ?_ hb; repeat (first | (with_reducible assumption) | (with_reducible refine Box.drew ?_) | (with_reducible refine Box.drewN ?_ _) | ((with_reducible refine Box.new ?_); simp; done) | (with_reducible apply Box.set2) | ((with_reducible apply Box.put); (with_reducible assumption); rfl) | (with_reducible refine Box.alloc ?_ _) | (with_reducible refine Box.other ?_ (by first | (dsimp only; omega) | omega) _)))
  have z_x1 := x_x1.lt
  have c_x1_0 := x_x1.c 0 _ rfl
  have f_x1_0 := x_x1.f 0 _ rfl
  have c_x1_1 := x_x1.c 1 _ rfl
  have f_x1_1 := x_x1.f 1 _ rfl
  have c_x1_2 := x_x1.c 2 _ rfl
  have f_x1_2 := x_x1.f 2 _ rfl
  have c_x1_3 := x_x1.c 3 _ rfl
  have f_x1_3 := x_x1.f 3 _ rfl
  have c_x1_4 := x_x1.c 4 _ rfl
  have f_x1_4 := x_x1.f 4 _ rfl
  have c_x1_5 := x_x1.c 5 _ rfl
  have f_x1_5 := x_x1.f 5 _ rfl
  have x_y1 : Box w1 (w.heap.size + 1) [.int .i64 bu2, .int .i64 ra2, .int .i64 pe2] := (by refine Box.below ?_ hb; repeat (first | (with_reducible assumption) | (with_reducible refine Box.drew ?_) | (with_reducible refine Box.drewN ?_ _) | ((with_reducible refine Box.new ?_); simp; done) | (with_reducible apply Box.set2) | ((with_reducible apply Box.put); (with_reducible assumption); rfl) | (with_reducible refine Box.alloc ?_ _) | (with_reducible refine Box.other ?_ (by first | (dsimp only; omega) | omega) _)))
  have z_y1 := x_y1.lt
  have c_y1_0 := x_y1.c 0 _ rfl
  have f_y1_0 := x_y1.f 0 _ rfl
  have c_y1_1 := x_y1.c 1 _ rfl
  have f_y1_1 := x_y1.f 1 _ rfl
  have c_y1_2 := x_y1.c 2 _ rfl
  have f_y1_2 := x_y1.f 2 _ rfl
  have x_z1 : Box w1 (w.heap.size + 1 + 1) [.int .i64 0, .int .i64 0, .int .i64 0, .int .i64 0, .int .i64 0, .int .u64 0] := (by refine Box.below ?_ hb; repeat (first | (with_reducible assumption) | (with_reducible refine Box.drew ?_) | (with_reducible refine Box.drewN ?_ _) | ((with_reducible refine Box.new ?_); simp; done) | (with_reducible apply Box.set2) | ((with_reducible apply Box.put); (with_reducible assumption); rfl) | (with_reducible refine Box.alloc ?_ _) | (with_reducible refine Box.other ?_ (by first | (dsimp only; omega) | omega) _)))
  have z_z1 := x_z1.lt
  have c_z1_0 := x_z1.c 0 _ rfl
  have f_z1_0 := x_z1.f 0 _ rfl
  have c_z1_1 := x_z1.c 1 _ rfl
  have f_z1_1 := x_z1.f 1 _ rfl
  have c_z1_2 := x_z1.c 2 _ rfl
  have f_z1_2 := x_z1.f 2 _ rfl
  have c_z1_3 := x_z1.c 3 _ rfl
  have f_z1_3 := x_z1.f 3 _ rfl
  have c_z1_4 := x_z1.c 4 _ rfl
  have f_z1_4 := x_z1.f 4 _ rfl
  have c_z1_5 := x_z1.c 5 _ rfl
  have f_z1_5 := x_z1.f 5 _ rfl
  clear hb
  go_wp2_with fail
  refine (rlimit_is h2 _).mono ?_
  rintro e w2 ⟨rfl, hb⟩
  have hB2 : Below w.heap.size w w2 := below_thru (by go_grown) hb
  have hs2 : w.heap.size ≤ w2.heap.size := hB2.size
  have x_x2 : Box w2 (w.heap.size) [.int .i64 bu, .int .i64 ra, .int .i64 pe, .int .i64 le, .int .i64 pt, .int .u64 a] := (by refine Box.below ?_ hb; repeat (first | (with_reducible assumption) | (with_reducible refine Box.drew ?_) | (with_reducible refine Box.drewN ?_ _) | ((with_reducible refine Box.new ?_); simp; done) | (with_reducible apply Box.set2) | ((with_reducible apply Box.put); (with_reducible assumption); rfl) | (with_reducible refine Box.alloc ?_ _) | (with_reducible refine Box.other ?_ (by first | (dsimp only; omega) | omega) _)))
  have z_x2 := x_x2.lt
  have c_x2_0 := x_x2.c 0 _ rfl
  have f_x2_0 := x_x2.f 0 _ rfl
  have c_x2_1 := x_x2.c 1 _ rfl
  have f_x2_1 := x_x2.f 1 _ rfl
  have c_x2_2 := x_x2.c 2 _ rfl
  have f_x2_2 := x_x2.f 2 _ rfl
  have c_x2_3 := x_x2.c 3 _ rfl
  have f_x2_3 := x_x2.f 3 _ rfl
  have c_x2_4 := x_x2.c 4 _ rfl
  have f_x2_4 := x_x2.f 4 _ rfl
  have c_x2_5 := x_x2.c 5 _ rfl
  have f_x2_5 := x_x2.f 5 _ rfl
  have x_y2 : Box w2 (w.heap.size + 1) [.int .i64 bu2, .int .i64 ra2, .int .i64 pe2] := (by refine Box.below ?_ hb; repeat (first | (with_reducible assumption) | (with_reducible refine Box.drew ?_) | (with_reducible refine Box.drewN ?_ _) | ((with_reducible refine Box.new ?_); simp; done) | (with_reducible apply Box.set2) | ((with_reducible apply Box.put); (with_reducible assumption); rfl) | (with_reducible refine Box.alloc ?_ _) | (with_reducible refine Box.other ?_ (by first | (dsimp only; omega) | omega) _)))
  have z_y2 := x_y2.lt
  have c_y2_0 := x_y2.c 0 _ rfl
  have f_y2_0 := x_y2.f 0 _ rfl
  have c_y2_1 := x_y2.c 1 _ rfl
  have f_y2_1 := x_y2.f 1 _ rfl
  have c_y2_2 := x_y2.c 2 _ rfl
  have f_y2_2 := x_y2.f 2 _ rfl
  have x_z2 : Box w2 (w.heap.size + 1 + 1) [.int .i64 0, .int .i64 0, .int .i64 0, .int .i64 0, .int .i64 0, .int .u64 0] := (by refine Box.below ?_ hb; repeat (first | (with_reducible assumption) | (with_reducible refine Box.drew ?_) | (with_reducible refine Box.drewN ?_ _) | ((with_reducible refine Box.new ?_); simp; done) | (with_reducible apply Box.set2) | ((with_reducible apply Box.put); (with_reducible assumption); rfl) | (with_reducible refine Box.alloc ?_ _) | (with_reducible refine Box.other ?_ (by first | (dsimp only; omega) | omega) _)))
  have z_z2 := x_z2.lt
  have c_z2_0 := x_z2.c 0 _ rfl
  have f_z2_0 := x_z2.f 0 _ rfl
  have c_z2_1 := x_z2.c 1 _ rfl
  have f_z2_1 := x_z2.f 1 _ rfl
  have c_z2_2 := x_z2.c 2 _ rfl
  have f_z2_2 := x_z2.f 2 _ rfl
  have c_z2_3 := x_z2.c 3 _ rfl
  have f_z2_3 := x_z2.f 3 _ rfl
  have c_z2_4 := x_z2.c 4 _ rfl
  have f_z2_4 := x_z2.f 4 _ rfl
  have c_z2_5 := x_z2.c 5 _ rfl
  have f_z2_5 := x_z2.f 5 _ rfl
  clear hb hB1 hs1 x_x1 z_x1 c_x1_0 c_x1_1 c_x1_2 c_x1_3 c_x1_4 c_x1_5 f_x1_0 f_x1_1 f_x1_2 f_x1_3 f_x1_4 f_x1_5 x_y1 z_y1 c_y1_0 c_y1_1 c_y1_2 f_y1_0 f_y1_1 f_y1_2 x_z1 z_z1 c_z1_0 c_z1_1 c_z1_2 c_z1_3 c_z1_4 c_z1_5 f_z1_0 f_z1_1 f_z1_2 f_z1_3 f_z1_4 f_z1_5
  go_wp2_with fail
  refine (rfilled_any HB.out ht e1 e2 e3 _).mono ?_
  rintro e w3 ⟨rfl, hb⟩
  have hB3 : Below w.heap.size w w3 := below_thru (by go_grown) hb
  have hs3 : w.heap.size ≤ w3.heap.size := hB3.size
  have x_x3 : Box w3 (w.heap.size) [.int .i64 bu, .int .i64 ra, .int .i64 pe, .int .i64 le, .int .i64 pt, .int .u64 a] := (by refine Box.below ?_ hb; repeat (first | (with_reducible assumption) | (with_reducible refine Box.drew ?_) | (with_reducible refine Box.drewN ?_ _) | ((with_reducible refine Box.new ?_); simp; done) | (with_reducible apply Box.set2) | ((with_reducible apply Box.put); (with_reducible assumption); rfl) | (with_reducible refine Box.alloc ?_ _) | (with_reducible refine Box.other ?_ (by first | (dsimp only; omega) | omega) _)))
  have z_x3 := x_x3.lt
  have c_x3_0 := x_x3.c 0 _ rfl
  have f_x3_0 := x_x3.f 0 _ rfl
  have c_x3_1 := x_x3.c 1 _ rfl
  have f_x3_1 := x_x3.f 1 _ rfl
  have c_x3_2 := x_x3.c 2 _ rfl
  have f_x3_2 := x_x3.f 2 _ rfl
  have c_x3_3 := x_x3.c 3 _ rfl
  have f_x3_3 := x_x3.f 3 _ rfl
  have c_x3_4 := x_x3.c 4 _ rfl
  have f_x3_4 := x_x3.f 4 _ rfl
  have c_x3_5 := x_x3.c 5 _ rfl
  have f_x3_5 := x_x3.f 5 _ rfl
  have x_y3 : Box w3 (w.heap.size + 1) [.int .i64 bu2, .int .i64 ra2, .int .i64 pe2] := (by refine Box.below ?_ hb; repeat (first | (with_reducible assumption) | (with_reducible refine Box.drew ?_) | (with_reducible refine Box.drewN ?_ _) | ((with_reducible refine Box.new ?_); simp; done) | (with_reducible apply Box.set2) | ((with_reducible apply Box.put); (with_reducible assumption); rfl) | (with_reducible refine Box.alloc ?_ _) | (with_reducible refine Box.other ?_ (by first | (dsimp only; omega) | omega) _)))
  have z_y3 := x_y3.lt
  have c_y3_0 := x_y3.c 0 _ rfl
  have f_y3_0 := x_y3.f 0 _ rfl
  have c_y3_1 := x_y3.c 1 _ rfl
  have f_y3_1 := x_y3.f 1 _ rfl
  have c_y3_2 := x_y3.c 2 _ rfl
  have f_y3_2 := x_y3.f 2 _ rfl
  have x_z3 : Box w3 (w.heap.size + 1 + 1) [.int .i64 0, .int .i64 0, .int .i64 0, .int .i64 0, .int .i64 0, .int .u64 0] := (by refine Box.below ?_ hb; repeat (first | (with_reducible assumption) | (with_reducible refine Box.drew ?_) | (with_reducible refine Box.drewN ?_ _) | ((with_reducible refine Box.new ?_); simp; done) | (with_reducible apply Box.set2) | ((with_reducible apply Box.put); (with_reducible assumption); rfl) | (with_reducible refine Box.alloc ?_ _) | (with_reducible refine Box.other ?_ (by first | (dsimp only; omega) | omega) _)))
  have z_z3 := x_z3.lt
  have c_z3_0 := x_z3.c 0 _ rfl
  have f_z3_0 := x_z3.f 0 _ rfl
  have c_z3_1 := x_z3.c 1 _ rfl
  have f_z3_1 := x_z3.f 1 _ rfl
  have c_z3_2 := x_z3.c 2 _ rfl
  have f_z3_2 := x_z3.f 2 _ rfl
  have c_z3_3 := x_z3.c 3 _ rfl
  have f_z3_3 := x_z3.f 3 _ rfl
  have c_z3_4 := x_z3.c 4 _ rfl
  have f_z3_4 := x_z3.f 4 _ rfl
  have c_z3_5 := x_z3.c 5 _ rfl
  have f_z3_5 := x_z3.f 5 _ rfl
  clear hb hB2 hs2 x_x2 z_x2 c_x2_0 c_x2_1 c_x2_2 c_x2_3 c_x2_4 c_x2_5 f_x2_0 f_x2_1 f_x2_2 f_x2_3 f_x2_4 f_x2_5 x_y2 z_y2 c_y2_0 c_y2_1 c_y2_2 f_y2_0 f_y2_1 f_y2_2 x_z2 z_z2 c_z2_0 c_z2_1 c_z2_2 c_z2_3 c_z2_4 c_z2_5 f_z2_0 f_z2_1 f_z2_2 f_z2_3 f_z2_4 f_z2_5
  go_upto_region 6 with fail
  have x_x9 := put6 x_x3 (.int .i64 bu) (.int .i64 ra) (.int .i64 pe) (.int .i64 L) (.int .i64 P) (.int .u64 T)
  have x_y9 := other6 x_y3 (show w.heap.size ≠ w.heap.size + 1 by omega) (.int .i64 bu) (.int .i64 ra) (.int .i64 pe) (.int .i64 L) (.int .i64 P) (.int .u64 T)
  have x_z9 := other6 x_z3 (show w.heap.size ≠ w.heap.size + 1 + 1 by omega) (.int .i64 bu) (.int .i64 ra) (.int .i64 pe) (.int .i64 L) (.int .i64 P) (.int .u64 T)
  have hB9 := below6 hB3 (.int .i64 bu) (.int .i64 ra) (.int .i64 pe) (.int .i64 L) (.int .i64 P) (.int .u64 T)
  obtain ⟨w9, h9⟩ : ∃ W, ((((((w3.setCell ⟨w.heap.size, 0, none⟩ (.int .i64 bu)).setCell ⟨w.heap.size, 1, none⟩ (.int .i64 ra)).setCell ⟨w.heap.size, 2, none⟩ (.int .i64 pe)).setCell ⟨w.heap.size, 3, none⟩ (.int .i64 L)).setCell ⟨w.heap.size, 4, none⟩ (.int .i64 P)).setCell ⟨w.heap.size, 5, none⟩ (.int .u64 T)) = W := ⟨_, rfl⟩
  rw [h9] at x_x9 x_y9 x_z9 hB9 ⊢
  have hs9 := hB9.size
  clear hB3 hs3 h9 x_x3 z_x3 c_x3_0 c_x3_1 c_x3_2 c_x3_3 c_x3_4 c_x3_5 f_x3_0 f_x3_1 f_x3_2 f_x3_3 f_x3_4 f_x3_5 x_y3 z_y3 c_y3_0 c_y3_1 c_y3_2 f_y3_0 f_y3_1 f_y3_2 x_z3 z_z3 c_z3_0 c_z3_1 c_z3_2 c_z3_3 c_z3_4 c_z3_5 f_z3_0 f_z3_1 f_z3_2 f_z3_3 f_z3_4 f_z3_5
  have z_x9 := x_x9.lt
  have c_x9_0 := x_x9.c 0 _ rfl; have f_x9_0 := x_x9.f 0 _ rfl
  have c_x9_1 := x_x9.c 1 _ rfl; have f_x9_1 := x_x9.f 1 _ rfl
  have c_x9_2 := x_x9.c 2 _ rfl; have f_x9_2 := x_x9.f 2 _ rfl
  have c_x9_3 := x_x9.c 3 _ rfl; have f_x9_3 := x_x9.f 3 _ rfl
  have c_x9_4 := x_x9.c 4 _ rfl; have f_x9_4 := x_x9.f 4 _ rfl
  have c_x9_5 := x_x9.c 5 _ rfl; have f_x9_5 := x_x9.f 5 _ rfl
  have z_y9 := x_y9.lt
  have c_y9_0 := x_y9.c 0 _ rfl; have f_y9_0 := x_y9.f 0 _ rfl
  have c_y9_1 := x_y9.c 1 _ rfl; have f_y9_1 := x_y9.f 1 _ rfl
  have c_y9_2 := x_y9.c 2 _ rfl; have f_y9_2 := x_y9.f 2 _ rfl
  have z_z9 := x_z9.lt
  have c_z9_0 := x_z9.c 0 _ rfl; have f_z9_0 := x_z9.f 0 _ rfl
  have c_z9_1 := x_z9.c 1 _ rfl; have f_z9_1 := x_z9.f 1 _ rfl
  have c_z9_2 := x_z9.c 2 _ rfl; have f_z9_2 := x_z9.f 2 _ rfl
  have c_z9_3 := x_z9.c 3 _ rfl; have f_z9_3 := x_z9.f 3 _ rfl
  have c_z9_4 := x_z9.c 4 _ rfl; have f_z9_4 := x_z9.f 4 _ rfl
  have c_z9_5 := x_z9.c 5 _ rfl; have f_z9_5 := x_z9.f 5 _ rfl
  go_wp2_with fail
  refine bodyPost_ret (v := .tuple #[.agg #[.int .i64 bu2, .int .i64 ra2, .int .i64 pe2, .int .i64 (min L bu2), .int .i64 0, .int .u64 T], .int .i64 0]) (by simp [results, Try.results27, go_sem, c_z9_0, c_z9_1, c_z9_2, c_z9_3, c_z9_4, c_z9_5]) rfl ⟨rfl, ?_⟩
  go_grown

end Go.Proofs.Ytikhdfmdbpcajaa
