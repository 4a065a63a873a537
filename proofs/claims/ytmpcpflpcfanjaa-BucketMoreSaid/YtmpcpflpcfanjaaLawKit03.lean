/-
  The helpers of the statements of layer 3, walked over the contracts of package bucket.
-/
import Derived.Test.YtmpcpflpcfanjaaBucketW
namespace Go.Proofs.Ytmpcpflpcfanjaa
open Go.RowKit

theorem change_is {bu ra pe le pt a bu2 ra2 pe2 t L P T M : Int} (hb : Buc bu ra pe le pt a) (ht : isU t) (h2 : Hid (limE bu2 ra2 pe2 = 0)) (e1 : Hid (filL bu ra pe le pt a t = L)) (e2 : Hid (filP bu ra pe le pt a t = P)) (e3 : Hid (filA a t = T)) (hm : Hid (min L bu2 = M)) (w : World) :
    Calls Try.prog 46 #[.agg #[.int .i64 bu, .int .i64 ra, .int .i64 pe, .int .i64 le, .int .i64 pt, .int .u64 a], .agg #[.int .i64 bu2, .int .i64 ra2, .int .i64 pe2], .int .u64 t] w fun e w' =>
      e = .returned (.tuple #[.agg #[.int .i64 bu2, .int .i64 ra2, .int .i64 pe2, .int .i64 M, .int .i64 0, .int .u64 T], .int .i64 0]) ∧ Below w.heap.size w w' := by
  rw [← hm.out]
  exact change_ok hb ht e1 e2 e3 h2 w
theorem charge_is {b r p l q a c m : Int} (h : Hid (bucE b r p l q = 0)) (hc : 0 ≤ c) (hl : c ≤ l) (hm : l ≤ 1000000000) (e : Hid (l - c = m)) (w : World) :
    Calls Try.prog 16 #[.agg #[.int .i64 b, .int .i64 r, .int .i64 p, .int .i64 l, .int .i64 q, .int .u64 a], .int .i64 c] w fun e w' =>
      e = .returned (.tuple #[.agg #[.int .i64 b, .int .i64 r, .int .i64 p, .int .i64 m, .int .i64 q, .int .u64 a], .int .i64 0]) ∧ Below w.heap.size w w' := by
  rw [← e.out]
  exact charge_ok h hc hl hm w
def bEq (a b c d e f a2 b2 c2 d2 e2 f2 : Int) : Bool := a == a2 && b == b2 && c == c2 && d == d2 && e == e2 && f == f2
def moreB (l p l2 p2 : Int) : Bool := decide (l > l2 ∨ (l = l2 ∧ p ≥ p2))

set_option maxRecDepth 100000 in
set_option maxHeartbeats 1600000 in
theorem more_any {bu ra pe le pt a bu2 ra2 pe2 le2 pt2 a2 : Int} (w : World) :
    Calls Try.prog 13 #[.agg #[.int .i64 bu, .int .i64 ra, .int .i64 pe, .int .i64 le, .int .i64 pt, .int .u64 a], .agg #[.int .i64 bu2, .int .i64 ra2, .int .i64 pe2, .int .i64 le2, .int .i64 pt2, .int .u64 a2]] w fun e w' => e = .returned (.bool (moreB le pt le2 pt2)) ∧ Below w.heap.size w w' := by
  go_enter Try.func13, Try.ntmps13
  go_wp2_with fail
  all_goals go_returns
  all_goals refine ⟨?_, by go_grown⟩
  all_goals refine ret_b ?_
  all_goals (unfold moreB; rw [Bool.eq_iff_iff]; simp; try omega)

set_option maxRecDepth 100000 in
set_option maxHeartbeats 1600000 in
theorem holds_yes {bu ra pe le pt a t L Q : Int} (hb : Buc bu ra pe le pt a) (ht : isU t) (hat : a ≤ t) (e1 : Hid (filL bu ra pe le pt a t = L)) (e2 : Hid (filP bu ra pe le pt a t = Q)) (w : World) :
    Calls Try.prog 47 #[.agg #[.int .i64 bu, .int .i64 ra, .int .i64 pe, .int .i64 le, .int .i64 pt, .int .u64 a], .int .u64 t, .int .i64 L, .int .i64 Q] w fun e w' => e = .returned (.bool true) ∧ Below w.heap.size w w' := by
  have e3 := Lib.hid (show filA a t = t from if_neg (by omega))
  go_enter Try.func47, Try.ntmps47
  go_wp2_with fail
  refine (refill_ok hb ht e1 e2 e3 _).mono ?_
  rintro e w1 ⟨rfl, hb⟩
  have hB1 : Below w.heap.size w w1 := below_thru (by go_grown) hb
  have hs1 : w.heap.size ≤ w1.heap.size := hB1.size
  have x_x1 : Box w1 (w.heap.size) [.int .i64 bu, .int .i64 ra, .int .i64 pe, .int .i64 le, .int .i64 pt, .int .u64 a] := (by refine Box.below ?_ hb; repeat (first | (with_reducible assumption) | (with_reducible refine Box.drew ?_) | (with_reducible refine Box.drewN ?_ _) | ((with_reducible refine Box.new ?_); simp; done) | (with_reducible apply Box.set2) | (with_reducible refine Box.alloc ?_ _) | (with_reducible refine Box.other ?_ (by first | (dsimp only; omega) | omega) _)))
  have z_x1 := x_x1.lt
  have c_x1_0 := x_x1.c 0 _ rfl
  have f_x1_0 := x_x1.f 0 _ rfl
  have c_x1_1 := x_x1.c 1 _ rfl
  have f_x1_1 := x_x1.f 1 _ rfl
  have c_x1_2 := x_x1.c 2 _ rfl
  have f_x1_2 := x_x1.f 2 _ rfl
  have c_x1_3 := x_x1.c 3 _ rfl
  have f_x1_3 := x_x1.f 3 _ rfl
  have c_x1_4 := x_x1.c 4 _ rfl
  have f_x1_4 := x_x1.f 4 _ rfl
  have c_x1_5 := x_x1.c 5 _ rfl
  have f_x1_5 := x_x1.f 5 _ rfl
  clear hb
  go_wp2_with fail
  go_returns
  exact ⟨rfl, by go_grown⟩

set_option maxRecDepth 100000 in
set_option maxHeartbeats 1600000 in
theorem waits_yes {bu ra pe le pt a c n : Int} (hb : Buc bu ra pe le pt a) (hc : 0 ≤ c) (hn : Hid (IsWait bu ra pe le pt a c n)) (w : World) :
    Calls Try.prog 48 #[.agg #[.int .i64 bu, .int .i64 ra, .int .i64 pe, .int .i64 le, .int .i64 pt, .int .u64 a], .int .i64 c, .int .u64 n] w fun e w' => e = .returned (.bool true) ∧ Below w.heap.size w w' := by
  go_enter Try.func48, Try.ntmps48
  go_wp2_with fail
  refine (wait_ok hb hc hn _).mono ?_
  rintro e w1 ⟨rfl, hb⟩
  have hB1 : Below w.heap.size w w1 := below_thru (by go_grown) hb
  have hs1 : w.heap.size ≤ w1.heap.size := hB1.size
  have x_x1 : Box w1 (w.heap.size) [.int .i64 bu, .int .i64 ra, .int .i64 pe, .int .i64 le, .int .i64 pt, .int .u64 a] := (by refine Box.below ?_ hb; repeat (first | (with_reducible assumption) | (with_reducible refine Box.drew ?_) | (with_reducible refine Box.drewN ?_ _) | ((with_reducible refine Box.new ?_); simp; done) | (with_reducible apply Box.set2) | (with_reducible refine Box.alloc ?_ _) | (with_reducible refine Box.other ?_ (by first | (dsimp only; omega) | omega) _)))
  have z_x1 := x_x1.lt
  have c_x1_0 := x_x1.c 0 _ rfl
  have f_x1_0 := x_x1.f 0 _ rfl
  have c_x1_1 := x_x1.c 1 _ rfl
  have f_x1_1 := x_x1.f 1 _ rfl
  have c_x1_2 := x_x1.c 2 _ rfl
  have f_x1_2 := x_x1.f 2 _ rfl
  have c_x1_3 := x_x1.c 3 _ rfl
  have f_x1_3 := x_x1.f 3 _ rfl
  have c_x1_4 := x_x1.c 4 _ rfl
  have f_x1_4 := x_x1.f 4 _ rfl
  have c_x1_5 := x_x1.c 5 _ rfl
  have f_x1_5 := x_x1.f 5 _ rfl
  clear hb
  go_wp2_with fail
  go_returns
  exact ⟨rfl, by go_grown⟩

set_option maxRecDepth 100000 in
set_option maxHeartbeats 1600000 in
theorem given_any  (w : World) :
    Calls Try.prog 45 #[] w fun e w' => e = .returned (.agg #[.int .i64 10, .int .i64 3, .int .i64 2, .int .i64 1, .int .i64 0, .int .u64 0]) ∧ Below w.heap.size w w' := by
  have h1 := Lib.hid (show limE 10 3 2 = 0 by decide)
  have h2 := Lib.hid (show bucE 10 3 2 10 0 = 0 by decide)
  go_enter Try.func45, Try.ntmps45
  go_wp2_with fail
  refine (full_ok h1 _).mono ?_
  rintro e w1 ⟨rfl, hb⟩
  have hB1 : Below w.heap.size w w1 := below_thru (by go_grown) hb
  have hs1 : w.heap.size ≤ w1.heap.size := hB1.size
  have x_z1 : Box w1 (w.heap.size) [.int .i64 0, .int .i64 0, .int .i64 0, .int .i64 0, .int .i64 0, .int .u64 0] := (by refine Box.below ?_ hb; repeat (first | (with_reducible assumption) | (with_reducible refine Box.drew ?_) | (with_reducible refine Box.drewN ?_ _) | ((with_reducible refine Box.new ?_); simp; done) | (with_reducible apply Box.set2) | ((with_reducible apply Box.put); (with_reducible assumption); rfl) | (with_reducible refine Box.alloc ?_ _) | (with_reducible refine Box.other ?_ (by first | (dsimp only; omega) | omega) _)))
  have z_z1 := x_z1.lt
  have c_z1_0 := x_z1.c 0 _ rfl
  have f_z1_0 := x_z1.f 0 _ rfl
  have c_z1_1 := x_z1.c 1 _ rfl
  have f_z1_1 := x_z1.f 1 _ rfl
  have c_z1_2 := x_z1.c 2 _ rfl
  have f_z1_2 := x_z1.f 2 _ rfl
  have c_z1_3 := x_z1.c 3 _ rfl
  have f_z1_3 := x_z1.f 3 _ rfl
  have c_z1_4 := x_z1.c 4 _ rfl
  have f_z1_4 := x_z1.f 4 _ rfl
  have c_z1_5 := x_z1.c 5 _ rfl
  have f_z1_5 := x_z1.f 5 _ rfl
  have t1 := hb.size
  try simp at t1
  clear hb
  go_wp2_with fail
  refine (charge_is (c := 9) h2 (by omega) (by omega) (by omega) (Lib.hid (show 10 - 9 = (1 : Int) by decide)) _).mono ?_
  rintro e w2 ⟨rfl, hb⟩
  have hB2 : Below w.heap.size w w2 := below_thru (by go_grown) hb
  have hs2 : w.heap.size ≤ w2.heap.size := hB2.size
  have x_z2 : Box w2 (w.heap.size) [.int .i64 0, .int .i64 0, .int .i64 0, .int .i64 0, .int .i64 0, .int .u64 0] := (by refine Box.below ?_ hb; repeat (first | (with_reducible assumption) | (with_reducible refine Box.drew ?_) | (with_reducible refine Box.drewN ?_ _) | ((with_reducible refine Box.new ?_); simp; done) | (with_reducible apply Box.set2) | ((with_reducible apply Box.put); (with_reducible assumption); rfl) | (with_reducible refine Box.alloc ?_ _) | (with_reducible refine Box.other ?_ (by first | (dsimp only; omega) | omega) _)))
  have z_z2 := x_z2.lt
  have c_z2_0 := x_z2.c 0 _ rfl
  have f_z2_0 := x_z2.f 0 _ rfl
  have c_z2_1 := x_z2.c 1 _ rfl
  have f_z2_1 := x_z2.f 1 _ rfl
  have c_z2_2 := x_z2.c 2 _ rfl
  have f_z2_2 := x_z2.f 2 _ rfl
  have c_z2_3 := x_z2.c 3 _ rfl
  have f_z2_3 := x_z2.f 3 _ rfl
  have c_z2_4 := x_z2.c 4 _ rfl
  have f_z2_4 := x_z2.f 4 _ rfl
  have c_z2_5 := x_z2.c 5 _ rfl
  have f_z2_5 := x_z2.f 5 _ rfl
  have x_b2 : Box w2 (w1.heap.size) [.int .i64 10, .int .i64 3, .int .i64 2, .int .i64 10, .int .i64 0, .int .u64 0] := (by refine Box.below ?_ hb; repeat (first | (with_reducible assumption) | (with_reducible refine Box.drew ?_) | (with_reducible refine Box.drewN ?_ _) | ((with_reducible refine Box.new ?_); simp; done) | (with_reducible apply Box.set2) | ((with_reducible apply Box.put); (with_reducible assumption); rfl) | (with_reducible refine Box.alloc ?_ _) | (with_reducible refine Box.other ?_ (by first | (dsimp only; omega) | omega) _)))
  have z_b2 := x_b2.lt
  have c_b2_0 := x_b2.c 0 _ rfl
  have f_b2_0 := x_b2.f 0 _ rfl
  have c_b2_1 := x_b2.c 1 _ rfl
  have f_b2_1 := x_b2.f 1 _ rfl
  have c_b2_2 := x_b2.c 2 _ rfl
  have f_b2_2 := x_b2.f 2 _ rfl
  have c_b2_3 := x_b2.c 3 _ rfl
  have f_b2_3 := x_b2.f 3 _ rfl
  have c_b2_4 := x_b2.c 4 _ rfl
  have f_b2_4 := x_b2.f 4 _ rfl
  have c_b2_5 := x_b2.c 5 _ rfl
  have f_b2_5 := x_b2.f 5 _ rfl
  have t2 := hb.size
  try simp at t2
  clear hb hB1 hs1 x_z1 z_z1 c_z1_0 c_z1_1 c_z1_2 c_z1_3 c_z1_4 c_z1_5 f_z1_0 f_z1_1 f_z1_2 f_z1_3 f_z1_4 f_z1_5
  go_upto_region 3 with fail
  have x_b90 := put6 x_b2 (.int .i64 10) (.int .i64 3) (.int .i64 2) (.int .i64 1) (.int .i64 0) (.int .u64 0)
  have x_z90 := other6 x_z2 (show w1.heap.size ≠ w.heap.size by omega) (.int .i64 10) (.int .i64 3) (.int .i64 2) (.int .i64 1) (.int .i64 0) (.int .u64 0)
  have hB90 := below6b (show w.heap.size ≤ w1.heap.size by omega) hB2 (.int .i64 10) (.int .i64 3) (.int .i64 2) (.int .i64 1) (.int .i64 0) (.int .u64 0)
  obtain ⟨w90, h9⟩ : ∃ W, ((((((w2.setCell ⟨w1.heap.size, 0, none⟩ (.int .i64 10)).setCell ⟨w1.heap.size, 1, none⟩ (.int .i64 3)).setCell ⟨w1.heap.size, 2, none⟩ (.int .i64 2)).setCell ⟨w1.heap.size, 3, none⟩ (.int .i64 1)).setCell ⟨w1.heap.size, 4, none⟩ (.int .i64 0)).setCell ⟨w1.heap.size, 5, none⟩ (.int .u64 0)) = W := ⟨_, rfl⟩
  rw [h9] at x_b90 x_z90 hB90 ⊢
  have hs90 := hB90.size
  clear hB2 hs2 h9 x_z2 z_z2 c_z2_0 c_z2_1 c_z2_2 c_z2_3 c_z2_4 c_z2_5 f_z2_0 f_z2_1 f_z2_2 f_z2_3 f_z2_4 f_z2_5 x_b2 z_b2 c_b2_0 c_b2_1 c_b2_2 c_b2_3 c_b2_4 c_b2_5 f_b2_0 f_b2_1 f_b2_2 f_b2_3 f_b2_4 f_b2_5
  have z_z90 := x_z90.lt
  have c_z90_0 := x_z90.c 0 _ rfl; have f_z90_0 := x_z90.f 0 _ rfl
  have c_z90_1 := x_z90.c 1 _ rfl; have f_z90_1 := x_z90.f 1 _ rfl
  have c_z90_2 := x_z90.c 2 _ rfl; have f_z90_2 := x_z90.f 2 _ rfl
  have c_z90_3 := x_z90.c 3 _ rfl; have f_z90_3 := x_z90.f 3 _ rfl
  have c_z90_4 := x_z90.c 4 _ rfl; have f_z90_4 := x_z90.f 4 _ rfl
  have c_z90_5 := x_z90.c 5 _ rfl; have f_z90_5 := x_z90.f 5 _ rfl
  have z_b90 := x_b90.lt
  have c_b90_0 := x_b90.c 0 _ rfl; have f_b90_0 := x_b90.f 0 _ rfl
  have c_b90_1 := x_b90.c 1 _ rfl; have f_b90_1 := x_b90.f 1 _ rfl
  have c_b90_2 := x_b90.c 2 _ rfl; have f_b90_2 := x_b90.f 2 _ rfl
  have c_b90_3 := x_b90.c 3 _ rfl; have f_b90_3 := x_b90.f 3 _ rfl
  have c_b90_4 := x_b90.c 4 _ rfl; have f_b90_4 := x_b90.f 4 _ rfl
  have c_b90_5 := x_b90.c 5 _ rfl; have f_b90_5 := x_b90.f 5 _ rfl
  go_wp2_with fail
  refine bodyPost_ret (v := .agg #[.int .i64 10, .int .i64 3, .int .i64 2, .int .i64 1, .int .i64 0, .int .u64 0]) (by simp [results, Try.results45, go_sem, c_z90_0, c_z90_1, c_z90_2, c_z90_3, c_z90_4, c_z90_5]) rfl ⟨rfl, ?_⟩
  go_grown

set_option maxRecDepth 100000 in
set_option maxHeartbeats 3200000 in
theorem alive03_any  (w : World) :
    Calls Try.prog 14 #[] w fun e w' => e = .returned (.bool true) ∧ Below w.heap.size w w' := by
  have hb : Buc 10 3 2 1 0 0 := Buc.of (by decide) u0
  have e1 := Lib.hid (show filL 10 3 2 1 0 0 3 = 5 by decide)
  have e2 := Lib.hid (show filP 10 3 2 1 0 0 3 = 1 by decide)
  have e3 := Lib.hid (show filL 10 3 2 1 0 0 4 = 7 by decide)
  have e4 := Lib.hid (show filP 10 3 2 1 0 0 4 = 0 by decide)
  have e5 := Lib.hid (show filL 10 3 2 1 0 0 6 = 10 by decide)
  have e6 := Lib.hid (show filP 10 3 2 1 0 0 6 = 0 by decide)
  have e7 := Lib.hid (show filA 0 3 = 3 by decide)
  have e8 := Lib.hid (show limE 4 1 1 = 0 by decide)
  have n1 := Lib.hid (show IsWait 10 3 2 1 0 0 5 3 from isWait_some hb (by omega) (by omega) (by omega) (by decide) (fun _ => by decide))
  have n2 := Lib.hid (show IsWait 10 3 2 1 0 0 11 18446744073709551615 from isWait_never hb (.inl (by omega)))
  have t3 : isU 3 := by unfold isU; omega
  have t4 : isU 4 := by unfold isU; omega
  have t6 : isU 6 := by unfold isU; omega
  have HB := Lib.hid hb
  clear hb
  go_enter Try.func14, Try.ntmps14
  go_wp2_with fail
  refine (given_any _).mono ?_
  rintro e w1 ⟨rfl, hb⟩
  have hB1 : Below w.heap.size w w1 := below_thru (by go_grown) hb
  have hs1 : w.heap.size ≤ w1.heap.size := hB1.size
  have t1 := hb.size
  try simp at t1
  clear hb
  go_wp2_with fail
  refine (change_is HB.out t3 e8 e1 e2 e7 (Lib.hid (show min 5 4 = (4 : Int) by decide)) _).mono ?_
  rintro e w2 ⟨rfl, hb⟩
  have hB2 : Below w.heap.size w w2 := below_thru (by go_grown) hb
  have hs2 : w.heap.size ≤ w2.heap.size := hB2.size
  have x_b2 : Box w2 (w1.heap.size) [.int .i64 10, .int .i64 3, .int .i64 2, .int .i64 1, .int .i64 0, .int .u64 0] := (by refine Box.below ?_ hb; repeat (first | (with_reducible assumption) | (with_reducible refine Box.drew ?_) | (with_reducible refine Box.drewN ?_ _) | ((with_reducible refine Box.new ?_); simp; done) | (with_reducible apply Box.set2) | ((with_reducible apply Box.put); (with_reducible assumption); rfl) | (with_reducible refine Box.alloc ?_ _) | (with_reducible refine Box.other ?_ (by first | (dsimp only; omega) | omega) _)))
  have z_b2 := x_b2.lt
  have c_b2_0 := x_b2.c 0 _ rfl
  have f_b2_0 := x_b2.f 0 _ rfl
  have c_b2_1 := x_b2.c 1 _ rfl
  have f_b2_1 := x_b2.f 1 _ rfl
  have c_b2_2 := x_b2.c 2 _ rfl
  have f_b2_2 := x_b2.f 2 _ rfl
  have c_b2_3 := x_b2.c 3 _ rfl
  have f_b2_3 := x_b2.f 3 _ rfl
  have c_b2_4 := x_b2.c 4 _ rfl
  have f_b2_4 := x_b2.f 4 _ rfl
  have c_b2_5 := x_b2.c 5 _ rfl
  have f_b2_5 := x_b2.f 5 _ rfl
  have t2 := hb.size
  try simp at t2
  clear hb hB1 hs1
  go_wp2_with fail
  refine (holds_yes HB.out t3 (by omega) e1 e2 _).mono ?_
  rintro e w3 ⟨rfl, hb⟩
  have hB3 : Below w.heap.size w w3 := below_thru (by go_grown) hb
  have hs3 : w.heap.size ≤ w3.heap.size := hB3.size
  have x_b3 : Box w3 (w1.heap.size) [.int .i64 10, .int .i64 3, .int .i64 2, .int .i64 1, .int .i64 0, .int .u64 0] := (by refine Box.below ?_ hb; repeat (first | (with_reducible assumption) | (with_reducible refine Box.drew ?_) | (with_reducible refine Box.drewN ?_ _) | ((with_reducible refine Box.new ?_); simp; done) | (with_reducible apply Box.set2) | ((with_reducible apply Box.put); (with_reducible assumption); rfl) | (with_reducible refine Box.alloc ?_ _) | (with_reducible refine Box.other ?_ (by first | (dsimp only; omega) | omega) _)))
  have z_b3 := x_b3.lt
  have c_b3_0 := x_b3.c 0 _ rfl
  have f_b3_0 := x_b3.f 0 _ rfl
  have c_b3_1 := x_b3.c 1 _ rfl
  have f_b3_1 := x_b3.f 1 _ rfl
  have c_b3_2 := x_b3.c 2 _ rfl
  have f_b3_2 := x_b3.f 2 _ rfl
  have c_b3_3 := x_b3.c 3 _ rfl
  have f_b3_3 := x_b3.f 3 _ rfl
  have c_b3_4 := x_b3.c 4 _ rfl
  have f_b3_4 := x_b3.f 4 _ rfl
  have c_b3_5 := x_b3.c 5 _ rfl
  have f_b3_5 := x_b3.f 5 _ rfl
  have x_c3 : Box w3 (w2.heap.size) [.int .i64 4, .int .i64 1, .int .i64 1, .int .i64 4, .int .i64 0, .int .u64 3] := (by refine Box.below ?_ hb; repeat (first | (with_reducible assumption) | (with_reducible refine Box.drew ?_) | (with_reducible refine Box.drewN ?_ _) | ((with_reducible refine Box.new ?_); simp; done) | (with_reducible apply Box.set2) | ((with_reducible apply Box.put); (with_reducible assumption); rfl) | (with_reducible refine Box.alloc ?_ _) | (with_reducible refine Box.other ?_ (by first | (dsimp only; omega) | omega) _)))
  have z_c3 := x_c3.lt
  have c_c3_0 := x_c3.c 0 _ rfl
  have f_c3_0 := x_c3.f 0 _ rfl
  have c_c3_1 := x_c3.c 1 _ rfl
  have f_c3_1 := x_c3.f 1 _ rfl
  have c_c3_2 := x_c3.c 2 _ rfl
  have f_c3_2 := x_c3.f 2 _ rfl
  have c_c3_3 := x_c3.c 3 _ rfl
  have f_c3_3 := x_c3.f 3 _ rfl
  have c_c3_4 := x_c3.c 4 _ rfl
  have f_c3_4 := x_c3.f 4 _ rfl
  have c_c3_5 := x_c3.c 5 _ rfl
  have f_c3_5 := x_c3.f 5 _ rfl
  have t3 := hb.size
  try simp at t3
  clear hb hB2 hs2 x_b2 z_b2 c_b2_0 c_b2_1 c_b2_2 c_b2_3 c_b2_4 c_b2_5 f_b2_0 f_b2_1 f_b2_2 f_b2_3 f_b2_4 f_b2_5
  go_wp2_with fail
  refine (holds_yes HB.out t4 (by omega) e3 e4 _).mono ?_
  rintro e w4 ⟨rfl, hb⟩
  have hB4 : Below w.heap.size w w4 := below_thru (by go_grown) hb
  have hs4 : w.heap.size ≤ w4.heap.size := hB4.size
  have x_b4 : Box w4 (w1.heap.size) [.int .i64 10, .int .i64 3, .int .i64 2, .int .i64 1, .int .i64 0, .int .u64 0] := (by refine Box.below ?_ hb; repeat (first | (with_reducible assumption) | (with_reducible refine Box.drew ?_) | (with_reducible refine Box.drewN ?_ _) | ((with_reducible refine Box.new ?_); simp; done) | (with_reducible apply Box.set2) | ((with_reducible apply Box.put); (with_reducible assumption); rfl) | (with_reducible refine Box.alloc ?_ _) | (with_reducible refine Box.other ?_ (by first | (dsimp only; omega) | omega) _)))
  have z_b4 := x_b4.lt
  have c_b4_0 := x_b4.c 0 _ rfl
  have f_b4_0 := x_b4.f 0 _ rfl
  have c_b4_1 := x_b4.c 1 _ rfl
  have f_b4_1 := x_b4.f 1 _ rfl
  have c_b4_2 := x_b4.c 2 _ rfl
  have f_b4_2 := x_b4.f 2 _ rfl
  have c_b4_3 := x_b4.c 3 _ rfl
  have f_b4_3 := x_b4.f 3 _ rfl
  have c_b4_4 := x_b4.c 4 _ rfl
  have f_b4_4 := x_b4.f 4 _ rfl
  have c_b4_5 := x_b4.c 5 _ rfl
  have f_b4_5 := x_b4.f 5 _ rfl
  have x_c4 : Box w4 (w2.heap.size) [.int .i64 4, .int .i64 1, .int .i64 1, .int .i64 4, .int .i64 0, .int .u64 3] := (by refine Box.below ?_ hb; repeat (first | (with_reducible assumption) | (with_reducible refine Box.drew ?_) | (with_reducible refine Box.drewN ?_ _) | ((with_reducible refine Box.new ?_); simp; done) | (with_reducible apply Box.set2) | ((with_reducible apply Box.put); (with_reducible assumption); rfl) | (with_reducible refine Box.alloc ?_ _) | (with_reducible refine Box.other ?_ (by first | (dsimp only; omega) | omega) _)))
  have z_c4 := x_c4.lt
  have c_c4_0 := x_c4.c 0 _ rfl
  have f_c4_0 := x_c4.f 0 _ rfl
  have c_c4_1 := x_c4.c 1 _ rfl
  have f_c4_1 := x_c4.f 1 _ rfl
  have c_c4_2 := x_c4.c 2 _ rfl
  have f_c4_2 := x_c4.f 2 _ rfl
  have c_c4_3 := x_c4.c 3 _ rfl
  have f_c4_3 := x_c4.f 3 _ rfl
  have c_c4_4 := x_c4.c 4 _ rfl
  have f_c4_4 := x_c4.f 4 _ rfl
  have c_c4_5 := x_c4.c 5 _ rfl
  have f_c4_5 := x_c4.f 5 _ rfl
  have t4 := hb.size
  try simp at t4
  clear hb hB3 hs3 x_b3 z_b3 c_b3_0 c_b3_1 c_b3_2 c_b3_3 c_b3_4 c_b3_5 f_b3_0 f_b3_1 f_b3_2 f_b3_3 f_b3_4 f_b3_5 x_c3 z_c3 c_c3_0 c_c3_1 c_c3_2 c_c3_3 c_c3_4 c_c3_5 f_c3_0 f_c3_1 f_c3_2 f_c3_3 f_c3_4 f_c3_5
  go_wp2_with fail
  refine (holds_yes HB.out t6 (by omega) e5 e6 _).mono ?_
  rintro e w5 ⟨rfl, hb⟩
  have hB5 : Below w.heap.size w w5 := below_thru (by go_grown) hb
  have hs5 : w.heap.size ≤ w5.heap.size := hB5.size
  have x_b5 : Box w5 (w1.heap.size) [.int .i64 10, .int .i64 3, .int .i64 2, .int .i64 1, .int .i64 0, .int .u64 0] := (by refine Box.below ?_ hb; repeat (first | (with_reducible assumption) | (with_reducible refine Box.drew ?_) | (with_reducible refine Box.drewN ?_ _) | ((with_reducible refine Box.new ?_); simp; done) | (with_reducible apply Box.set2) | ((with_reducible apply Box.put); (with_reducible assumption); rfl) | (with_reducible refine Box.alloc ?_ _) | (with_reducible refine Box.other ?_ (by first | (dsimp only; omega) | omega) _)))
  have z_b5 := x_b5.lt
  have c_b5_0 := x_b5.c 0 _ rfl
  have f_b5_0 := x_b5.f 0 _ rfl
  have c_b5_1 := x_b5.c 1 _ rfl
  have f_b5_1 := x_b5.f 1 _ rfl
  have c_b5_2 := x_b5.c 2 _ rfl
  have f_b5_2 := x_b5.f 2 _ rfl
  have c_b5_3 := x_b5.c 3 _ rfl
  have f_b5_3 := x_b5.f 3 _ rfl
  have c_b5_4 := x_b5.c 4 _ rfl
  have f_b5_4 := x_b5.f 4 _ rfl
  have c_b5_5 := x_b5.c 5 _ rfl
  have f_b5_5 := x_b5.f 5 _ rfl
  have x_c5 : Box w5 (w2.heap.size) [.int .i64 4, .int .i64 1, .int .i64 1, .int .i64 4, .int .i64 0, .int .u64 3] := (by refine Box.below ?_ hb; repeat (first | (with_reducible assumption) | (with_reducible refine Box.drew ?_) | (with_reducible refine Box.drewN ?_ _) | ((with_reducible refine Box.new ?_); simp; done) | (with_reducible apply Box.set2) | ((with_reducible apply Box.put); (with_reducible assumption); rfl) | (with_reducible refine Box.alloc ?_ _) | (with_reducible refine Box.other ?_ (by first | (dsimp only; omega) | omega) _)))
  have z_c5 := x_c5.lt
  have c_c5_0 := x_c5.c 0 _ rfl
  have f_c5_0 := x_c5.f 0 _ rfl
  have c_c5_1 := x_c5.c 1 _ rfl
  have f_c5_1 := x_c5.f 1 _ rfl
  have c_c5_2 := x_c5.c 2 _ rfl
  have f_c5_2 := x_c5.f 2 _ rfl
  have c_c5_3 := x_c5.c 3 _ rfl
  have f_c5_3 := x_c5.f 3 _ rfl
  have c_c5_4 := x_c5.c 4 _ rfl
  have f_c5_4 := x_c5.f 4 _ rfl
  have c_c5_5 := x_c5.c 5 _ rfl
  have f_c5_5 := x_c5.f 5 _ rfl
  have t5 := hb.size
  try simp at t5
  clear hb hB4 hs4 x_b4 z_b4 c_b4_0 c_b4_1 c_b4_2 c_b4_3 c_b4_4 c_b4_5 f_b4_0 f_b4_1 f_b4_2 f_b4_3 f_b4_4 f_b4_5 x_c4 z_c4 c_c4_0 c_c4_1 c_c4_2 c_c4_3 c_c4_4 c_c4_5 f_c4_0 f_c4_1 f_c4_2 f_c4_3 f_c4_4 f_c4_5
  go_wp2_with fail
  refine (waits_yes HB.out (by omega) n1 _).mono ?_
  rintro e w6 ⟨rfl, hb⟩
  have hB6 : Below w.heap.size w w6 := below_thru (by go_grown) hb
  have hs6 : w.heap.size ≤ w6.heap.size := hB6.size
  have x_b6 : Box w6 (w1.heap.size) [.int .i64 10, .int .i64 3, .int .i64 2, .int .i64 1, .int .i64 0, .int .u64 0] := (by refine Box.below ?_ hb; repeat (first | (with_reducible assumption) | (with_reducible refine Box.drew ?_) | (with_reducible refine Box.drewN ?_ _) | ((with_reducible refine Box.new ?_); simp; done) | (with_reducible apply Box.set2) | ((with_reducible apply Box.put); (with_reducible assumption); rfl) | (with_reducible refine Box.alloc ?_ _) | (with_reducible refine Box.other ?_ (by first | (dsimp only; omega) | omega) _)))
  have z_b6 := x_b6.lt
  have c_b6_0 := x_b6.c 0 _ rfl
  have f_b6_0 := x_b6.f 0 _ rfl
  have c_b6_1 := x_b6.c 1 _ rfl
  have f_b6_1 := x_b6.f 1 _ rfl
  have c_b6_2 := x_b6.c 2 _ rfl
  have f_b6_2 := x_b6.f 2 _ rfl
  have c_b6_3 := x_b6.c 3 _ rfl
  have f_b6_3 := x_b6.f 3 _ rfl
  have c_b6_4 := x_b6.c 4 _ rfl
  have f_b6_4 := x_b6.f 4 _ rfl
  have c_b6_5 := x_b6.c 5 _ rfl
  have f_b6_5 := x_b6.f 5 _ rfl
  have x_c6 : Box w6 (w2.heap.size) [.int .i64 4, .int .i64 1, .int .i64 1, .int .i64 4, .int .i64 0, .int .u64 3] := (by refine Box.below ?_ hb; repeat (first | (with_reducible assumption) | (with_reducible refine Box.drew ?_) | (with_reducible refine Box.drewN ?_ _) | ((with_reducible refine Box.new ?_); simp; done) | (with_reducible apply Box.set2) | ((with_reducible apply Box.put); (with_reducible assumption); rfl) | (with_reducible refine Box.alloc ?_ _) | (with_reducible refine Box.other ?_ (by first | (dsimp only; omega) | omega) _)))
  have z_c6 := x_c6.lt
  have c_c6_0 := x_c6.c 0 _ rfl
  have f_c6_0 := x_c6.f 0 _ rfl
  have c_c6_1 := x_c6.c 1 _ rfl
  have f_c6_1 := x_c6.f 1 _ rfl
  have c_c6_2 := x_c6.c 2 _ rfl
  have f_c6_2 := x_c6.f 2 _ rfl
  have c_c6_3 := x_c6.c 3 _ rfl
  have f_c6_3 := x_c6.f 3 _ rfl
  have c_c6_4 := x_c6.c 4 _ rfl
  have f_c6_4 := x_c6.f 4 _ rfl
  have c_c6_5 := x_c6.c 5 _ rfl
  have f_c6_5 := x_c6.f 5 _ rfl
  have t6 := hb.size
  try simp at t6
  clear hb hB5 hs5 x_b5 z_b5 c_b5_0 c_b5_1 c_b5_2 c_b5_3 c_b5_4 c_b5_5 f_b5_0 f_b5_1 f_b5_2 f_b5_3 f_b5_4 f_b5_5 x_c5 z_c5 c_c5_0 c_c5_1 c_c5_2 c_c5_3 c_c5_4 c_c5_5 f_c5_0 f_c5_1 f_c5_2 f_c5_3 f_c5_4 f_c5_5
  go_wp2_with fail
  refine (waits_yes HB.out (by omega) n2 _).mono ?_
  rintro e w7 ⟨rfl, hb⟩
  have hB7 : Below w.heap.size w w7 := below_thru (by go_grown) hb
  have hs7 : w.heap.size ≤ w7.heap.size := hB7.size
  have x_b7 : Box w7 (w1.heap.size) [.int .i64 10, .int .i64 3, .int .i64 2, .int .i64 1, .int .i64 0, .int .u64 0] := (by refine Box.below ?_ hb; repeat (first | (with_reducible assumption) | (with_reducible refine Box.drew ?_) | (with_reducible refine Box.drewN ?_ _) | ((with_reducible refine Box.new ?_); simp; done) | (with_reducible apply Box.set2) | ((with_reducible apply Box.put); (with_reducible assumption); rfl) | (with_reducible refine Box.alloc ?_ _) | (with_reducible refine Box.other ?_ (by first | (dsimp only; omega) | omega) _)))
  have z_b7 := x_b7.lt
  have c_b7_0 := x_b7.c 0 _ rfl
  have f_b7_0 := x_b7.f 0 _ rfl
  have c_b7_1 := x_b7.c 1 _ rfl
  have f_b7_1 := x_b7.f 1 _ rfl
  have c_b7_2 := x_b7.c 2 _ rfl
  have f_b7_2 := x_b7.f 2 _ rfl
  have c_b7_3 := x_b7.c 3 _ rfl
  have f_b7_3 := x_b7.f 3 _ rfl
  have c_b7_4 := x_b7.c 4 _ rfl
  have f_b7_4 := x_b7.f 4 _ rfl
  have c_b7_5 := x_b7.c 5 _ rfl
  have f_b7_5 := x_b7.f 5 _ rfl
  have x_c7 : Box w7 (w2.heap.size) [.int .i64 4, .int .i64 1, .int .i64 1, .int .i64 4, .int .i64 0, .int .u64 3] := (by refine Box.below ?_ hb; repeat (first | (with_reducible assumption) | (with_reducible refine Box.drew ?_) | (with_reducible refine Box.drewN ?_ _) | ((with_reducible refine Box.new ?_); simp; done) | (with_reducible apply Box.set2) | ((with_reducible apply Box.put); (with_reducible assumption); rfl) | (with_reducible refine Box.alloc ?_ _) | (with_reducible refine Box.other ?_ (by first | (dsimp only; omega) | omega) _)))
  have z_c7 := x_c7.lt
  have c_c7_0 := x_c7.c 0 _ rfl
  have f_c7_0 := x_c7.f 0 _ rfl
  have c_c7_1 := x_c7.c 1 _ rfl
  have f_c7_1 := x_c7.f 1 _ rfl
  have c_c7_2 := x_c7.c 2 _ rfl
  have f_c7_2 := x_c7.f 2 _ rfl
  have c_c7_3 := x_c7.c 3 _ rfl
  have f_c7_3 := x_c7.f 3 _ rfl
  have c_c7_4 := x_c7.c 4 _ rfl
  have f_c7_4 := x_c7.f 4 _ rfl
  have c_c7_5 := x_c7.c 5 _ rfl
  have f_c7_5 := x_c7.f 5 _ rfl
  have t7 := hb.size
  try simp at t7
  clear hb hB6 hs6 x_b6 z_b6 c_b6_0 c_b6_1 c_b6_2 c_b6_3 c_b6_4 c_b6_5 f_b6_0 f_b6_1 f_b6_2 f_b6_3 f_b6_4 f_b6_5 x_c6 z_c6 c_c6_0 c_c6_1 c_c6_2 c_c6_3 c_c6_4 c_c6_5 f_c6_0 f_c6_1 f_c6_2 f_c6_3 f_c6_4 f_c6_5
  go_wp2_with fail
  go_returns
  exact ⟨rfl, hB7⟩

end Go.Proofs.Ytmpcpflpcfanjaa
