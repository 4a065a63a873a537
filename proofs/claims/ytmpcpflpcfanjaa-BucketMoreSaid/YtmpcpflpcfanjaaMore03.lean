/-
  BucketMore, walked over the contracts of package bucket: it returns true.
-/
import Derived.Test.YtmpcpflpcfanjaaLaw03
import Derived.Test.YtmpcpflpcfanjaaSlices
import Derived.Deep.QuietTactic
import Derived.BigQuiet
import Derived.StillTailTactics
import Derived.Test.YtmpcpflpcfanjaaStep03
namespace Go.Proofs.Ytmpcpflpcfanjaa
open Go.RowKit

theorem below_drew1 {B : Nat} {a w : World} (h : Below B a w) : Below B a w.drew := ⟨h.os, h.tape, h.output, h.size, h.block⟩
theorem more_is {bu ra pe le pt a bu2 ra2 pe2 le2 pt2 a2 : Int} {v : Bool} (h : Hid (moreB le pt le2 pt2 = v)) (w : World) :
    Calls Try.prog 13 #[.agg #[.int .i64 bu, .int .i64 ra, .int .i64 pe, .int .i64 le, .int .i64 pt, .int .u64 a], .agg #[.int .i64 bu2, .int .i64 ra2, .int .i64 pe2, .int .i64 le2, .int .i64 pt2, .int .u64 a2]] w fun e w' =>
      e = .returned (.bool v) ∧ Below w.heap.size w w' := by
  rw [← h.out]
  exact more_any w
theorem moreB_yes {pe l p l' p' : Int} (h0 : 0 ≤ p) (h1 : p < pe) (h0' : 0 ≤ p') (h1' : p' < pe) (h : vol pe l' p' ≤ vol pe l p) : moreB l p l' p' = true := decide_eq_true ((vol_more h0 h1 h0' h1').1 h)
theorem moreB_vol {pe l p l' p' : Int} (h0 : 0 ≤ p) (h1 : p < pe) (h0' : 0 ≤ p') (h1' : p' < pe) (h : moreB l p l' p' = true) : vol pe l' p' ≤ vol pe l p := (vol_more h0 h1 h0' h1').2 (of_decide_eq_true h)
/-- What charging gives. -/
theorem charge_gen {bu ra pe le pt a : Int} (hb : Buc bu ra pe le pt a) (c : Int) : ∃ v0 v1 v2 v3 v4 v5 n : Int, ((0 ≤ c ∧ c ≤ le) ∨ n ≠ 0) ∧ ∀ w : World,
    Calls Try.prog 16 #[.agg #[.int .i64 bu, .int .i64 ra, .int .i64 pe, .int .i64 le, .int .i64 pt, .int .u64 a], .int .i64 c] w fun e w' =>
      e = .returned (.tuple #[.agg #[.int .i64 v0, .int .i64 v1, .int .i64 v2, .int .i64 v3, .int .i64 v4, .int .u64 v5], .int .i64 n]) ∧ Below w.heap.size w w' := by
  have h := Lib.hid hb.ok
  have hle : le ≤ 1000000000 := by have := hb.l1; have := hb.nums; omega
  rcases Int.lt_or_le c 0 with q | q
  · exact ⟨_, _, _, _, _, _, 2, .inr (by omega), fun w => charge_arg h q w⟩
  · rcases Int.lt_or_le le c with z | z
    · exact ⟨_, _, _, _, _, _, 20, .inr (by omega), fun w => charge_low h q z w⟩
    · exact ⟨_, _, _, _, _, _, 0, .inl ⟨q, z⟩, fun w => charge_ok h q z hle w⟩
/-- The waits of two buckets, one of which holds no more. -/
theorem wait_gen {bu ra pe le pt le2 pt2 a : Int} (hb : Buc bu ra pe le pt a) (hc : Buc bu ra pe le2 pt2 a) (hv : vol pe le pt ≤ vol pe le2 pt2) (c : Int) : ∃ n m j : Int, m ≤ n ∧
    (∀ w : World, Calls Try.prog 17 #[.agg #[.int .i64 bu, .int .i64 ra, .int .i64 pe, .int .i64 le, .int .i64 pt, .int .u64 a], .int .i64 c] w fun e w' => e = .returned (.tuple #[.int .u64 n, .int .i64 j]) ∧ Below w.heap.size w w') ∧
    (∀ w : World, Calls Try.prog 17 #[.agg #[.int .i64 bu, .int .i64 ra, .int .i64 pe, .int .i64 le2, .int .i64 pt2, .int .u64 a], .int .i64 c] w fun e w' => e = .returned (.tuple #[.int .u64 m, .int .i64 j]) ∧ Below w.heap.size w w') := by
  rcases Int.lt_or_le c 0 with q | q
  · exact ⟨0, 0, 2, by omega, fun w => wait_arg (Lib.hid hb.ok) q w, fun w => wait_arg (Lib.hid hc.ok) q w⟩
  · obtain ⟨n, hn⟩ := wait_is hb c
    obtain ⟨m, hm⟩ := wait_is hc c
    exact ⟨n, m, 0, more_wait hc hb hv hm hn, fun w => wait_ok hb q (Lib.hid hn) w, fun w => wait_ok hc q (Lib.hid hm) w⟩

set_option maxRecDepth 100000 in
set_option maxHeartbeats 6400000 in
theorem more_b {bu ra pe le pt a bu2 ra2 pe2 le2 pt2 a2 : Int} {at0 at1 : Option Addr} {cap cap1 : Nat} {ts cs : List Int} (w : World) (hi : Ints w .u64 at0 cap ts) (hj : Ints w .i64 at1 cap1 cs) (h : Hid (bucE bu ra pe le pt = 8)) :
    Calls Try.prog 3 #[.agg #[.int .i64 bu, .int .i64 ra, .int .i64 pe, .int .i64 le, .int .i64 pt, .int .u64 a], .agg #[.int .i64 bu2, .int .i64 ra2, .int .i64 pe2, .int .i64 le2, .int .i64 pt2, .int .u64 a2], .slice at0 ts.length cap, .slice at1 cs.length cap1] w fun e w' => e = .returned (.bool true) ∧ Below w.heap.size w w' := by
  have i1 := hi.room
  have i2 := hi.most
  have i3 := hj.room
  have i4 := hj.most
  go_enter Try.func3, Try.ntmps3
  go_upto_region 1 with fail
  go_cut [] (fun  wx => Box wx (w.heap.size) [.int .i64 bu, .int .i64 ra, .int .i64 pe, .int .i64 le, .int .i64 pt, .int .u64 a] ∧ Box wx (w.heap.size + 1) [.int .i64 bu, .int .i64 ra, .int .i64 pe, .int .i64 le2, .int .i64 pt2, .int .u64 a] ∧ Below w.heap.size w wx)
  case first =>
    go_region_held3 (fun w' => w'.cell? ⟨w.heap.size, 0, none⟩ = some (.int .i64 bu) ∧ w'.cell? ⟨w.heap.size, 1, none⟩ = some (.int .i64 ra) ∧ w'.cell? ⟨w.heap.size, 2, none⟩ = some (.int .i64 pe) ∧ w'.cell? ⟨w.heap.size, 5, none⟩ = some (.int .u64 a)) (((repeat' apply And.intro) <;> (first | (go_keep; done) | go_cell)))
      (fail)
    all_goals
      go_wp2_with fail
      go_meet
      refine ⟨?_, ?_, ?_⟩
      all_goals first
        | ((repeat (first | (with_reducible apply put6) | (with_reducible refine other6 ?_ (by first | (dsimp only; omega) | omega) _ _ _ _ _ _) | (with_reducible assumption) | (with_reducible refine Box.drew ?_) | (with_reducible refine Box.drewN ?_ _) | ((with_reducible refine Box.new ?_); simp; done) | (with_reducible apply Box.set2) | (with_reducible refine Box.alloc ?_ _) | (with_reducible refine Box.other ?_ (by first | (dsimp only; omega) | omega) _))); done)
        | (go_grown; done)
  case rest =>
    obtain ⟨x_x1, x_z1, hB1⟩ := hcut
    obtain ⟨w1, rfl⟩ : ∃ u : World, u = wc := ⟨_, rfl⟩
    have hs1 : w.heap.size ≤ w1.heap.size := hB1.size
    have z_x1 := x_x1.lt
    have c_x1_0 := x_x1.c 0 _ rfl; have f_x1_0 := x_x1.f 0 _ rfl
    have c_x1_1 := x_x1.c 1 _ rfl; have f_x1_1 := x_x1.f 1 _ rfl
    have c_x1_2 := x_x1.c 2 _ rfl; have f_x1_2 := x_x1.f 2 _ rfl
    have c_x1_3 := x_x1.c 3 _ rfl; have f_x1_3 := x_x1.f 3 _ rfl
    have c_x1_4 := x_x1.c 4 _ rfl; have f_x1_4 := x_x1.f 4 _ rfl
    have c_x1_5 := x_x1.c 5 _ rfl; have f_x1_5 := x_x1.f 5 _ rfl
    have z_z1 := x_z1.lt
    have c_z1_0 := x_z1.c 0 _ rfl; have f_z1_0 := x_z1.f 0 _ rfl
    have c_z1_1 := x_z1.c 1 _ rfl; have f_z1_1 := x_z1.f 1 _ rfl
    have c_z1_2 := x_z1.c 2 _ rfl; have f_z1_2 := x_z1.f 2 _ rfl
    have c_z1_3 := x_z1.c 3 _ rfl; have f_z1_3 := x_z1.f 3 _ rfl
    have c_z1_4 := x_z1.c 4 _ rfl; have f_z1_4 := x_z1.f 4 _ rfl
    have c_z1_5 := x_z1.c 5 _ rfl; have f_z1_5 := x_z1.f 5 _ rfl
    go_wp2_with fail
    refine (rcheck_is h _).mono ?_
    rintro e w2 ⟨rfl, hb⟩
    have hB2 : Below w.heap.size w w2 := below_thru (by go_grown) hb
    have hs2 : w.heap.size ≤ w2.heap.size := hB2.size
    have x_x2 : Box w2 (w.heap.size) [.int .i64 bu, .int .i64 ra, .int .i64 pe, .int .i64 le, .int .i64 pt, .int .u64 a] := (by refine Box.below ?_ hb; repeat (first | (with_reducible assumption) | (with_reducible refine Box.drew ?_) | (with_reducible refine Box.drewN ?_ _) | ((with_reducible refine Box.new ?_); simp; done) | (with_reducible apply Box.set2) | ((with_reducible apply Box.put); (with_reducible assumption); rfl) | (with_reducible refine Box.alloc ?_ _) | (with_reducible refine Box.other ?_ (by first | (dsimp only; omega) | omega) _)))
    have z_x2 := x_x2.lt
    have c_x2_0 := x_x2.c 0 _ rfl
    have f_x2_0 := x_x2.f 0 _ rfl
    have c_x2_1 := x_x2.c 1 _ rfl
    have f_x2_1 := x_x2.f 1 _ rfl
    have c_x2_2 := x_x2.c 2 _ rfl
    have f_x2_2 := x_x2.f 2 _ rfl
    have c_x2_3 := x_x2.c 3 _ rfl
    have f_x2_3 := x_x2.f 3 _ rfl
    have c_x2_4 := x_x2.c 4 _ rfl
    have f_x2_4 := x_x2.f 4 _ rfl
    have c_x2_5 := x_x2.c 5 _ rfl
    have f_x2_5 := x_x2.f 5 _ rfl
    have x_z2 : Box w2 (w.heap.size + 1) [.int .i64 bu, .int .i64 ra, .int .i64 pe, .int .i64 le2, .int .i64 pt2, .int .u64 a] := (by refine Box.below ?_ hb; repeat (first | (with_reducible assumption) | (with_reducible refine Box.drew ?_) | (with_reducible refine Box.drewN ?_ _) | ((with_reducible refine Box.new ?_); simp; done) | (with_reducible apply Box.set2) | ((with_reducible apply Box.put); (with_reducible assumption); rfl) | (with_reducible refine Box.alloc ?_ _) | (with_reducible refine Box.other ?_ (by first | (dsimp only; omega) | omega) _)))
    have z_z2 := x_z2.lt
    have c_z2_0 := x_z2.c 0 _ rfl
    have f_z2_0 := x_z2.f 0 _ rfl
    have c_z2_1 := x_z2.c 1 _ rfl
    have f_z2_1 := x_z2.f 1 _ rfl
    have c_z2_2 := x_z2.c 2 _ rfl
    have f_z2_2 := x_z2.f 2 _ rfl
    have c_z2_3 := x_z2.c 3 _ rfl
    have f_z2_3 := x_z2.f 3 _ rfl
    have c_z2_4 := x_z2.c 4 _ rfl
    have f_z2_4 := x_z2.f 4 _ rfl
    have c_z2_5 := x_z2.c 5 _ rfl
    have f_z2_5 := x_z2.f 5 _ rfl
    have t2 := hb.size
    try simp at t2
    clear hb hB1 hs1 x_x1 z_x1 c_x1_0 c_x1_1 c_x1_2 c_x1_3 c_x1_4 c_x1_5 f_x1_0 f_x1_1 f_x1_2 f_x1_3 f_x1_4 f_x1_5 x_z1 z_z1 c_z1_0 c_z1_1 c_z1_2 c_z1_3 c_z1_4 c_z1_5 f_z1_0 f_z1_1 f_z1_2 f_z1_3 f_z1_4 f_z1_5
    go_wp2_with fail
    refine (alive03_any _).mono ?_
    rintro e w3 ⟨rfl, hb⟩
    have hB3 : Below w.heap.size w w3 := below_thru (by go_grown) hb
    have hs3 : w.heap.size ≤ w3.heap.size := hB3.size
    have x_x3 : Box w3 (w.heap.size) [.int .i64 bu, .int .i64 ra, .int .i64 pe, .int .i64 le, .int .i64 pt, .int .u64 a] := (by refine Box.below ?_ hb; repeat (first | (with_reducible assumption) | (with_reducible refine Box.drew ?_) | (with_reducible refine Box.drewN ?_ _) | ((with_reducible refine Box.new ?_); simp; done) | (with_reducible apply Box.set2) | ((with_reducible apply Box.put); (with_reducible assumption); rfl) | (with_reducible refine Box.alloc ?_ _) | (with_reducible refine Box.other ?_ (by first | (dsimp only; omega) | omega) _)))
    have z_x3 := x_x3.lt
    have c_x3_0 := x_x3.c 0 _ rfl
    have f_x3_0 := x_x3.f 0 _ rfl
    have c_x3_1 := x_x3.c 1 _ rfl
    have f_x3_1 := x_x3.f 1 _ rfl
    have c_x3_2 := x_x3.c 2 _ rfl
    have f_x3_2 := x_x3.f 2 _ rfl
    have c_x3_3 := x_x3.c 3 _ rfl
    have f_x3_3 := x_x3.f 3 _ rfl
    have c_x3_4 := x_x3.c 4 _ rfl
    have f_x3_4 := x_x3.f 4 _ rfl
    have c_x3_5 := x_x3.c 5 _ rfl
    have f_x3_5 := x_x3.f 5 _ rfl
    have x_z3 : Box w3 (w.heap.size + 1) [.int .i64 bu, .int .i64 ra, .int .i64 pe, .int .i64 le2, .int .i64 pt2, .int .u64 a] := (by refine Box.below ?_ hb; repeat (first | (with_reducible assumption) | (with_reducible refine Box.drew ?_) | (with_reducible refine Box.drewN ?_ _) | ((with_reducible refine Box.new ?_); simp; done) | (with_reducible apply Box.set2) | ((with_reducible apply Box.put); (with_reducible assumption); rfl) | (with_reducible refine Box.alloc ?_ _) | (with_reducible refine Box.other ?_ (by first | (dsimp only; omega) | omega) _)))
    have z_z3 := x_z3.lt
    have c_z3_0 := x_z3.c 0 _ rfl
    have f_z3_0 := x_z3.f 0 _ rfl
    have c_z3_1 := x_z3.c 1 _ rfl
    have f_z3_1 := x_z3.f 1 _ rfl
    have c_z3_2 := x_z3.c 2 _ rfl
    have f_z3_2 := x_z3.f 2 _ rfl
    have c_z3_3 := x_z3.c 3 _ rfl
    have f_z3_3 := x_z3.f 3 _ rfl
    have c_z3_4 := x_z3.c 4 _ rfl
    have f_z3_4 := x_z3.f 4 _ rfl
    have c_z3_5 := x_z3.c 5 _ rfl
    have f_z3_5 := x_z3.f 5 _ rfl
    have t3 := hb.size
    try simp at t3
    clear hb hB2 hs2 x_x2 z_x2 c_x2_0 c_x2_1 c_x2_2 c_x2_3 c_x2_4 c_x2_5 f_x2_0 f_x2_1 f_x2_2 f_x2_3 f_x2_4 f_x2_5 x_z2 z_z2 c_z2_0 c_z2_1 c_z2_2 c_z2_3 c_z2_4 c_z2_5 f_z2_0 f_z2_1 f_z2_2 f_z2_3 f_z2_4 f_z2_5
    go_wp2_with fail
    go_returns
    exact ⟨rfl, by go_grown⟩

set_option maxRecDepth 100000 in
set_option maxHeartbeats 6400000 in
theorem more_c {bu ra pe le pt a bu2 ra2 pe2 le2 pt2 a2 : Int} {at0 at1 : Option Addr} {cap cap1 : Nat} {ts cs : List Int} (w : World) (hi : Ints w .u64 at0 cap ts) (hj : Ints w .i64 at1 cap1 cs) (h : Hid (bucE bu ra pe le pt = 0)) (h2 : Hid (bucE bu ra pe le2 pt2 = 8)) :
    Calls Try.prog 3 #[.agg #[.int .i64 bu, .int .i64 ra, .int .i64 pe, .int .i64 le, .int .i64 pt, .int .u64 a], .agg #[.int .i64 bu2, .int .i64 ra2, .int .i64 pe2, .int .i64 le2, .int .i64 pt2, .int .u64 a2], .slice at0 ts.length cap, .slice at1 cs.length cap1] w fun e w' => e = .returned (.bool true) ∧ Below w.heap.size w w' := by
  have i1 := hi.room
  have i2 := hi.most
  have i3 := hj.room
  have i4 := hj.most
  go_enter Try.func3, Try.ntmps3
  go_upto_region 1 with fail
  go_cut [] (fun  wx => Box wx (w.heap.size) [.int .i64 bu, .int .i64 ra, .int .i64 pe, .int .i64 le, .int .i64 pt, .int .u64 a] ∧ Box wx (w.heap.size + 1) [.int .i64 bu, .int .i64 ra, .int .i64 pe, .int .i64 le2, .int .i64 pt2, .int .u64 a] ∧ Below w.heap.size w wx)
  case first =>
    go_region_held3 (fun w' => w'.cell? ⟨w.heap.size, 0, none⟩ = some (.int .i64 bu) ∧ w'.cell? ⟨w.heap.size, 1, none⟩ = some (.int .i64 ra) ∧ w'.cell? ⟨w.heap.size, 2, none⟩ = some (.int .i64 pe) ∧ w'.cell? ⟨w.heap.size, 5, none⟩ = some (.int .u64 a)) (((repeat' apply And.intro) <;> (first | (go_keep; done) | go_cell)))
      (fail)
    all_goals
      go_wp2_with fail
      go_meet
      refine ⟨?_, ?_, ?_⟩
      all_goals first
        | ((repeat (first | (with_reducible apply put6) | (with_reducible refine other6 ?_ (by first | (dsimp only; omega) | omega) _ _ _ _ _ _) | (with_reducible assumption) | (with_reducible refine Box.drew ?_) | (with_reducible refine Box.drewN ?_ _) | ((with_reducible refine Box.new ?_); simp; done) | (with_reducible apply Box.set2) | (with_reducible refine Box.alloc ?_ _) | (with_reducible refine Box.other ?_ (by first | (dsimp only; omega) | omega) _))); done)
        | (go_grown; done)
  case rest =>
    obtain ⟨x_x1, x_z1, hB1⟩ := hcut
    obtain ⟨w1, rfl⟩ : ∃ u : World, u = wc := ⟨_, rfl⟩
    have hs1 : w.heap.size ≤ w1.heap.size := hB1.size
    have z_x1 := x_x1.lt
    have c_x1_0 := x_x1.c 0 _ rfl; have f_x1_0 := x_x1.f 0 _ rfl
    have c_x1_1 := x_x1.c 1 _ rfl; have f_x1_1 := x_x1.f 1 _ rfl
    have c_x1_2 := x_x1.c 2 _ rfl; have f_x1_2 := x_x1.f 2 _ rfl
    have c_x1_3 := x_x1.c 3 _ rfl; have f_x1_3 := x_x1.f 3 _ rfl
    have c_x1_4 := x_x1.c 4 _ rfl; have f_x1_4 := x_x1.f 4 _ rfl
    have c_x1_5 := x_x1.c 5 _ rfl; have f_x1_5 := x_x1.f 5 _ rfl
    have z_z1 := x_z1.lt
    have c_z1_0 := x_z1.c 0 _ rfl; have f_z1_0 := x_z1.f 0 _ rfl
    have c_z1_1 := x_z1.c 1 _ rfl; have f_z1_1 := x_z1.f 1 _ rfl
    have c_z1_2 := x_z1.c 2 _ rfl; have f_z1_2 := x_z1.f 2 _ rfl
    have c_z1_3 := x_z1.c 3 _ rfl; have f_z1_3 := x_z1.f 3 _ rfl
    have c_z1_4 := x_z1.c 4 _ rfl; have f_z1_4 := x_z1.f 4 _ rfl
    have c_z1_5 := x_z1.c 5 _ rfl; have f_z1_5 := x_z1.f 5 _ rfl
    go_wp2_with fail
    refine (rcheck_is h _).mono ?_
    rintro e w2 ⟨rfl, hb⟩
    have hB2 : Below w.heap.size w w2 := below_thru (by go_grown) hb
    have hs2 : w.heap.size ≤ w2.heap.size := hB2.size
    have x_x2 : Box w2 (w.heap.size) [.int .i64 bu, .int .i64 ra, .int .i64 pe, .int .i64 le, .int .i64 pt, .int .u64 a] := (by refine Box.below ?_ hb; repeat (first | (with_reducible assumption) | (with_reducible refine Box.drew ?_) | (with_reducible refine Box.drewN ?_ _) | ((with_reducible refine Box.new ?_); simp; done) | (with_reducible apply Box.set2) | ((with_reducible apply Box.put); (with_reducible assumption); rfl) | (with_reducible refine Box.alloc ?_ _) | (with_reducible refine Box.other ?_ (by first | (dsimp only; omega) | omega) _)))
    have z_x2 := x_x2.lt
    have c_x2_0 := x_x2.c 0 _ rfl
    have f_x2_0 := x_x2.f 0 _ rfl
    have c_x2_1 := x_x2.c 1 _ rfl
    have f_x2_1 := x_x2.f 1 _ rfl
    have c_x2_2 := x_x2.c 2 _ rfl
    have f_x2_2 := x_x2.f 2 _ rfl
    have c_x2_3 := x_x2.c 3 _ rfl
    have f_x2_3 := x_x2.f 3 _ rfl
    have c_x2_4 := x_x2.c 4 _ rfl
    have f_x2_4 := x_x2.f 4 _ rfl
    have c_x2_5 := x_x2.c 5 _ rfl
    have f_x2_5 := x_x2.f 5 _ rfl
    have x_z2 : Box w2 (w.heap.size + 1) [.int .i64 bu, .int .i64 ra, .int .i64 pe, .int .i64 le2, .int .i64 pt2, .int .u64 a] := (by refine Box.below ?_ hb; repeat (first | (with_reducible assumption) | (with_reducible refine Box.drew ?_) | (with_reducible refine Box.drewN ?_ _) | ((with_reducible refine Box.new ?_); simp; done) | (with_reducible apply Box.set2) | ((with_reducible apply Box.put); (with_reducible assumption); rfl) | (with_reducible refine Box.alloc ?_ _) | (with_reducible refine Box.other ?_ (by first | (dsimp only; omega) | omega) _)))
    have z_z2 := x_z2.lt
    have c_z2_0 := x_z2.c 0 _ rfl
    have f_z2_0 := x_z2.f 0 _ rfl
    have c_z2_1 := x_z2.c 1 _ rfl
    have f_z2_1 := x_z2.f 1 _ rfl
    have c_z2_2 := x_z2.c 2 _ rfl
    have f_z2_2 := x_z2.f 2 _ rfl
    have c_z2_3 := x_z2.c 3 _ rfl
    have f_z2_3 := x_z2.f 3 _ rfl
    have c_z2_4 := x_z2.c 4 _ rfl
    have f_z2_4 := x_z2.f 4 _ rfl
    have c_z2_5 := x_z2.c 5 _ rfl
    have f_z2_5 := x_z2.f 5 _ rfl
    have t2 := hb.size
    try simp at t2
    clear hb hB1 hs1 x_x1 z_x1 c_x1_0 c_x1_1 c_x1_2 c_x1_3 c_x1_4 c_x1_5 f_x1_0 f_x1_1 f_x1_2 f_x1_3 f_x1_4 f_x1_5 x_z1 z_z1 c_z1_0 c_z1_1 c_z1_2 c_z1_3 c_z1_4 c_z1_5 f_z1_0 f_z1_1 f_z1_2 f_z1_3 f_z1_4 f_z1_5
    go_wp2_with fail
    refine (rcheck_is h2 _).mono ?_
    rintro e w3 ⟨rfl, hb⟩
    have hB3 : Below w.heap.size w w3 := below_thru (by go_grown) hb
    have hs3 : w.heap.size ≤ w3.heap.size := hB3.size
    have x_x3 : Box w3 (w.heap.size) [.int .i64 bu, .int .i64 ra, .int .i64 pe, .int .i64 le, .int .i64 pt, .int .u64 a] := (by refine Box.below ?_ hb; repeat (first | (with_reducible assumption) | (with_reducible refine Box.drew ?_) | (with_reducible refine Box.drewN ?_ _) | ((with_reducible refine Box.new ?_); simp; done) | (with_reducible apply Box.set2) | ((with_reducible apply Box.put); (with_reducible assumption); rfl) | (with_reducible refine Box.alloc ?_ _) | (with_reducible refine Box.other ?_ (by first | (dsimp only; omega) | omega) _)))
    have z_x3 := x_x3.lt
    have c_x3_0 := x_x3.c 0 _ rfl
    have f_x3_0 := x_x3.f 0 _ rfl
    have c_x3_1 := x_x3.c 1 _ rfl
    have f_x3_1 := x_x3.f 1 _ rfl
    have c_x3_2 := x_x3.c 2 _ rfl
    have f_x3_2 := x_x3.f 2 _ rfl
    have c_x3_3 := x_x3.c 3 _ rfl
    have f_x3_3 := x_x3.f 3 _ rfl
    have c_x3_4 := x_x3.c 4 _ rfl
    have f_x3_4 := x_x3.f 4 _ rfl
    have c_x3_5 := x_x3.c 5 _ rfl
    have f_x3_5 := x_x3.f 5 _ rfl
    have x_z3 : Box w3 (w.heap.size + 1) [.int .i64 bu, .int .i64 ra, .int .i64 pe, .int .i64 le2, .int .i64 pt2, .int .u64 a] := (by refine Box.below ?_ hb; repeat (first | (with_reducible assumption) | (with_reducible refine Box.drew ?_) | (with_reducible refine Box.drewN ?_ _) | ((with_reducible refine Box.new ?_); simp; done) | (with_reducible apply Box.set2) | ((with_reducible apply Box.put); (with_reducible assumption); rfl) | (with_reducible refine Box.alloc ?_ _) | (with_reducible refine Box.other ?_ (by first | (dsimp only; omega) | omega) _)))
    have z_z3 := x_z3.lt
    have c_z3_0 := x_z3.c 0 _ rfl
    have f_z3_0 := x_z3.f 0 _ rfl
    have c_z3_1 := x_z3.c 1 _ rfl
    have f_z3_1 := x_z3.f 1 _ rfl
    have c_z3_2 := x_z3.c 2 _ rfl
    have f_z3_2 := x_z3.f 2 _ rfl
    have c_z3_3 := x_z3.c 3 _ rfl
    have f_z3_3 := x_z3.f 3 _ rfl
    have c_z3_4 := x_z3.c 4 _ rfl
    have f_z3_4 := x_z3.f 4 _ rfl
    have c_z3_5 := x_z3.c 5 _ rfl
    have f_z3_5 := x_z3.f 5 _ rfl
    have t3 := hb.size
    try simp at t3
    clear hb hB2 hs2 x_x2 z_x2 c_x2_0 c_x2_1 c_x2_2 c_x2_3 c_x2_4 c_x2_5 f_x2_0 f_x2_1 f_x2_2 f_x2_3 f_x2_4 f_x2_5 x_z2 z_z2 c_z2_0 c_z2_1 c_z2_2 c_z2_3 c_z2_4 c_z2_5 f_z2_0 f_z2_1 f_z2_2 f_z2_3 f_z2_4 f_z2_5
    go_wp2_with fail
    refine (alive03_any _).mono ?_
    rintro e w4 ⟨rfl, hb⟩
    have hB4 : Below w.heap.size w w4 := below_thru (by go_grown) hb
    have hs4 : w.heap.size ≤ w4.heap.size := hB4.size
    have x_x4 : Box w4 (w.heap.size) [.int .i64 bu, .int .i64 ra, .int .i64 pe, .int .i64 le, .int .i64 pt, .int .u64 a] := (by refine Box.below ?_ hb; repeat (first | (with_reducible assumption) | (with_reducible refine Box.drew ?_) | (with_reducible refine Box.drewN ?_ _) | ((with_reducible refine Box.new ?_); simp; done) | (with_reducible apply Box.set2) | ((with_reducible apply Box.put); (with_reducible assumption); rfl) | (with_reducible refine Box.alloc ?_ _) | (with_reducible refine Box.other ?_ (by first | (dsimp only; omega) | omega) _)))
    have z_x4 := x_x4.lt
    have c_x4_0 := x_x4.c 0 _ rfl
    have f_x4_0 := x_x4.f 0 _ rfl
    have c_x4_1 := x_x4.c 1 _ rfl
    have f_x4_1 := x_x4.f 1 _ rfl
    have c_x4_2 := x_x4.c 2 _ rfl
    have f_x4_2 := x_x4.f 2 _ rfl
    have c_x4_3 := x_x4.c 3 _ rfl
    have f_x4_3 := x_x4.f 3 _ rfl
    have c_x4_4 := x_x4.c 4 _ rfl
    have f_x4_4 := x_x4.f 4 _ rfl
    have c_x4_5 := x_x4.c 5 _ rfl
    have f_x4_5 := x_x4.f 5 _ rfl
    have x_z4 : Box w4 (w.heap.size + 1) [.int .i64 bu, .int .i64 ra, .int .i64 pe, .int .i64 le2, .int .i64 pt2, .int .u64 a] := (by refine Box.below ?_ hb; repeat (first | (with_reducible assumption) | (with_reducible refine Box.drew ?_) | (with_reducible refine Box.drewN ?_ _) | ((with_reducible refine Box.new ?_); simp; done) | (with_reducible apply Box.set2) | ((with_reducible apply Box.put); (with_reducible assumption); rfl) | (with_reducible refine Box.alloc ?_ _) | (with_reducible refine Box.other ?_ (by first | (dsimp only; omega) | omega) _)))
    have z_z4 := x_z4.lt
    have c_z4_0 := x_z4.c 0 _ rfl
    have f_z4_0 := x_z4.f 0 _ rfl
    have c_z4_1 := x_z4.c 1 _ rfl
    have f_z4_1 := x_z4.f 1 _ rfl
    have c_z4_2 := x_z4.c 2 _ rfl
    have f_z4_2 := x_z4.f 2 _ rfl
    have c_z4_3 := x_z4.c 3 _ rfl
    have f_z4_3 := x_z4.f 3 _ rfl
    have c_z4_4 := x_z4.c 4 _ rfl
    have f_z4_4 := x_z4.f 4 _ rfl
    have c_z4_5 := x_z4.c 5 _ rfl
    have f_z4_5 := x_z4.f 5 _ rfl
    have t4 := hb.size
    try simp at t4
    clear hb hB3 hs3 x_x3 z_x3 c_x3_0 c_x3_1 c_x3_2 c_x3_3 c_x3_4 c_x3_5 f_x3_0 f_x3_1 f_x3_2 f_x3_3 f_x3_4 f_x3_5 x_z3 z_z3 c_z3_0 c_z3_1 c_z3_2 c_z3_3 c_z3_4 c_z3_5 f_z3_0 f_z3_1 f_z3_2 f_z3_3 f_z3_4 f_z3_5
    go_wp2_with fail
    go_returns
    exact ⟨rfl, by go_grown⟩

set_option maxRecDepth 100000 in
set_option maxHeartbeats 6400000 in
theorem more_l {bu ra pe le pt a bu2 ra2 pe2 le2 pt2 a2 : Int} {at0 at1 : Option Addr} {cap cap1 : Nat} {ts cs : List Int} (w : World) (hi : Ints w .u64 at0 cap ts) (hj : Ints w .i64 at1 cap1 cs) (h : Hid (bucE bu ra pe le pt = 0)) (h2 : Hid (bucE bu ra pe le2 pt2 = 0)) (h3 : Hid (moreB le2 pt2 le pt = false)) :
    Calls Try.prog 3 #[.agg #[.int .i64 bu, .int .i64 ra, .int .i64 pe, .int .i64 le, .int .i64 pt, .int .u64 a], .agg #[.int .i64 bu2, .int .i64 ra2, .int .i64 pe2, .int .i64 le2, .int .i64 pt2, .int .u64 a2], .slice at0 ts.length cap, .slice at1 cs.length cap1] w fun e w' => e = .returned (.bool true) ∧ Below w.heap.size w w' := by
  have i1 := hi.room
  have i2 := hi.most
  have i3 := hj.room
  have i4 := hj.most
  go_enter Try.func3, Try.ntmps3
  go_upto_region 1 with fail
  go_cut [] (fun  wx => Box wx (w.heap.size) [.int .i64 bu, .int .i64 ra, .int .i64 pe, .int .i64 le, .int .i64 pt, .int .u64 a] ∧ Box wx (w.heap.size + 1) [.int .i64 bu, .int .i64 ra, .int .i64 pe, .int .i64 le2, .int .i64 pt2, .int .u64 a] ∧ Below w.heap.size w wx)
  case first =>
    go_region_held3 (fun w' => w'.cell? ⟨w.heap.size, 0, none⟩ = some (.int .i64 bu) ∧ w'.cell? ⟨w.heap.size, 1, none⟩ = some (.int .i64 ra) ∧ w'.cell? ⟨w.heap.size, 2, none⟩ = some (.int .i64 pe) ∧ w'.cell? ⟨w.heap.size, 5, none⟩ = some (.int .u64 a)) (((repeat' apply And.intro) <;> (first | (go_keep; done) | go_cell)))
      (fail)
    all_goals
      go_wp2_with fail
      go_meet
      refine ⟨?_, ?_, ?_⟩
      all_goals first
        | ((repeat (first | (with_reducible apply put6) | (with_reducible refine other6 ?_ (by first | (dsimp only; omega) | omega) _ _ _ _ _ _) | (with_reducible assumption) | (with_reducible refine Box.drew ?_) | (with_reducible refine Box.drewN ?_ _) | ((with_reducible refine Box.new ?_); simp; done) | (with_reducible apply Box.set2) | (with_reducible refine Box.alloc ?_ _) | (with_reducible refine Box.other ?_ (by first | (dsimp only; omega) | omega) _))); done)
        | (go_grown; done)
  case rest =>
    obtain ⟨x_x1, x_z1, hB1⟩ := hcut
    obtain ⟨w1, rfl⟩ : ∃ u : World, u = wc := ⟨_, rfl⟩
    have hs1 : w.heap.size ≤ w1.heap.size := hB1.size
    have z_x1 := x_x1.lt
    have c_x1_0 := x_x1.c 0 _ rfl; have f_x1_0 := x_x1.f 0 _ rfl
    have c_x1_1 := x_x1.c 1 _ rfl; have f_x1_1 := x_x1.f 1 _ rfl
    have c_x1_2 := x_x1.c 2 _ rfl; have f_x1_2 := x_x1.f 2 _ rfl
    have c_x1_3 := x_x1.c 3 _ rfl; have f_x1_3 := x_x1.f 3 _ rfl
    have c_x1_4 := x_x1.c 4 _ rfl; have f_x1_4 := x_x1.f 4 _ rfl
    have c_x1_5 := x_x1.c 5 _ rfl; have f_x1_5 := x_x1.f 5 _ rfl
    have z_z1 := x_z1.lt
    have c_z1_0 := x_z1.c 0 _ rfl; have f_z1_0 := x_z1.f 0 _ rfl
    have c_z1_1 := x_z1.c 1 _ rfl; have f_z1_1 := x_z1.f 1 _ rfl
    have c_z1_2 := x_z1.c 2 _ rfl; have f_z1_2 := x_z1.f 2 _ rfl
    have c_z1_3 := x_z1.c 3 _ rfl; have f_z1_3 := x_z1.f 3 _ rfl
    have c_z1_4 := x_z1.c 4 _ rfl; have f_z1_4 := x_z1.f 4 _ rfl
    have c_z1_5 := x_z1.c 5 _ rfl; have f_z1_5 := x_z1.f 5 _ rfl
    go_wp2_with fail
    refine (rcheck_is h _).mono ?_
    rintro e w2 ⟨rfl, hb⟩
    have hB2 : Below w.heap.size w w2 := below_thru (by go_grown) hb
    have hs2 : w.heap.size ≤ w2.heap.size := hB2.size
    have x_x2 : Box w2 (w.heap.size) [.int .i64 bu, .int .i64 ra, .int .i64 pe, .int .i64 le, .int .i64 pt, .int .u64 a] := (by refine Box.below ?_ hb; repeat (first | (with_reducible assumption) | (with_reducible refine Box.drew ?_) | (with_reducible refine Box.drewN ?_ _) | ((with_reducible refine Box.new ?_); simp; done) | (with_reducible apply Box.set2) | ((with_reducible apply Box.put); (with_reducible assumption); rfl) | (with_reducible refine Box.alloc ?_ _) | (with_reducible refine Box.other ?_ (by first | (dsimp only; omega) | omega) _)))
    have z_x2 := x_x2.lt
    have c_x2_0 := x_x2.c 0 _ rfl
    have f_x2_0 := x_x2.f 0 _ rfl
    have c_x2_1 := x_x2.c 1 _ rfl
    have f_x2_1 := x_x2.f 1 _ rfl
    have c_x2_2 := x_x2.c 2 _ rfl
    have f_x2_2 := x_x2.f 2 _ rfl
    have c_x2_3 := x_x2.c 3 _ rfl
    have f_x2_3 := x_x2.f 3 _ rfl
    have c_x2_4 := x_x2.c 4 _ rfl
    have f_x2_4 := x_x2.f 4 _ rfl
    have c_x2_5 := x_x2.c 5 _ rfl
    have f_x2_5 := x_x2.f 5 _ rfl
    have x_z2 : Box w2 (w.heap.size + 1) [.int .i64 bu, .int .i64 ra, .int .i64 pe, .int .i64 le2, .int .i64 pt2, .int .u64 a] := (by refine Box.below ?_ hb; repeat (first | (with_reducible assumption) | (with_reducible refine Box.drew ?_) | (with_reducible refine Box.drewN ?_ _) | ((with_reducible refine Box.new ?_); simp; done) | (with_reducible apply Box.set2) | ((with_reducible apply Box.put); (with_reducible assumption); rfl) | (with_reducible refine Box.alloc ?_ _) | (with_reducible refine Box.other ?_ (by first | (dsimp only; omega) | omega) _)))
    have z_z2 := x_z2.lt
    have c_z2_0 := x_z2.c 0 _ rfl
    have f_z2_0 := x_z2.f 0 _ rfl
    have c_z2_1 := x_z2.c 1 _ rfl
    have f_z2_1 := x_z2.f 1 _ rfl
    have c_z2_2 := x_z2.c 2 _ rfl
    have f_z2_2 := x_z2.f 2 _ rfl
    have c_z2_3 := x_z2.c 3 _ rfl
    have f_z2_3 := x_z2.f 3 _ rfl
    have c_z2_4 := x_z2.c 4 _ rfl
    have f_z2_4 := x_z2.f 4 _ rfl
    have c_z2_5 := x_z2.c 5 _ rfl
    have f_z2_5 := x_z2.f 5 _ rfl
    have t2 := hb.size
    try simp at t2
    clear hb hB1 hs1 x_x1 z_x1 c_x1_0 c_x1_1 c_x1_2 c_x1_3 c_x1_4 c_x1_5 f_x1_0 f_x1_1 f_x1_2 f_x1_3 f_x1_4 f_x1_5 x_z1 z_z1 c_z1_0 c_z1_1 c_z1_2 c_z1_3 c_z1_4 c_z1_5 f_z1_0 f_z1_1 f_z1_2 f_z1_3 f_z1_4 f_z1_5
    go_wp2_with fail
    refine (rcheck_is h2 _).mono ?_
    rintro e w3 ⟨rfl, hb⟩
    have hB3 : Below w.heap.size w w3 := below_thru (by go_grown) hb
    have hs3 : w.heap.size ≤ w3.heap.size := hB3.size
    have x_x3 : Box w3 (w.heap.size) [.int .i64 bu, .int .i64 ra, .int .i64 pe, .int .i64 le, .int .i64 pt, .int .u64 a] := (by refine Box.below ?_ hb; repeat (first | (with_reducible assumption) | (with_reducible refine Box.drew ?_) | (with_reducible refine Box.drewN ?_ _) | ((with_reducible refine Box.new ?_); simp; done) | (with_reducible apply Box.set2) | ((with_reducible apply Box.put); (with_reducible assumption); rfl) | (with_reducible refine Box.alloc ?_ _) | (with_reducible refine Box.other ?_ (by first | (dsimp only; omega) | omega) _)))
    have z_x3 := x_x3.lt
    have c_x3_0 := x_x3.c 0 _ rfl
    have f_x3_0 := x_x3.f 0 _ rfl
    have c_x3_1 := x_x3.c 1 _ rfl
    have f_x3_1 := x_x3.f 1 _ rfl
    have c_x3_2 := x_x3.c 2 _ rfl
    have f_x3_2 := x_x3.f 2 _ rfl
    have c_x3_3 := x_x3.c 3 _ rfl
    have f_x3_3 := x_x3.f 3 _ rfl
    have c_x3_4 := x_x3.c 4 _ rfl
    have f_x3_4 := x_x3.f 4 _ rfl
    have c_x3_5 := x_x3.c 5 _ rfl
    have f_x3_5 := x_x3.f 5 _ rfl
    have x_z3 : Box w3 (w.heap.size + 1) [.int .i64 bu, .int .i64 ra, .int .i64 pe, .int .i64 le2, .int .i64 pt2, .int .u64 a] := (by refine Box.below ?_ hb; repeat (first | (with_reducible assumption) | (with_reducible refine Box.drew ?_) | (with_reducible refine Box.drewN ?_ _) | ((with_reducible refine Box.new ?_); simp; done) | (with_reducible apply Box.set2) | ((with_reducible apply Box.put); (with_reducible assumption); rfl) | (with_reducible refine Box.alloc ?_ _) | (with_reducible refine Box.other ?_ (by first | (dsimp only; omega) | omega) _)))
    have z_z3 := x_z3.lt
    have c_z3_0 := x_z3.c 0 _ rfl
    have f_z3_0 := x_z3.f 0 _ rfl
    have c_z3_1 := x_z3.c 1 _ rfl
    have f_z3_1 := x_z3.f 1 _ rfl
    have c_z3_2 := x_z3.c 2 _ rfl
    have f_z3_2 := x_z3.f 2 _ rfl
    have c_z3_3 := x_z3.c 3 _ rfl
    have f_z3_3 := x_z3.f 3 _ rfl
    have c_z3_4 := x_z3.c 4 _ rfl
    have f_z3_4 := x_z3.f 4 _ rfl
    have c_z3_5 := x_z3.c 5 _ rfl
    have f_z3_5 := x_z3.f 5 _ rfl
    have t3 := hb.size
    try simp at t3
    clear hb hB2 hs2 x_x2 z_x2 c_x2_0 c_x2_1 c_x2_2 c_x2_3 c_x2_4 c_x2_5 f_x2_0 f_x2_1 f_x2_2 f_x2_3 f_x2_4 f_x2_5 x_z2 z_z2 c_z2_0 c_z2_1 c_z2_2 c_z2_3 c_z2_4 c_z2_5 f_z2_0 f_z2_1 f_z2_2 f_z2_3 f_z2_4 f_z2_5
    go_wp2_with fail
    refine (more_is h3 _).mono ?_
    rintro e w4 ⟨rfl, hb⟩
    have hB4 : Below w.heap.size w w4 := below_thru (by go_grown) hb
    have hs4 : w.heap.size ≤ w4.heap.size := hB4.size
    have x_x4 : Box w4 (w.heap.size) [.int .i64 bu, .int .i64 ra, .int .i64 pe, .int .i64 le, .int .i64 pt, .int .u64 a] := (by refine Box.below ?_ hb; repeat (first | (with_reducible assumption) | (with_reducible refine Box.drew ?_) | (with_reducible refine Box.drewN ?_ _) | ((with_reducible refine Box.new ?_); simp; done) | (with_reducible apply Box.set2) | ((with_reducible apply Box.put); (with_reducible assumption); rfl) | (with_reducible refine Box.alloc ?_ _) | (with_reducible refine Box.other ?_ (by first | (dsimp only; omega) | omega) _)))
    have z_x4 := x_x4.lt
    have c_x4_0 := x_x4.c 0 _ rfl
    have f_x4_0 := x_x4.f 0 _ rfl
    have c_x4_1 := x_x4.c 1 _ rfl
    have f_x4_1 := x_x4.f 1 _ rfl
    have c_x4_2 := x_x4.c 2 _ rfl
    have f_x4_2 := x_x4.f 2 _ rfl
    have c_x4_3 := x_x4.c 3 _ rfl
    have f_x4_3 := x_x4.f 3 _ rfl
    have c_x4_4 := x_x4.c 4 _ rfl
    have f_x4_4 := x_x4.f 4 _ rfl
    have c_x4_5 := x_x4.c 5 _ rfl
    have f_x4_5 := x_x4.f 5 _ rfl
    have x_z4 : Box w4 (w.heap.size + 1) [.int .i64 bu, .int .i64 ra, .int .i64 pe, .int .i64 le2, .int .i64 pt2, .int .u64 a] := (by refine Box.below ?_ hb; repeat (first | (with_reducible assumption) | (with_reducible refine Box.drew ?_) | (with_reducible refine Box.drewN ?_ _) | ((with_reducible refine Box.new ?_); simp; done) | (with_reducible apply Box.set2) | ((with_reducible apply Box.put); (with_reducible assumption); rfl) | (with_reducible refine Box.alloc ?_ _) | (with_reducible refine Box.other ?_ (by first | (dsimp only; omega) | omega) _)))
    have z_z4 := x_z4.lt
    have c_z4_0 := x_z4.c 0 _ rfl
    have f_z4_0 := x_z4.f 0 _ rfl
    have c_z4_1 := x_z4.c 1 _ rfl
    have f_z4_1 := x_z4.f 1 _ rfl
    have c_z4_2 := x_z4.c 2 _ rfl
    have f_z4_2 := x_z4.f 2 _ rfl
    have c_z4_3 := x_z4.c 3 _ rfl
    have f_z4_3 := x_z4.f 3 _ rfl
    have c_z4_4 := x_z4.c 4 _ rfl
    have f_z4_4 := x_z4.f 4 _ rfl
    have c_z4_5 := x_z4.c 5 _ rfl
    have f_z4_5 := x_z4.f 5 _ rfl
    have t4 := hb.size
    try simp at t4
    clear hb hB3 hs3 x_x3 z_x3 c_x3_0 c_x3_1 c_x3_2 c_x3_3 c_x3_4 c_x3_5 f_x3_0 f_x3_1 f_x3_2 f_x3_3 f_x3_4 f_x3_5 x_z3 z_z3 c_z3_0 c_z3_1 c_z3_2 c_z3_3 c_z3_4 c_z3_5 f_z3_0 f_z3_1 f_z3_2 f_z3_3 f_z3_4 f_z3_5
    go_wp2_with fail
    refine (alive03_any _).mono ?_
    rintro e w5 ⟨rfl, hb⟩
    have hB5 : Below w.heap.size w w5 := below_thru (by go_grown) hb
    have hs5 : w.heap.size ≤ w5.heap.size := hB5.size
    have x_x5 : Box w5 (w.heap.size) [.int .i64 bu, .int .i64 ra, .int .i64 pe, .int .i64 le, .int .i64 pt, .int .u64 a] := (by refine Box.below ?_ hb; repeat (first | (with_reducible assumption) | (with_reducible refine Box.drew ?_) | (with_reducible refine Box.drewN ?_ _) | ((with_reducible refine Box.new ?_); simp; done) | (with_reducible apply Box.set2) | ((with_reducible apply Box.put); (with_reducible assumption); rfl) | (with_reducible refine Box.alloc ?_ _) | (with_reducible refine Box.other ?_ (by first | (dsimp only; omega) | omega) _)))
    have z_x5 := x_x5.lt
    have c_x5_0 := x_x5.c 0 _ rfl
    have f_x5_0 := x_x5.f 0 _ rfl
    have c_x5_1 := x_x5.c 1 _ rfl
    have f_x5_1 := x_x5.f 1 _ rfl
    have c_x5_2 := x_x5.c 2 _ rfl
    have f_x5_2 := x_x5.f 2 _ rfl
    have c_x5_3 := x_x5.c 3 _ rfl
    have f_x5_3 := x_x5.f 3 _ rfl
    have c_x5_4 := x_x5.c 4 _ rfl
    have f_x5_4 := x_x5.f 4 _ rfl
    have c_x5_5 := x_x5.c 5 _ rfl
    have f_x5_5 := x_x5.f 5 _ rfl
    have x_z5 : Box w5 (w.heap.size + 1) [.int .i64 bu, .int .i64 ra, .int .i64 pe, .int .i64 le2, .int .i64 pt2, .int .u64 a] := (by refine Box.below ?_ hb; repeat (first | (with_reducible assumption) | (with_reducible refine Box.drew ?_) | (with_reducible refine Box.drewN ?_ _) | ((with_reducible refine Box.new ?_); simp; done) | (with_reducible apply Box.set2) | ((with_reducible apply Box.put); (with_reducible assumption); rfl) | (with_reducible refine Box.alloc ?_ _) | (with_reducible refine Box.other ?_ (by first | (dsimp only; omega) | omega) _)))
    have z_z5 := x_z5.lt
    have c_z5_0 := x_z5.c 0 _ rfl
    have f_z5_0 := x_z5.f 0 _ rfl
    have c_z5_1 := x_z5.c 1 _ rfl
    have f_z5_1 := x_z5.f 1 _ rfl
    have c_z5_2 := x_z5.c 2 _ rfl
    have f_z5_2 := x_z5.f 2 _ rfl
    have c_z5_3 := x_z5.c 3 _ rfl
    have f_z5_3 := x_z5.f 3 _ rfl
    have c_z5_4 := x_z5.c 4 _ rfl
    have f_z5_4 := x_z5.f 4 _ rfl
    have c_z5_5 := x_z5.c 5 _ rfl
    have f_z5_5 := x_z5.f 5 _ rfl
    have t5 := hb.size
    try simp at t5
    clear hb hB4 hs4 x_x4 z_x4 c_x4_0 c_x4_1 c_x4_2 c_x4_3 c_x4_4 c_x4_5 f_x4_0 f_x4_1 f_x4_2 f_x4_3 f_x4_4 f_x4_5 x_z4 z_z4 c_z4_0 c_z4_1 c_z4_2 c_z4_3 c_z4_4 c_z4_5 f_z4_0 f_z4_1 f_z4_2 f_z4_3 f_z4_4 f_z4_5
    go_wp2_with fail
    go_returns
    exact ⟨rfl, by go_grown⟩

set_option maxRecDepth 100000 in
set_option maxHeartbeats 6400000 in
theorem more_long {bu ra pe le pt a bu2 ra2 pe2 le2 pt2 a2 : Int} {at0 at1 : Option Addr} {cap cap1 : Nat} {ts cs : List Int} (w : World) (hi : Ints w .u64 at0 cap ts) (hj : Ints w .i64 at1 cap1 cs) (h : Hid (bucE bu ra pe le pt = 0)) (h2 : Hid (bucE bu ra pe le2 pt2 = 0)) (h3 : Hid (moreB le2 pt2 le pt = true)) (hl : 30 < ts.length) :
    Calls Try.prog 3 #[.agg #[.int .i64 bu, .int .i64 ra, .int .i64 pe, .int .i64 le, .int .i64 pt, .int .u64 a], .agg #[.int .i64 bu2, .int .i64 ra2, .int .i64 pe2, .int .i64 le2, .int .i64 pt2, .int .u64 a2], .slice at0 ts.length cap, .slice at1 cs.length cap1] w fun e w' => e = .returned (.bool true) ∧ Below w.heap.size w w' := by
  have i1 := hi.room
  have i2 := hi.most
  have i3 := hj.room
  have i4 := hj.most
  have d1 : decide ((30 : Int) < (ts.length : Int)) = true := decide_eq_true (by omega)
  go_enter Try.func3, Try.ntmps3
  go_upto_region 1 with fail
  go_cut [] (fun  wx => Box wx (w.heap.size) [.int .i64 bu, .int .i64 ra, .int .i64 pe, .int .i64 le, .int .i64 pt, .int .u64 a] ∧ Box wx (w.heap.size + 1) [.int .i64 bu, .int .i64 ra, .int .i64 pe, .int .i64 le2, .int .i64 pt2, .int .u64 a] ∧ Below w.heap.size w wx)
  case first =>
    go_region_held3 (fun w' => w'.cell? ⟨w.heap.size, 0, none⟩ = some (.int .i64 bu) ∧ w'.cell? ⟨w.heap.size, 1, none⟩ = some (.int .i64 ra) ∧ w'.cell? ⟨w.heap.size, 2, none⟩ = some (.int .i64 pe) ∧ w'.cell? ⟨w.heap.size, 5, none⟩ = some (.int .u64 a)) (((repeat' apply And.intro) <;> (first | (go_keep; done) | go_cell)))
      (fail)
    all_goals
      go_wp2_with fail
      go_meet
      refine ⟨?_, ?_, ?_⟩
      all_goals first
        | ((repeat (first | (with_reducible apply put6) | (with_reducible refine other6 ?_ (by first | (dsimp only; omega) | omega) _ _ _ _ _ _) | (with_reducible assumption) | (with_reducible refine Box.drew ?_) | (with_reducible refine Box.drewN ?_ _) | ((with_reducible refine Box.new ?_); simp; done) | (with_reducible apply Box.set2) | (with_reducible refine Box.alloc ?_ _) | (with_reducible refine Box.other ?_ (by first | (dsimp only; omega) | omega) _))); done)
        | (go_grown; done)
  case rest =>
    obtain ⟨x_x1, x_z1, hB1⟩ := hcut
    obtain ⟨w1, rfl⟩ : ∃ u : World, u = wc := ⟨_, rfl⟩
    have hs1 : w.heap.size ≤ w1.heap.size := hB1.size
    have z_x1 := x_x1.lt
    have c_x1_0 := x_x1.c 0 _ rfl; have f_x1_0 := x_x1.f 0 _ rfl
    have c_x1_1 := x_x1.c 1 _ rfl; have f_x1_1 := x_x1.f 1 _ rfl
    have c_x1_2 := x_x1.c 2 _ rfl; have f_x1_2 := x_x1.f 2 _ rfl
    have c_x1_3 := x_x1.c 3 _ rfl; have f_x1_3 := x_x1.f 3 _ rfl
    have c_x1_4 := x_x1.c 4 _ rfl; have f_x1_4 := x_x1.f 4 _ rfl
    have c_x1_5 := x_x1.c 5 _ rfl; have f_x1_5 := x_x1.f 5 _ rfl
    have z_z1 := x_z1.lt
    have c_z1_0 := x_z1.c 0 _ rfl; have f_z1_0 := x_z1.f 0 _ rfl
    have c_z1_1 := x_z1.c 1 _ rfl; have f_z1_1 := x_z1.f 1 _ rfl
    have c_z1_2 := x_z1.c 2 _ rfl; have f_z1_2 := x_z1.f 2 _ rfl
    have c_z1_3 := x_z1.c 3 _ rfl; have f_z1_3 := x_z1.f 3 _ rfl
    have c_z1_4 := x_z1.c 4 _ rfl; have f_z1_4 := x_z1.f 4 _ rfl
    have c_z1_5 := x_z1.c 5 _ rfl; have f_z1_5 := x_z1.f 5 _ rfl
    go_wp2_with fail
    refine (rcheck_is h _).mono ?_
    rintro e w2 ⟨rfl, hb⟩
    have hB2 : Below w.heap.size w w2 := below_thru (by go_grown) hb
    have hs2 : w.heap.size ≤ w2.heap.size := hB2.size
    have x_x2 : Box w2 (w.heap.size) [.int .i64 bu, .int .i64 ra, .int .i64 pe, .int .i64 le, .int .i64 pt, .int .u64 a] := (by refine Box.below ?_ hb; repeat (first | (with_reducible assumption) | (with_reducible refine Box.drew ?_) | (with_reducible refine Box.drewN ?_ _) | ((with_reducible refine Box.new ?_); simp; done) | (with_reducible apply Box.set2) | ((with_reducible apply Box.put); (with_reducible assumption); rfl) | (with_reducible refine Box.alloc ?_ _) | (with_reducible refine Box.other ?_ (by first | (dsimp only; omega) | omega) _)))
    have z_x2 := x_x2.lt
    have c_x2_0 := x_x2.c 0 _ rfl
    have f_x2_0 := x_x2.f 0 _ rfl
    have c_x2_1 := x_x2.c 1 _ rfl
    have f_x2_1 := x_x2.f 1 _ rfl
    have c_x2_2 := x_x2.c 2 _ rfl
    have f_x2_2 := x_x2.f 2 _ rfl
    have c_x2_3 := x_x2.c 3 _ rfl
    have f_x2_3 := x_x2.f 3 _ rfl
    have c_x2_4 := x_x2.c 4 _ rfl
    have f_x2_4 := x_x2.f 4 _ rfl
    have c_x2_5 := x_x2.c 5 _ rfl
    have f_x2_5 := x_x2.f 5 _ rfl
    have x_z2 : Box w2 (w.heap.size + 1) [.int .i64 bu, .int .i64 ra, .int .i64 pe, .int .i64 le2, .int .i64 pt2, .int .u64 a] := (by refine Box.below ?_ hb; repeat (first | (with_reducible assumption) | (with_reducible refine Box.drew ?_) | (with_reducible refine Box.drewN ?_ _) | ((with_reducible refine Box.new ?_); simp; done) | (with_reducible apply Box.set2) | ((with_reducible apply Box.put); (with_reducible assumption); rfl) | (with_reducible refine Box.alloc ?_ _) | (with_reducible refine Box.other ?_ (by first | (dsimp only; omega) | omega) _)))
    have z_z2 := x_z2.lt
    have c_z2_0 := x_z2.c 0 _ rfl
    have f_z2_0 := x_z2.f 0 _ rfl
    have c_z2_1 := x_z2.c 1 _ rfl
    have f_z2_1 := x_z2.f 1 _ rfl
    have c_z2_2 := x_z2.c 2 _ rfl
    have f_z2_2 := x_z2.f 2 _ rfl
    have c_z2_3 := x_z2.c 3 _ rfl
    have f_z2_3 := x_z2.f 3 _ rfl
    have c_z2_4 := x_z2.c 4 _ rfl
    have f_z2_4 := x_z2.f 4 _ rfl
    have c_z2_5 := x_z2.c 5 _ rfl
    have f_z2_5 := x_z2.f 5 _ rfl
    have t2 := hb.size
    try simp at t2
    clear hb hB1 hs1 x_x1 z_x1 c_x1_0 c_x1_1 c_x1_2 c_x1_3 c_x1_4 c_x1_5 f_x1_0 f_x1_1 f_x1_2 f_x1_3 f_x1_4 f_x1_5 x_z1 z_z1 c_z1_0 c_z1_1 c_z1_2 c_z1_3 c_z1_4 c_z1_5 f_z1_0 f_z1_1 f_z1_2 f_z1_3 f_z1_4 f_z1_5
    go_wp2_with fail
    refine (rcheck_is h2 _).mono ?_
    rintro e w3 ⟨rfl, hb⟩
    have hB3 : Below w.heap.size w w3 := below_thru (by go_grown) hb
    have hs3 : w.heap.size ≤ w3.heap.size := hB3.size
    have x_x3 : Box w3 (w.heap.size) [.int .i64 bu, .int .i64 ra, .int .i64 pe, .int .i64 le, .int .i64 pt, .int .u64 a] := (by refine Box.below ?_ hb; repeat (first | (with_reducible assumption) | (with_reducible refine Box.drew ?_) | (with_reducible refine Box.drewN ?_ _) | ((with_reducible refine Box.new ?_); simp; done) | (with_reducible apply Box.set2) | ((with_reducible apply Box.put); (with_reducible assumption); rfl) | (with_reducible refine Box.alloc ?_ _) | (with_reducible refine Box.other ?_ (by first | (dsimp only; omega) | omega) _)))
    have z_x3 := x_x3.lt
    have c_x3_0 := x_x3.c 0 _ rfl
    have f_x3_0 := x_x3.f 0 _ rfl
    have c_x3_1 := x_x3.c 1 _ rfl
    have f_x3_1 := x_x3.f 1 _ rfl
    have c_x3_2 := x_x3.c 2 _ rfl
    have f_x3_2 := x_x3.f 2 _ rfl
    have c_x3_3 := x_x3.c 3 _ rfl
    have f_x3_3 := x_x3.f 3 _ rfl
    have c_x3_4 := x_x3.c 4 _ rfl
    have f_x3_4 := x_x3.f 4 _ rfl
    have c_x3_5 := x_x3.c 5 _ rfl
    have f_x3_5 := x_x3.f 5 _ rfl
    have x_z3 : Box w3 (w.heap.size + 1) [.int .i64 bu, .int .i64 ra, .int .i64 pe, .int .i64 le2, .int .i64 pt2, .int .u64 a] := (by refine Box.below ?_ hb; repeat (first | (with_reducible assumption) | (with_reducible refine Box.drew ?_) | (with_reducible refine Box.drewN ?_ _) | ((with_reducible refine Box.new ?_); simp; done) | (with_reducible apply Box.set2) | ((with_reducible apply Box.put); (with_reducible assumption); rfl) | (with_reducible refine Box.alloc ?_ _) | (with_reducible refine Box.other ?_ (by first | (dsimp only; omega) | omega) _)))
    have z_z3 := x_z3.lt
    have c_z3_0 := x_z3.c 0 _ rfl
    have f_z3_0 := x_z3.f 0 _ rfl
    have c_z3_1 := x_z3.c 1 _ rfl
    have f_z3_1 := x_z3.f 1 _ rfl
    have c_z3_2 := x_z3.c 2 _ rfl
    have f_z3_2 := x_z3.f 2 _ rfl
    have c_z3_3 := x_z3.c 3 _ rfl
    have f_z3_3 := x_z3.f 3 _ rfl
    have c_z3_4 := x_z3.c 4 _ rfl
    have f_z3_4 := x_z3.f 4 _ rfl
    have c_z3_5 := x_z3.c 5 _ rfl
    have f_z3_5 := x_z3.f 5 _ rfl
    have t3 := hb.size
    try simp at t3
    clear hb hB2 hs2 x_x2 z_x2 c_x2_0 c_x2_1 c_x2_2 c_x2_3 c_x2_4 c_x2_5 f_x2_0 f_x2_1 f_x2_2 f_x2_3 f_x2_4 f_x2_5 x_z2 z_z2 c_z2_0 c_z2_1 c_z2_2 c_z2_3 c_z2_4 c_z2_5 f_z2_0 f_z2_1 f_z2_2 f_z2_3 f_z2_4 f_z2_5
    go_wp2_with fail
    refine (more_is h3 _).mono ?_
    rintro e w4 ⟨rfl, hb⟩
    have hB4 : Below w.heap.size w w4 := below_thru (by go_grown) hb
    have hs4 : w.heap.size ≤ w4.heap.size := hB4.size
    have x_x4 : Box w4 (w.heap.size) [.int .i64 bu, .int .i64 ra, .int .i64 pe, .int .i64 le, .int .i64 pt, .int .u64 a] := (by refine Box.below ?_ hb; repeat (first | (with_reducible assumption) | (with_reducible refine Box.drew ?_) | (with_reducible refine Box.drewN ?_ _) | ((with_reducible refine Box.new ?_); simp; done) | (with_reducible apply Box.set2) | ((with_reducible apply Box.put); (with_reducible assumption); rfl) | (with_reducible refine Box.alloc ?_ _) | (with_reducible refine Box.other ?_ (by first | (dsimp only; omega) | omega) _)))
    have z_x4 := x_x4.lt
    have c_x4_0 := x_x4.c 0 _ rfl
    have f_x4_0 := x_x4.f 0 _ rfl
    have c_x4_1 := x_x4.c 1 _ rfl
    have f_x4_1 := x_x4.f 1 _ rfl
    have c_x4_2 := x_x4.c 2 _ rfl
    have f_x4_2 := x_x4.f 2 _ rfl
    have c_x4_3 := x_x4.c 3 _ rfl
    have f_x4_3 := x_x4.f 3 _ rfl
    have c_x4_4 := x_x4.c 4 _ rfl
    have f_x4_4 := x_x4.f 4 _ rfl
    have c_x4_5 := x_x4.c 5 _ rfl
    have f_x4_5 := x_x4.f 5 _ rfl
    have x_z4 : Box w4 (w.heap.size + 1) [.int .i64 bu, .int .i64 ra, .int .i64 pe, .int .i64 le2, .int .i64 pt2, .int .u64 a] := (by refine Box.below ?_ hb; repeat (first | (with_reducible assumption) | (with_reducible refine Box.drew ?_) | (with_reducible refine Box.drewN ?_ _) | ((with_reducible refine Box.new ?_); simp; done) | (with_reducible apply Box.set2) | ((with_reducible apply Box.put); (with_reducible assumption); rfl) | (with_reducible refine Box.alloc ?_ _) | (with_reducible refine Box.other ?_ (by first | (dsimp only; omega) | omega) _)))
    have z_z4 := x_z4.lt
    have c_z4_0 := x_z4.c 0 _ rfl
    have f_z4_0 := x_z4.f 0 _ rfl
    have c_z4_1 := x_z4.c 1 _ rfl
    have f_z4_1 := x_z4.f 1 _ rfl
    have c_z4_2 := x_z4.c 2 _ rfl
    have f_z4_2 := x_z4.f 2 _ rfl
    have c_z4_3 := x_z4.c 3 _ rfl
    have f_z4_3 := x_z4.f 3 _ rfl
    have c_z4_4 := x_z4.c 4 _ rfl
    have f_z4_4 := x_z4.f 4 _ rfl
    have c_z4_5 := x_z4.c 5 _ rfl
    have f_z4_5 := x_z4.f 5 _ rfl
    have t4 := hb.size
    try simp at t4
    clear hb hB3 hs3 x_x3 z_x3 c_x3_0 c_x3_1 c_x3_2 c_x3_3 c_x3_4 c_x3_5 f_x3_0 f_x3_1 f_x3_2 f_x3_3 f_x3_4 f_x3_5 x_z3 z_z3 c_z3_0 c_z3_1 c_z3_2 c_z3_3 c_z3_4 c_z3_5 f_z3_0 f_z3_1 f_z3_2 f_z3_3 f_z3_4 f_z3_5
    go_wp2_with fail
    refine (alive03_any _).mono ?_
    rintro e w5 ⟨rfl, hb⟩
    have hB5 : Below w.heap.size w w5 := below_thru (by go_grown) hb
    have hs5 : w.heap.size ≤ w5.heap.size := hB5.size
    have x_x5 : Box w5 (w.heap.size) [.int .i64 bu, .int .i64 ra, .int .i64 pe, .int .i64 le, .int .i64 pt, .int .u64 a] := (by refine Box.below ?_ hb; repeat (first | (with_reducible assumption) | (with_reducible refine Box.drew ?_) | (with_reducible refine Box.drewN ?_ _) | ((with_reducible refine Box.new ?_); simp; done) | (with_reducible apply Box.set2) | ((with_reducible apply Box.put); (with_reducible assumption); rfl) | (with_reducible refine Box.alloc ?_ _) | (with_reducible refine Box.other ?_ (by first | (dsimp only; omega) | omega) _)))
    have z_x5 := x_x5.lt
    have c_x5_0 := x_x5.c 0 _ rfl
    have f_x5_0 := x_x5.f 0 _ rfl
    have c_x5_1 := x_x5.c 1 _ rfl
    have f_x5_1 := x_x5.f 1 _ rfl
    have c_x5_2 := x_x5.c 2 _ rfl
    have f_x5_2 := x_x5.f 2 _ rfl
    have c_x5_3 := x_x5.c 3 _ rfl
    have f_x5_3 := x_x5.f 3 _ rfl
    have c_x5_4 := x_x5.c 4 _ rfl
    have f_x5_4 := x_x5.f 4 _ rfl
    have c_x5_5 := x_x5.c 5 _ rfl
    have f_x5_5 := x_x5.f 5 _ rfl
    have x_z5 : Box w5 (w.heap.size + 1) [.int .i64 bu, .int .i64 ra, .int .i64 pe, .int .i64 le2, .int .i64 pt2, .int .u64 a] := (by refine Box.below ?_ hb; repeat (first | (with_reducible assumption) | (with_reducible refine Box.drew ?_) | (with_reducible refine Box.drewN ?_ _) | ((with_reducible refine Box.new ?_); simp; done) | (with_reducible apply Box.set2) | ((with_reducible apply Box.put); (with_reducible assumption); rfl) | (with_reducible refine Box.alloc ?_ _) | (with_reducible refine Box.other ?_ (by first | (dsimp only; omega) | omega) _)))
    have z_z5 := x_z5.lt
    have c_z5_0 := x_z5.c 0 _ rfl
    have f_z5_0 := x_z5.f 0 _ rfl
    have c_z5_1 := x_z5.c 1 _ rfl
    have f_z5_1 := x_z5.f 1 _ rfl
    have c_z5_2 := x_z5.c 2 _ rfl
    have f_z5_2 := x_z5.f 2 _ rfl
    have c_z5_3 := x_z5.c 3 _ rfl
    have f_z5_3 := x_z5.f 3 _ rfl
    have c_z5_4 := x_z5.c 4 _ rfl
    have f_z5_4 := x_z5.f 4 _ rfl
    have c_z5_5 := x_z5.c 5 _ rfl
    have f_z5_5 := x_z5.f 5 _ rfl
    have t5 := hb.size
    try simp at t5
    clear hb hB4 hs4 x_x4 z_x4 c_x4_0 c_x4_1 c_x4_2 c_x4_3 c_x4_4 c_x4_5 f_x4_0 f_x4_1 f_x4_2 f_x4_3 f_x4_4 f_x4_5 x_z4 z_z4 c_z4_0 c_z4_1 c_z4_2 c_z4_3 c_z4_4 c_z4_5 f_z4_0 f_z4_1 f_z4_2 f_z4_3 f_z4_4 f_z4_5
    go_wp2_with fail
    go_returns
    exact ⟨rfl, by go_grown⟩

set_option maxRecDepth 100000 in
set_option maxHeartbeats 6400000 in
theorem more_few {bu ra pe le pt a bu2 ra2 pe2 le2 pt2 a2 : Int} {at0 at1 : Option Addr} {cap cap1 : Nat} {ts cs : List Int} (w : World) (hi : Ints w .u64 at0 cap ts) (hj : Ints w .i64 at1 cap1 cs) (h : Hid (bucE bu ra pe le pt = 0)) (h2 : Hid (bucE bu ra pe le2 pt2 = 0)) (h3 : Hid (moreB le2 pt2 le pt = true)) (hl : ts.length ≤ 30) (hm : cs.length < ts.length) :
    Calls Try.prog 3 #[.agg #[.int .i64 bu, .int .i64 ra, .int .i64 pe, .int .i64 le, .int .i64 pt, .int .u64 a], .agg #[.int .i64 bu2, .int .i64 ra2, .int .i64 pe2, .int .i64 le2, .int .i64 pt2, .int .u64 a2], .slice at0 ts.length cap, .slice at1 cs.length cap1] w fun e w' => e = .returned (.bool true) ∧ Below w.heap.size w w' := by
  have i1 := hi.room
  have i2 := hi.most
  have i3 := hj.room
  have i4 := hj.most
  have d1 : decide ((30 : Int) < (ts.length : Int)) = false := decide_eq_false (by omega)
  have d2 : decide ((cs.length : Int) < (ts.length : Int)) = true := decide_eq_true (by omega)
  go_enter Try.func3, Try.ntmps3
  go_upto_region 1 with fail
  go_cut [] (fun  wx => Box wx (w.heap.size) [.int .i64 bu, .int .i64 ra, .int .i64 pe, .int .i64 le, .int .i64 pt, .int .u64 a] ∧ Box wx (w.heap.size + 1) [.int .i64 bu, .int .i64 ra, .int .i64 pe, .int .i64 le2, .int .i64 pt2, .int .u64 a] ∧ Below w.heap.size w wx)
  case first =>
    go_region_held3 (fun w' => w'.cell? ⟨w.heap.size, 0, none⟩ = some (.int .i64 bu) ∧ w'.cell? ⟨w.heap.size, 1, none⟩ = some (.int .i64 ra) ∧ w'.cell? ⟨w.heap.size, 2, none⟩ = some (.int .i64 pe) ∧ w'.cell? ⟨w.heap.size, 5, none⟩ = some (.int .u64 a)) (((repeat' apply And.intro) <;> (first | (go_keep; done) | go_cell)))
      (fail)
    all_goals
      go_wp2_with fail
      go_meet
      refine ⟨?_, ?_, ?_⟩
      all_goals first
        | ((repeat (first | (with_reducible apply put6) | (with_reducible refine other6 ?_ (by first | (dsimp only; omega) | omega) _ _ _ _ _ _) | (with_reducible assumption) | (with_reducible refine Box.drew ?_) | (with_reducible refine Box.drewN ?_ _) | ((with_reducible refine Box.new ?_); simp; done) | (with_reducible apply Box.set2) | (with_reducible refine Box.alloc ?_ _) | (with_reducible refine Box.other ?_ (by first | (dsimp only; omega) | omega) _))); done)
        | (go_grown; done)
  case rest =>
    obtain ⟨x_x1, x_z1, hB1⟩ := hcut
    obtain ⟨w1, rfl⟩ : ∃ u : World, u = wc := ⟨_, rfl⟩
    have hs1 : w.heap.size ≤ w1.heap.size := hB1.size
    have z_x1 := x_x1.lt
    have c_x1_0 := x_x1.c 0 _ rfl; have f_x1_0 := x_x1.f 0 _ rfl
    have c_x1_1 := x_x1.c 1 _ rfl; have f_x1_1 := x_x1.f 1 _ rfl
    have c_x1_2 := x_x1.c 2 _ rfl; have f_x1_2 := x_x1.f 2 _ rfl
    have c_x1_3 := x_x1.c 3 _ rfl; have f_x1_3 := x_x1.f 3 _ rfl
    have c_x1_4 := x_x1.c 4 _ rfl; have f_x1_4 := x_x1.f 4 _ rfl
    have c_x1_5 := x_x1.c 5 _ rfl; have f_x1_5 := x_x1.f 5 _ rfl
    have z_z1 := x_z1.lt
    have c_z1_0 := x_z1.c 0 _ rfl; have f_z1_0 := x_z1.f 0 _ rfl
    have c_z1_1 := x_z1.c 1 _ rfl; have f_z1_1 := x_z1.f 1 _ rfl
    have c_z1_2 := x_z1.c 2 _ rfl; have f_z1_2 := x_z1.f 2 _ rfl
    have c_z1_3 := x_z1.c 3 _ rfl; have f_z1_3 := x_z1.f 3 _ rfl
    have c_z1_4 := x_z1.c 4 _ rfl; have f_z1_4 := x_z1.f 4 _ rfl
    have c_z1_5 := x_z1.c 5 _ rfl; have f_z1_5 := x_z1.f 5 _ rfl
    go_wp2_with fail
    refine (rcheck_is h _).mono ?_
    rintro e w2 ⟨rfl, hb⟩
    have hB2 : Below w.heap.size w w2 := below_thru (by go_grown) hb
    have hs2 : w.heap.size ≤ w2.heap.size := hB2.size
    have x_x2 : Box w2 (w.heap.size) [.int .i64 bu, .int .i64 ra, .int .i64 pe, .int .i64 le, .int .i64 pt, .int .u64 a] := (by refine Box.below ?_ hb; repeat (first | (with_reducible assumption) | (with_reducible refine Box.drew ?_) | (with_reducible refine Box.drewN ?_ _) | ((with_reducible refine Box.new ?_); simp; done) | (with_reducible apply Box.set2) | ((with_reducible apply Box.put); (with_reducible assumption); rfl) | (with_reducible refine Box.alloc ?_ _) | (with_reducible refine Box.other ?_ (by first | (dsimp only; omega) | omega) _)))
    have z_x2 := x_x2.lt
    have c_x2_0 := x_x2.c 0 _ rfl
    have f_x2_0 := x_x2.f 0 _ rfl
    have c_x2_1 := x_x2.c 1 _ rfl
    have f_x2_1 := x_x2.f 1 _ rfl
    have c_x2_2 := x_x2.c 2 _ rfl
    have f_x2_2 := x_x2.f 2 _ rfl
    have c_x2_3 := x_x2.c 3 _ rfl
    have f_x2_3 := x_x2.f 3 _ rfl
    have c_x2_4 := x_x2.c 4 _ rfl
    have f_x2_4 := x_x2.f 4 _ rfl
    have c_x2_5 := x_x2.c 5 _ rfl
    have f_x2_5 := x_x2.f 5 _ rfl
    have x_z2 : Box w2 (w.heap.size + 1) [.int .i64 bu, .int .i64 ra, .int .i64 pe, .int .i64 le2, .int .i64 pt2, .int .u64 a] := (by refine Box.below ?_ hb; repeat (first | (with_reducible assumption) | (with_reducible refine Box.drew ?_) | (with_reducible refine Box.drewN ?_ _) | ((with_reducible refine Box.new ?_); simp; done) | (with_reducible apply Box.set2) | ((with_reducible apply Box.put); (with_reducible assumption); rfl) | (with_reducible refine Box.alloc ?_ _) | (with_reducible refine Box.other ?_ (by first | (dsimp only; omega) | omega) _)))
    have z_z2 := x_z2.lt
    have c_z2_0 := x_z2.c 0 _ rfl
    have f_z2_0 := x_z2.f 0 _ rfl
    have c_z2_1 := x_z2.c 1 _ rfl
    have f_z2_1 := x_z2.f 1 _ rfl
    have c_z2_2 := x_z2.c 2 _ rfl
    have f_z2_2 := x_z2.f 2 _ rfl
    have c_z2_3 := x_z2.c 3 _ rfl
    have f_z2_3 := x_z2.f 3 _ rfl
    have c_z2_4 := x_z2.c 4 _ rfl
    have f_z2_4 := x_z2.f 4 _ rfl
    have c_z2_5 := x_z2.c 5 _ rfl
    have f_z2_5 := x_z2.f 5 _ rfl
    have t2 := hb.size
    try simp at t2
    clear hb hB1 hs1 x_x1 z_x1 c_x1_0 c_x1_1 c_x1_2 c_x1_3 c_x1_4 c_x1_5 f_x1_0 f_x1_1 f_x1_2 f_x1_3 f_x1_4 f_x1_5 x_z1 z_z1 c_z1_0 c_z1_1 c_z1_2 c_z1_3 c_z1_4 c_z1_5 f_z1_0 f_z1_1 f_z1_2 f_z1_3 f_z1_4 f_z1_5
    go_wp2_with fail
    refine (rcheck_is h2 _).mono ?_
    rintro e w3 ⟨rfl, hb⟩
    have hB3 : Below w.heap.size w w3 := below_thru (by go_grown) hb
    have hs3 : w.heap.size ≤ w3.heap.size := hB3.size
    have x_x3 : Box w3 (w.heap.size) [.int .i64 bu, .int .i64 ra, .int .i64 pe, .int .i64 le, .int .i64 pt, .int .u64 a] := (by refine Box.below ?_ hb; repeat (first | (with_reducible assumption) | (with_reducible refine Box.drew ?_) | (with_reducible refine Box.drewN ?_ _) | ((with_reducible refine Box.new ?_); simp; done) | (with_reducible apply Box.set2) | ((with_reducible apply Box.put); (with_reducible assumption); rfl) | (with_reducible refine Box.alloc ?_ _) | (with_reducible refine Box.other ?_ (by first | (dsimp only; omega) | omega) _)))
    have z_x3 := x_x3.lt
    have c_x3_0 := x_x3.c 0 _ rfl
    have f_x3_0 := x_x3.f 0 _ rfl
    have c_x3_1 := x_x3.c 1 _ rfl
    have f_x3_1 := x_x3.f 1 _ rfl
    have c_x3_2 := x_x3.c 2 _ rfl
    have f_x3_2 := x_x3.f 2 _ rfl
    have c_x3_3 := x_x3.c 3 _ rfl
    have f_x3_3 := x_x3.f 3 _ rfl
    have c_x3_4 := x_x3.c 4 _ rfl
    have f_x3_4 := x_x3.f 4 _ rfl
    have c_x3_5 := x_x3.c 5 _ rfl
    have f_x3_5 := x_x3.f 5 _ rfl
    have x_z3 : Box w3 (w.heap.size + 1) [.int .i64 bu, .int .i64 ra, .int .i64 pe, .int .i64 le2, .int .i64 pt2, .int .u64 a] := (by refine Box.below ?_ hb; repeat (first | (with_reducible assumption) | (with_reducible refine Box.drew ?_) | (with_reducible refine Box.drewN ?_ _) | ((with_reducible refine Box.new ?_); simp; done) | (with_reducible apply Box.set2) | ((with_reducible apply Box.put); (with_reducible assumption); rfl) | (with_reducible refine Box.alloc ?_ _) | (with_reducible refine Box.other ?_ (by first | (dsimp only; omega) | omega) _)))
    have z_z3 := x_z3.lt
    have c_z3_0 := x_z3.c 0 _ rfl
    have f_z3_0 := x_z3.f 0 _ rfl
    have c_z3_1 := x_z3.c 1 _ rfl
    have f_z3_1 := x_z3.f 1 _ rfl
    have c_z3_2 := x_z3.c 2 _ rfl
    have f_z3_2 := x_z3.f 2 _ rfl
    have c_z3_3 := x_z3.c 3 _ rfl
    have f_z3_3 := x_z3.f 3 _ rfl
    have c_z3_4 := x_z3.c 4 _ rfl
    have f_z3_4 := x_z3.f 4 _ rfl
    have c_z3_5 := x_z3.c 5 _ rfl
    have f_z3_5 := x_z3.f 5 _ rfl
    have t3 := hb.size
    try simp at t3
    clear hb hB2 hs2 x_x2 z_x2 c_x2_0 c_x2_1 c_x2_2 c_x2_3 c_x2_4 c_x2_5 f_x2_0 f_x2_1 f_x2_2 f_x2_3 f_x2_4 f_x2_5 x_z2 z_z2 c_z2_0 c_z2_1 c_z2_2 c_z2_3 c_z2_4 c_z2_5 f_z2_0 f_z2_1 f_z2_2 f_z2_3 f_z2_4 f_z2_5
    go_wp2_with fail
    refine (more_is h3 _).mono ?_
    rintro e w4 ⟨rfl, hb⟩
    have hB4 : Below w.heap.size w w4 := below_thru (by go_grown) hb
    have hs4 : w.heap.size ≤ w4.heap.size := hB4.size
    have x_x4 : Box w4 (w.heap.size) [.int .i64 bu, .int .i64 ra, .int .i64 pe, .int .i64 le, .int .i64 pt, .int .u64 a] := (by refine Box.below ?_ hb; repeat (first | (with_reducible assumption) | (with_reducible refine Box.drew ?_) | (with_reducible refine Box.drewN ?_ _) | ((with_reducible refine Box.new ?_); simp; done) | (with_reducible apply Box.set2) | ((with_reducible apply Box.put); (with_reducible assumption); rfl) | (with_reducible refine Box.alloc ?_ _) | (with_reducible refine Box.other ?_ (by first | (dsimp only; omega) | omega) _)))
    have z_x4 := x_x4.lt
    have c_x4_0 := x_x4.c 0 _ rfl
    have f_x4_0 := x_x4.f 0 _ rfl
    have c_x4_1 := x_x4.c 1 _ rfl
    have f_x4_1 := x_x4.f 1 _ rfl
    have c_x4_2 := x_x4.c 2 _ rfl
    have f_x4_2 := x_x4.f 2 _ rfl
    have c_x4_3 := x_x4.c 3 _ rfl
    have f_x4_3 := x_x4.f 3 _ rfl
    have c_x4_4 := x_x4.c 4 _ rfl
    have f_x4_4 := x_x4.f 4 _ rfl
    have c_x4_5 := x_x4.c 5 _ rfl
    have f_x4_5 := x_x4.f 5 _ rfl
    have x_z4 : Box w4 (w.heap.size + 1) [.int .i64 bu, .int .i64 ra, .int .i64 pe, .int .i64 le2, .int .i64 pt2, .int .u64 a] := (by refine Box.below ?_ hb; repeat (first | (with_reducible assumption) | (with_reducible refine Box.drew ?_) | (with_reducible refine Box.drewN ?_ _) | ((with_reducible refine Box.new ?_); simp; done) | (with_reducible apply Box.set2) | ((with_reducible apply Box.put); (with_reducible assumption); rfl) | (with_reducible refine Box.alloc ?_ _) | (with_reducible refine Box.other ?_ (by first | (dsimp only; omega) | omega) _)))
    have z_z4 := x_z4.lt
    have c_z4_0 := x_z4.c 0 _ rfl
    have f_z4_0 := x_z4.f 0 _ rfl
    have c_z4_1 := x_z4.c 1 _ rfl
    have f_z4_1 := x_z4.f 1 _ rfl
    have c_z4_2 := x_z4.c 2 _ rfl
    have f_z4_2 := x_z4.f 2 _ rfl
    have c_z4_3 := x_z4.c 3 _ rfl
    have f_z4_3 := x_z4.f 3 _ rfl
    have c_z4_4 := x_z4.c 4 _ rfl
    have f_z4_4 := x_z4.f 4 _ rfl
    have c_z4_5 := x_z4.c 5 _ rfl
    have f_z4_5 := x_z4.f 5 _ rfl
    have t4 := hb.size
    try simp at t4
    clear hb hB3 hs3 x_x3 z_x3 c_x3_0 c_x3_1 c_x3_2 c_x3_3 c_x3_4 c_x3_5 f_x3_0 f_x3_1 f_x3_2 f_x3_3 f_x3_4 f_x3_5 x_z3 z_z3 c_z3_0 c_z3_1 c_z3_2 c_z3_3 c_z3_4 c_z3_5 f_z3_0 f_z3_1 f_z3_2 f_z3_3 f_z3_4 f_z3_5
    go_wp2_with fail
    refine (alive03_any _).mono ?_
    rintro e w5 ⟨rfl, hb⟩
    have hB5 : Below w.heap.size w w5 := below_thru (by go_grown) hb
    have hs5 : w.heap.size ≤ w5.heap.size := hB5.size
    have x_x5 : Box w5 (w.heap.size) [.int .i64 bu, .int .i64 ra, .int .i64 pe, .int .i64 le, .int .i64 pt, .int .u64 a] := (by refine Box.below ?_ hb; repeat (first | (with_reducible assumption) | (with_reducible refine Box.drew ?_) | (with_reducible refine Box.drewN ?_ _) | ((with_reducible refine Box.new ?_); simp; done) | (with_reducible apply Box.set2) | ((with_reducible apply Box.put); (with_reducible assumption); rfl) | (with_reducible refine Box.alloc ?_ _) | (with_reducible refine Box.other ?_ (by first | (dsimp only; omega) | omega) _)))
    have z_x5 := x_x5.lt
    have c_x5_0 := x_x5.c 0 _ rfl
    have f_x5_0 := x_x5.f 0 _ rfl
    have c_x5_1 := x_x5.c 1 _ rfl
    have f_x5_1 := x_x5.f 1 _ rfl
    have c_x5_2 := x_x5.c 2 _ rfl
    have f_x5_2 := x_x5.f 2 _ rfl
    have c_x5_3 := x_x5.c 3 _ rfl
    have f_x5_3 := x_x5.f 3 _ rfl
    have c_x5_4 := x_x5.c 4 _ rfl
    have f_x5_4 := x_x5.f 4 _ rfl
    have c_x5_5 := x_x5.c 5 _ rfl
    have f_x5_5 := x_x5.f 5 _ rfl
    have x_z5 : Box w5 (w.heap.size + 1) [.int .i64 bu, .int .i64 ra, .int .i64 pe, .int .i64 le2, .int .i64 pt2, .int .u64 a] := (by refine Box.below ?_ hb; repeat (first | (with_reducible assumption) | (with_reducible refine Box.drew ?_) | (with_reducible refine Box.drewN ?_ _) | ((with_reducible refine Box.new ?_); simp; done) | (with_reducible apply Box.set2) | ((with_reducible apply Box.put); (with_reducible assumption); rfl) | (with_reducible refine Box.alloc ?_ _) | (with_reducible refine Box.other ?_ (by first | (dsimp only; omega) | omega) _)))
    have z_z5 := x_z5.lt
    have c_z5_0 := x_z5.c 0 _ rfl
    have f_z5_0 := x_z5.f 0 _ rfl
    have c_z5_1 := x_z5.c 1 _ rfl
    have f_z5_1 := x_z5.f 1 _ rfl
    have c_z5_2 := x_z5.c 2 _ rfl
    have f_z5_2 := x_z5.f 2 _ rfl
    have c_z5_3 := x_z5.c 3 _ rfl
    have f_z5_3 := x_z5.f 3 _ rfl
    have c_z5_4 := x_z5.c 4 _ rfl
    have f_z5_4 := x_z5.f 4 _ rfl
    have c_z5_5 := x_z5.c 5 _ rfl
    have f_z5_5 := x_z5.f 5 _ rfl
    have t5 := hb.size
    try simp at t5
    clear hb hB4 hs4 x_x4 z_x4 c_x4_0 c_x4_1 c_x4_2 c_x4_3 c_x4_4 c_x4_5 f_x4_0 f_x4_1 f_x4_2 f_x4_3 f_x4_4 f_x4_5 x_z4 z_z4 c_z4_0 c_z4_1 c_z4_2 c_z4_3 c_z4_4 c_z4_5 f_z4_0 f_z4_1 f_z4_2 f_z4_3 f_z4_4 f_z4_5
    go_wp2_with fail
    go_returns
    exact ⟨rfl, by go_grown⟩


end Go.Proofs.Ytmpcpflpcfanjaa
