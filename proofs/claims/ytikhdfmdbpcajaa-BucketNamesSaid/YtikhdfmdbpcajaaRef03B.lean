/-
  The reference of layer 3, walked: full buckets, charging, refilling.
-/
import Derived.Test.YtikhdfmdbpcajaaRef03
import Derived.Deep.RegionHeld3
import Derived.Deep.DeepCutAuto
import Derived.Deep.CutBlock
import Derived.Handy
namespace Go.Proofs.Ytikhdfmdbpcajaa
open Go.RowKit

set_option maxRecDepth 100000 in
set_option maxHeartbeats 1600000 in
theorem rfull_ok {b r p t : Int} (h : Hid (limE b r p = 0)) (w : World) :
    Calls Try.prog 21 #[.agg #[.int .i64 b, .int .i64 r, .int .i64 p], .int .u64 t] w fun e w' => e = .returned (.tuple #[.agg #[.int .i64 b, .int .i64 r, .int .i64 p, .int .i64 b, .int .i64 0, .int .u64 t], .int .i64 0]) ∧ Below w.heap.size w w' := by
  go_enter Try.func21, Try.ntmps21
  go_wp2_with fail
  refine (rlimit_is h _).mono ?_
  rintro e w1 ⟨rfl, hb⟩
  have hB1 : Below w.heap.size w w1 := below_thru (by go_grown) hb
  have hs1 : w.heap.size ≤ w1.heap.size := hB1.size
  have x_l1 : Box w1 (w.heap.size) [.int .i64 b, .int .i64 r, .int .i64 p] := (by refine Box.below ?_ hb; repeat (first | (with_reducible assumption) | (with_reducible refine Box.drew ?_) | (with_reducible refine Box.drewN ?_ _) | ((with_reducible refine Box.new ?_); simp; done) | (with_reducible apply Box.set2) | (with_reducible refine Box.alloc ?_ _) | (with_reducible refine Box.other ?_ (by first | (dsimp only; omega) | omega) _)))
  have z_l1 := x_l1.lt
  have c_l1_0 := x_l1.c 0 _ rfl
  have f_l1_0 := x_l1.f 0 _ rfl
  have c_l1_1 := x_l1.c 1 _ rfl
  have f_l1_1 := x_l1.f 1 _ rfl
  have c_l1_2 := x_l1.c 2 _ rfl
  have f_l1_2 := x_l1.f 2 _ rfl
  have x_z1 : Box w1 (w.heap.size + 1) [.int .i64 0, .int .i64 0, .int .i64 0, .int .i64 0, .int .i64 0, .int .u64 0] := (by refine Box.below ?_ hb; repeat (first | (with_reducible assumption) | (with_reducible refine Box.drew ?_) | (with_reducible refine Box.drewN ?_ _) | ((with_reducible refine Box.new ?_); simp; done) | (with_reducible apply Box.set2) | (with_reducible refine Box.alloc ?_ _) | (with_reducible refine Box.other ?_ (by first | (dsimp only; omega) | omega) _)))
  have z_z1 := x_z1.lt
  have c_z1_0 := x_z1.c 0 _ rfl
  have f_z1_0 := x_z1.f 0 _ rfl
  have c_z1_1 := x_z1.c 1 _ rfl
  have f_z1_1 := x_z1.f 1 _ rfl
  have c_z1_2 := x_z1.c 2 _ rfl
  have f_z1_2 := x_z1.f 2 _ rfl
  have c_z1_3 := x_z1.c 3 _ rfl
  have f_z1_3 := x_z1.f 3 _ rfl
  have c_z1_4 := x_z1.c 4 _ rfl
  have f_z1_4 := x_z1.f 4 _ rfl
  have c_z1_5 := x_z1.c 5 _ rfl
  have f_z1_5 := x_z1.f 5 _ rfl
  clear hb
  go_wp2_with fail
  refine bodyPost_ret (v := .tuple #[.agg #[.int .i64 b, .int .i64 r, .int .i64 p, .int .i64 b, .int .i64 0, .int .u64 t], .int .i64 0]) (by simp [results, Try.results21, go_sem, c_z1_0, c_z1_1, c_z1_2, c_z1_3, c_z1_4, c_z1_5]) rfl ⟨rfl, ?_⟩
  go_grown

set_option maxRecDepth 100000 in
set_option maxHeartbeats 1600000 in
theorem rfull_no {b r p t : Int} (h : Hid (limE b r p = 8)) (w : World) :
    Calls Try.prog 21 #[.agg #[.int .i64 b, .int .i64 r, .int .i64 p], .int .u64 t] w fun e w' => e = .returned (.tuple #[.agg #[.int .i64 0, .int .i64 0, .int .i64 0, .int .i64 0, .int .i64 0, .int .u64 0], .int .i64 8]) ∧ Below w.heap.size w w' := by
  go_enter Try.func21, Try.ntmps21
  go_wp2_with fail
  refine (rlimit_is h _).mono ?_
  rintro e w1 ⟨rfl, hb⟩
  have hB1 : Below w.heap.size w w1 := below_thru (by go_grown) hb
  have hs1 : w.heap.size ≤ w1.heap.size := hB1.size
  have x_l1 : Box w1 (w.heap.size) [.int .i64 b, .int .i64 r, .int .i64 p] := (by refine Box.below ?_ hb; repeat (first | (with_reducible assumption) | (with_reducible refine Box.drew ?_) | (with_reducible refine Box.drewN ?_ _) | ((with_reducible refine Box.new ?_); simp; done) | (with_reducible apply Box.set2) | (with_reducible refine Box.alloc ?_ _) | (with_reducible refine Box.other ?_ (by first | (dsimp only; omega) | omega) _)))
  have z_l1 := x_l1.lt
  have c_l1_0 := x_l1.c 0 _ rfl
  have f_l1_0 := x_l1.f 0 _ rfl
  have c_l1_1 := x_l1.c 1 _ rfl
  have f_l1_1 := x_l1.f 1 _ rfl
  have c_l1_2 := x_l1.c 2 _ rfl
  have f_l1_2 := x_l1.f 2 _ rfl
  have x_z1 : Box w1 (w.heap.size + 1) [.int .i64 0, .int .i64 0, .int .i64 0, .int .i64 0, .int .i64 0, .int .u64 0] := (by refine Box.below ?_ hb; repeat (first | (with_reducible assumption) | (with_reducible refine Box.drew ?_) | (with_reducible refine Box.drewN ?_ _) | ((with_reducible refine Box.new ?_); simp; done) | (with_reducible apply Box.set2) | (with_reducible refine Box.alloc ?_ _) | (with_reducible refine Box.other ?_ (by first | (dsimp only; omega) | omega) _)))
  have z_z1 := x_z1.lt
  have c_z1_0 := x_z1.c 0 _ rfl
  have f_z1_0 := x_z1.f 0 _ rfl
  have c_z1_1 := x_z1.c 1 _ rfl
  have f_z1_1 := x_z1.f 1 _ rfl
  have c_z1_2 := x_z1.c 2 _ rfl
  have f_z1_2 := x_z1.f 2 _ rfl
  have c_z1_3 := x_z1.c 3 _ rfl
  have f_z1_3 := x_z1.f 3 _ rfl
  have c_z1_4 := x_z1.c 4 _ rfl
  have f_z1_4 := x_z1.f 4 _ rfl
  have c_z1_5 := x_z1.c 5 _ rfl
  have f_z1_5 := x_z1.f 5 _ rfl
  clear hb
  go_wp2_with fail
  refine (rlimit_is h _).mono ?_
  rintro e w2 ⟨rfl, hb⟩
  have hB2 : Below w.heap.size w w2 := below_thru (by go_grown) hb
  have hs2 : w.heap.size ≤ w2.heap.size := hB2.size
  have x_l2 : Box w2 (w.heap.size) [.int .i64 b, .int .i64 r, .int .i64 p] := (by refine Box.below ?_ hb; repeat (first | (with_reducible assumption) | (with_reducible refine Box.drew ?_) | (with_reducible refine Box.drewN ?_ _) | ((with_reducible refine Box.new ?_); simp; done) | (with_reducible apply Box.set2) | (with_reducible refine Box.alloc ?_ _) | (with_reducible refine Box.other ?_ (by first | (dsimp only; omega) | omega) _)))
  have z_l2 := x_l2.lt
  have c_l2_0 := x_l2.c 0 _ rfl
  have f_l2_0 := x_l2.f 0 _ rfl
  have c_l2_1 := x_l2.c 1 _ rfl
  have f_l2_1 := x_l2.f 1 _ rfl
  have c_l2_2 := x_l2.c 2 _ rfl
  have f_l2_2 := x_l2.f 2 _ rfl
  have x_z2 : Box w2 (w.heap.size + 1) [.int .i64 0, .int .i64 0, .int .i64 0, .int .i64 0, .int .i64 0, .int .u64 0] := (by refine Box.below ?_ hb; repeat (first | (with_reducible assumption) | (with_reducible refine Box.drew ?_) | (with_reducible refine Box.drewN ?_ _) | ((with_reducible refine Box.new ?_); simp; done) | (with_reducible apply Box.set2) | (with_reducible refine Box.alloc ?_ _) | (with_reducible refine Box.other ?_ (by first | (dsimp only; omega) | omega) _)))
  have z_z2 := x_z2.lt
  have c_z2_0 := x_z2.c 0 _ rfl
  have f_z2_0 := x_z2.f 0 _ rfl
  have c_z2_1 := x_z2.c 1 _ rfl
  have f_z2_1 := x_z2.f 1 _ rfl
  have c_z2_2 := x_z2.c 2 _ rfl
  have f_z2_2 := x_z2.f 2 _ rfl
  have c_z2_3 := x_z2.c 3 _ rfl
  have f_z2_3 := x_z2.f 3 _ rfl
  have c_z2_4 := x_z2.c 4 _ rfl
  have f_z2_4 := x_z2.f 4 _ rfl
  have c_z2_5 := x_z2.c 5 _ rfl
  have f_z2_5 := x_z2.f 5 _ rfl
  clear hb hB1 hs1 x_l1 z_l1 c_l1_0 c_l1_1 c_l1_2 f_l1_0 f_l1_1 f_l1_2 x_z1 z_z1 c_z1_0 c_z1_1 c_z1_2 c_z1_3 c_z1_4 c_z1_5 f_z1_0 f_z1_1 f_z1_2 f_z1_3 f_z1_4 f_z1_5
  go_wp2_with fail
  refine bodyPost_ret (v := .tuple #[.agg #[.int .i64 0, .int .i64 0, .int .i64 0, .int .i64 0, .int .i64 0, .int .u64 0], .int .i64 8]) (by simp [results, Try.results21, go_sem, c_z2_0, c_z2_1, c_z2_2, c_z2_3, c_z2_4, c_z2_5]) rfl ⟨rfl, ?_⟩
  go_grown

set_option maxRecDepth 100000 in
set_option maxHeartbeats 1600000 in
theorem rcharge_bad {b r p l q a c : Int} (h : Hid (bucE b r p l q = 8)) (w : World) :
    Calls Try.prog 25 #[.agg #[.int .i64 b, .int .i64 r, .int .i64 p, .int .i64 l, .int .i64 q, .int .u64 a], .int .i64 c] w fun e w' => e = .returned (.tuple #[.agg #[.int .i64 0, .int .i64 0, .int .i64 0, .int .i64 0, .int .i64 0, .int .u64 0], .int .i64 8]) ∧ Below w.heap.size w w' := by
  go_enter Try.func25, Try.ntmps25
  go_wp2_with fail
  refine (rcheck_is h _).mono ?_
  rintro e w1 ⟨rfl, hb⟩
  have hB1 : Below w.heap.size w w1 := below_thru (by go_grown) hb
  have hs1 : w.heap.size ≤ w1.heap.size := hB1.size
  have x_l1 : Box w1 (w.heap.size) [.int .i64 b, .int .i64 r, .int .i64 p, .int .i64 l, .int .i64 q, .int .u64 a] := (by refine Box.below ?_ hb; repeat (first | (with_reducible assumption) | (with_reducible refine Box.drew ?_) | (with_reducible refine Box.drewN ?_ _) | ((with_reducible refine Box.new ?_); simp; done) | (with_reducible apply Box.set2) | (with_reducible refine Box.alloc ?_ _) | (with_reducible refine Box.other ?_ (by first | (dsimp only; omega) | omega) _)))
  have z_l1 := x_l1.lt
  have c_l1_0 := x_l1.c 0 _ rfl
  have f_l1_0 := x_l1.f 0 _ rfl
  have c_l1_1 := x_l1.c 1 _ rfl
  have f_l1_1 := x_l1.f 1 _ rfl
  have c_l1_2 := x_l1.c 2 _ rfl
  have f_l1_2 := x_l1.f 2 _ rfl
  have c_l1_3 := x_l1.c 3 _ rfl
  have f_l1_3 := x_l1.f 3 _ rfl
  have c_l1_4 := x_l1.c 4 _ rfl
  have f_l1_4 := x_l1.f 4 _ rfl
  have c_l1_5 := x_l1.c 5 _ rfl
  have f_l1_5 := x_l1.f 5 _ rfl
  have x_z1 : Box w1 (w.heap.size + 1) [.int .i64 0, .int .i64 0, .int .i64 0, .int .i64 0, .int .i64 0, .int .u64 0] := (by refine Box.below ?_ hb; repeat (first | (with_reducible assumption) | (with_reducible refine Box.drew ?_) | (with_reducible refine Box.drewN ?_ _) | ((with_reducible refine Box.new ?_); simp; done) | (with_reducible apply Box.set2) | (with_reducible refine Box.alloc ?_ _) | (with_reducible refine Box.other ?_ (by first | (dsimp only; omega) | omega) _)))
  have z_z1 := x_z1.lt
  have c_z1_0 := x_z1.c 0 _ rfl
  have f_z1_0 := x_z1.f 0 _ rfl
  have c_z1_1 := x_z1.c 1 _ rfl
  have f_z1_1 := x_z1.f 1 _ rfl
  have c_z1_2 := x_z1.c 2 _ rfl
  have f_z1_2 := x_z1.f 2 _ rfl
  have c_z1_3 := x_z1.c 3 _ rfl
  have f_z1_3 := x_z1.f 3 _ rfl
  have c_z1_4 := x_z1.c 4 _ rfl
  have f_z1_4 := x_z1.f 4 _ rfl
  have c_z1_5 := x_z1.c 5 _ rfl
  have f_z1_5 := x_z1.f 5 _ rfl
  clear hb
  go_wp2_with fail
  refine (rcheck_is h _).mono ?_
  rintro e w2 ⟨rfl, hb⟩
  have hB2 : Below w.heap.size w w2 := below_thru (by go_grown) hb
  have hs2 : w.heap.size ≤ w2.heap.size := hB2.size
  have x_l2 : Box w2 (w.heap.size) [.int .i64 b, .int .i64 r, .int .i64 p, .int .i64 l, .int .i64 q, .int .u64 a] := (by refine Box.below ?_ hb; repeat (first | (with_reducible assumption) | (with_reducible refine Box.drew ?_) | (with_reducible refine Box.drewN ?_ _) | ((with_reducible refine Box.new ?_); simp; done) | (with_reducible apply Box.set2) | (with_reducible refine Box.alloc ?_ _) | (with_reducible refine Box.other ?_ (by first | (dsimp only; omega) | omega) _)))
  have z_l2 := x_l2.lt
  have c_l2_0 := x_l2.c 0 _ rfl
  have f_l2_0 := x_l2.f 0 _ rfl
  have c_l2_1 := x_l2.c 1 _ rfl
  have f_l2_1 := x_l2.f 1 _ rfl
  have c_l2_2 := x_l2.c 2 _ rfl
  have f_l2_2 := x_l2.f 2 _ rfl
  have c_l2_3 := x_l2.c 3 _ rfl
  have f_l2_3 := x_l2.f 3 _ rfl
  have c_l2_4 := x_l2.c 4 _ rfl
  have f_l2_4 := x_l2.f 4 _ rfl
  have c_l2_5 := x_l2.c 5 _ rfl
  have f_l2_5 := x_l2.f 5 _ rfl
  have x_z2 : Box w2 (w.heap.size + 1) [.int .i64 0, .int .i64 0, .int .i64 0, .int .i64 0, .int .i64 0, .int .u64 0] := (by refine Box.below ?_ hb; repeat (first | (with_reducible assumption) | (with_reducible refine Box.drew ?_) | (with_reducible refine Box.drewN ?_ _) | ((with_reducible refine Box.new ?_); simp; done) | (with_reducible apply Box.set2) | (with_reducible refine Box.alloc ?_ _) | (with_reducible refine Box.other ?_ (by first | (dsimp only; omega) | omega) _)))
  have z_z2 := x_z2.lt
  have c_z2_0 := x_z2.c 0 _ rfl
  have f_z2_0 := x_z2.f 0 _ rfl
  have c_z2_1 := x_z2.c 1 _ rfl
  have f_z2_1 := x_z2.f 1 _ rfl
  have c_z2_2 := x_z2.c 2 _ rfl
  have f_z2_2 := x_z2.f 2 _ rfl
  have c_z2_3 := x_z2.c 3 _ rfl
  have f_z2_3 := x_z2.f 3 _ rfl
  have c_z2_4 := x_z2.c 4 _ rfl
  have f_z2_4 := x_z2.f 4 _ rfl
  have c_z2_5 := x_z2.c 5 _ rfl
  have f_z2_5 := x_z2.f 5 _ rfl
  clear hb hB1 hs1 x_l1 z_l1 c_l1_0 c_l1_1 c_l1_2 c_l1_3 c_l1_4 c_l1_5 f_l1_0 f_l1_1 f_l1_2 f_l1_3 f_l1_4 f_l1_5 x_z1 z_z1 c_z1_0 c_z1_1 c_z1_2 c_z1_3 c_z1_4 c_z1_5 f_z1_0 f_z1_1 f_z1_2 f_z1_3 f_z1_4 f_z1_5
  go_wp2_with fail
  refine bodyPost_ret (v := .tuple #[.agg #[.int .i64 0, .int .i64 0, .int .i64 0, .int .i64 0, .int .i64 0, .int .u64 0], .int .i64 8]) (by simp [results, Try.results25, go_sem, c_z2_0, c_z2_1, c_z2_2, c_z2_3, c_z2_4, c_z2_5]) rfl ⟨rfl, ?_⟩
  go_grown

set_option maxRecDepth 100000 in
set_option maxHeartbeats 1600000 in
theorem rcharge_arg {b r p l q a c : Int} (h : Hid (bucE b r p l q = 0)) (hc : c < 0) (w : World) :
    Calls Try.prog 25 #[.agg #[.int .i64 b, .int .i64 r, .int .i64 p, .int .i64 l, .int .i64 q, .int .u64 a], .int .i64 c] w fun e w' => e = .returned (.tuple #[.agg #[.int .i64 0, .int .i64 0, .int .i64 0, .int .i64 0, .int .i64 0, .int .u64 0], .int .i64 2]) ∧ Below w.heap.size w w' := by
  have d1 : decide (c < 0) = true := decide_eq_true hc
  clear hc
  go_enter Try.func25, Try.ntmps25
  go_wp2_with fail
  refine (rcheck_is h _).mono ?_
  rintro e w1 ⟨rfl, hb⟩
  have hB1 : Below w.heap.size w w1 := below_thru (by go_grown) hb
  have hs1 : w.heap.size ≤ w1.heap.size := hB1.size
  have x_l1 : Box w1 (w.heap.size) [.int .i64 b, .int .i64 r, .int .i64 p, .int .i64 l, .int .i64 q, .int .u64 a] := (by refine Box.below ?_ hb; repeat (first | (with_reducible assumption) | (with_reducible refine Box.drew ?_) | (with_reducible refine Box.drewN ?_ _) | ((with_reducible refine Box.new ?_); simp; done) | (with_reducible apply Box.set2) | (with_reducible refine Box.alloc ?_ _) | (with_reducible refine Box.other ?_ (by first | (dsimp only; omega) | omega) _)))
  have z_l1 := x_l1.lt
  have c_l1_0 := x_l1.c 0 _ rfl
  have f_l1_0 := x_l1.f 0 _ rfl
  have c_l1_1 := x_l1.c 1 _ rfl
  have f_l1_1 := x_l1.f 1 _ rfl
  have c_l1_2 := x_l1.c 2 _ rfl
  have f_l1_2 := x_l1.f 2 _ rfl
  have c_l1_3 := x_l1.c 3 _ rfl
  have f_l1_3 := x_l1.f 3 _ rfl
  have c_l1_4 := x_l1.c 4 _ rfl
  have f_l1_4 := x_l1.f 4 _ rfl
  have c_l1_5 := x_l1.c 5 _ rfl
  have f_l1_5 := x_l1.f 5 _ rfl
  have x_z1 : Box w1 (w.heap.size + 1) [.int .i64 0, .int .i64 0, .int .i64 0, .int .i64 0, .int .i64 0, .int .u64 0] := (by refine Box.below ?_ hb; repeat (first | (with_reducible assumption) | (with_reducible refine Box.drew ?_) | (with_reducible refine Box.drewN ?_ _) | ((with_reducible refine Box.new ?_); simp; done) | (with_reducible apply Box.set2) | (with_reducible refine Box.alloc ?_ _) | (with_reducible refine Box.other ?_ (by first | (dsimp only; omega) | omega) _)))
  have z_z1 := x_z1.lt
  have c_z1_0 := x_z1.c 0 _ rfl
  have f_z1_0 := x_z1.f 0 _ rfl
  have c_z1_1 := x_z1.c 1 _ rfl
  have f_z1_1 := x_z1.f 1 _ rfl
  have c_z1_2 := x_z1.c 2 _ rfl
  have f_z1_2 := x_z1.f 2 _ rfl
  have c_z1_3 := x_z1.c 3 _ rfl
  have f_z1_3 := x_z1.f 3 _ rfl
  have c_z1_4 := x_z1.c 4 _ rfl
  have f_z1_4 := x_z1.f 4 _ rfl
  have c_z1_5 := x_z1.c 5 _ rfl
  have f_z1_5 := x_z1.f 5 _ rfl
  clear hb
  go_wp2_with fail
  refine bodyPost_ret (v := .tuple #[.agg #[.int .i64 0, .int .i64 0, .int .i64 0, .int .i64 0, .int .i64 0, .int .u64 0], .int .i64 2]) (by simp [results, Try.results25, go_sem, c_z1_0, c_z1_1, c_z1_2, c_z1_3, c_z1_4, c_z1_5]) rfl ⟨rfl, ?_⟩
  go_grown

set_option maxRecDepth 100000 in
set_option maxHeartbeats 1600000 in
theorem rcharge_low {b r p l q a c : Int} (h : Hid (bucE b r p l q = 0)) (hc : 0 ≤ c) (hl : l < c) (w : World) :
    Calls Try.prog 25 #[.agg #[.int .i64 b, .int .i64 r, .int .i64 p, .int .i64 l, .int .i64 q, .int .u64 a], .int .i64 c] w fun e w' => e = .returned (.tuple #[.agg #[.int .i64 0, .int .i64 0, .int .i64 0, .int .i64 0, .int .i64 0, .int .u64 0], .int .i64 20]) ∧ Below w.heap.size w w' := by
  have d1 : decide (c < 0) = false := decide_eq_false (by omega)
  have d2 : decide (l < c) = true := decide_eq_true hl
  clear hl
  go_enter Try.func25, Try.ntmps25
  go_wp2_with fail
  refine (rcheck_is h _).mono ?_
  rintro e w1 ⟨rfl, hb⟩
  have hB1 : Below w.heap.size w w1 := below_thru (by go_grown) hb
  have hs1 : w.heap.size ≤ w1.heap.size := hB1.size
  have x_l1 : Box w1 (w.heap.size) [.int .i64 b, .int .i64 r, .int .i64 p, .int .i64 l, .int .i64 q, .int .u64 a] := (by refine Box.below ?_ hb; repeat (first | (with_reducible assumption) | (with_reducible refine Box.drew ?_) | (with_reducible refine Box.drewN ?_ _) | ((with_reducible refine Box.new ?_); simp; done) | (with_reducible apply Box.set2) | (with_reducible refine Box.alloc ?_ _) | (with_reducible refine Box.other ?_ (by first | (dsimp only; omega) | omega) _)))
  have z_l1 := x_l1.lt
  have c_l1_0 := x_l1.c 0 _ rfl
  have f_l1_0 := x_l1.f 0 _ rfl
  have c_l1_1 := x_l1.c 1 _ rfl
  have f_l1_1 := x_l1.f 1 _ rfl
  have c_l1_2 := x_l1.c 2 _ rfl
  have f_l1_2 := x_l1.f 2 _ rfl
  have c_l1_3 := x_l1.c 3 _ rfl
  have f_l1_3 := x_l1.f 3 _ rfl
  have c_l1_4 := x_l1.c 4 _ rfl
  have f_l1_4 := x_l1.f 4 _ rfl
  have c_l1_5 := x_l1.c 5 _ rfl
  have f_l1_5 := x_l1.f 5 _ rfl
  have x_z1 : Box w1 (w.heap.size + 1) [.int .i64 0, .int .i64 0, .int .i64 0, .int .i64 0, .int .i64 0, .int .u64 0] := (by refine Box.below ?_ hb; repeat (first | (with_reducible assumption) | (with_reducible refine Box.drew ?_) | (with_reducible refine Box.drewN ?_ _) | ((with_reducible refine Box.new ?_); simp; done) | (with_reducible apply Box.set2) | (with_reducible refine Box.alloc ?_ _) | (with_reducible refine Box.other ?_ (by first | (dsimp only; omega) | omega) _)))
  have z_z1 := x_z1.lt
  have c_z1_0 := x_z1.c 0 _ rfl
  have f_z1_0 := x_z1.f 0 _ rfl
  have c_z1_1 := x_z1.c 1 _ rfl
  have f_z1_1 := x_z1.f 1 _ rfl
  have c_z1_2 := x_z1.c 2 _ rfl
  have f_z1_2 := x_z1.f 2 _ rfl
  have c_z1_3 := x_z1.c 3 _ rfl
  have f_z1_3 := x_z1.f 3 _ rfl
  have c_z1_4 := x_z1.c 4 _ rfl
  have f_z1_4 := x_z1.f 4 _ rfl
  have c_z1_5 := x_z1.c 5 _ rfl
  have f_z1_5 := x_z1.f 5 _ rfl
  clear hb
  go_wp2_with fail
  refine bodyPost_ret (v := .tuple #[.agg #[.int .i64 0, .int .i64 0, .int .i64 0, .int .i64 0, .int .i64 0, .int .u64 0], .int .i64 20]) (by simp [results, Try.results25, go_sem, c_z1_0, c_z1_1, c_z1_2, c_z1_3, c_z1_4, c_z1_5]) rfl ⟨rfl, ?_⟩
  go_grown

set_option maxRecDepth 100000 in
set_option maxHeartbeats 1600000 in
theorem rcharge_ok {b r p l q a c : Int} (h : Hid (bucE b r p l q = 0)) (hc : 0 ≤ c) (hl : c ≤ l) (hm : l ≤ 1000000000) (w : World) :
    Calls Try.prog 25 #[.agg #[.int .i64 b, .int .i64 r, .int .i64 p, .int .i64 l, .int .i64 q, .int .u64 a], .int .i64 c] w fun e w' => e = .returned (.tuple #[.agg #[.int .i64 b, .int .i64 r, .int .i64 p, .int .i64 (l - c), .int .i64 q, .int .u64 a], .int .i64 0]) ∧ Below w.heap.size w w' := by
  have d1 : decide (c < 0) = false := decide_eq_false (by omega)
  have d2 : decide (l < c) = false := decide_eq_false (by omega)
  go_enter Try.func25, Try.ntmps25
  go_wp2_with fail
  refine (rcheck_is h _).mono ?_
  rintro e w1 ⟨rfl, hb⟩
  have hB1 : Below w.heap.size w w1 := below_thru (by go_grown) hb
  have hs1 : w.heap.size ≤ w1.heap.size := hB1.size
  have x_l1 : Box w1 (w.heap.size) [.int .i64 b, .int .i64 r, .int .i64 p, .int .i64 l, .int .i64 q, .int .u64 a] := (by refine Box.below ?_ hb; repeat (first | (with_reducible assumption) | (with_reducible refine Box.drew ?_) | (with_reducible refine Box.drewN ?_ _) | ((with_reducible refine Box.new ?_); simp; done) | (with_reducible apply Box.set2) | (with_reducible refine Box.alloc ?_ _) | (with_reducible refine Box.other ?_ (by first | (dsimp only; omega) | omega) _)))
  have z_l1 := x_l1.lt
  have c_l1_0 := x_l1.c 0 _ rfl
  have f_l1_0 := x_l1.f 0 _ rfl
  have c_l1_1 := x_l1.c 1 _ rfl
  have f_l1_1 := x_l1.f 1 _ rfl
  have c_l1_2 := x_l1.c 2 _ rfl
  have f_l1_2 := x_l1.f 2 _ rfl
  have c_l1_3 := x_l1.c 3 _ rfl
  have f_l1_3 := x_l1.f 3 _ rfl
  have c_l1_4 := x_l1.c 4 _ rfl
  have f_l1_4 := x_l1.f 4 _ rfl
  have c_l1_5 := x_l1.c 5 _ rfl
  have f_l1_5 := x_l1.f 5 _ rfl
  have x_z1 : Box w1 (w.heap.size + 1) [.int .i64 0, .int .i64 0, .int .i64 0, .int .i64 0, .int .i64 0, .int .u64 0] := (by refine Box.below ?_ hb; repeat (first | (with_reducible assumption) | (with_reducible refine Box.drew ?_) | (with_reducible refine Box.drewN ?_ _) | ((with_reducible refine Box.new ?_); simp; done) | (with_reducible apply Box.set2) | (with_reducible refine Box.alloc ?_ _) | (with_reducible refine Box.other ?_ (by first | (dsimp only; omega) | omega) _)))
  have z_z1 := x_z1.lt
  have c_z1_0 := x_z1.c 0 _ rfl
  have f_z1_0 := x_z1.f 0 _ rfl
  have c_z1_1 := x_z1.c 1 _ rfl
  have f_z1_1 := x_z1.f 1 _ rfl
  have c_z1_2 := x_z1.c 2 _ rfl
  have f_z1_2 := x_z1.f 2 _ rfl
  have c_z1_3 := x_z1.c 3 _ rfl
  have f_z1_3 := x_z1.f 3 _ rfl
  have c_z1_4 := x_z1.c 4 _ rfl
  have f_z1_4 := x_z1.f 4 _ rfl
  have c_z1_5 := x_z1.c 5 _ rfl
  have f_z1_5 := x_z1.f 5 _ rfl
  clear hb
  go_wp2_with fail
  refine bodyPost_ret (v := .tuple #[.agg #[.int .i64 b, .int .i64 r, .int .i64 p, .int .i64 (l - c), .int .i64 q, .int .u64 a], .int .i64 0]) (by simp [results, Try.results25, go_sem, c_z1_0, c_z1_1, c_z1_2, c_z1_3, c_z1_4, c_z1_5]) rfl ⟨rfl, ?_⟩
  go_grown

end Go.Proofs.Ytikhdfmdbpcajaa
