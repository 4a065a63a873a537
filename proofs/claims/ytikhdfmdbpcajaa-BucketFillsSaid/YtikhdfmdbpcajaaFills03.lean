/-
  BucketFills, walked over the contracts of package bucket and of the reference: it returns true.
-/
import Derived.Test.YtikhdfmdbpcajaaLawKit03
import Derived.Deep.RegionHeld3
import Derived.Deep.DeepCutAuto
import Derived.Deep.CutBlock
namespace Go.Proofs.Ytikhdfmdbpcajaa
open Go.RowKit

set_option maxRecDepth 100000 in
set_option maxHeartbeats 3200000 in
theorem fills_yy {lb lr lp bu ra pe le pt a t : Int} (hl : Hid (limE lb lr lp = 0)) (hb : Buc bu ra pe le pt a) (ht : isU t) (w : World) :
    Calls Try.prog 4 #[.agg #[.int .i64 lb, .int .i64 lr, .int .i64 lp], .agg #[.int .i64 bu, .int .i64 ra, .int .i64 pe, .int .i64 le, .int .i64 pt, .int .u64 a], .int .u64 t] w fun e w' => e = .returned (.bool true) ∧ Below w.heap.size w w' := by
  obtain ⟨L, e1⟩ : ∃ x, filL bu ra pe le pt a t = x := ⟨_, rfl⟩
  obtain ⟨Q, e2⟩ : ∃ x, filP bu ra pe le pt a t = x := ⟨_, rfl⟩
  obtain ⟨T, e3⟩ : ∃ x, filA a t = x := ⟨_, rfl⟩
  have E1 := Lib.hid e1
  have E2 := Lib.hid e2
  have E3 := Lib.hid e3
  have h := Lib.hid hb.ok
  have HB := Lib.hid hb
  clear e1 e2 e3 hb
  go_enter Try.func4, Try.ntmps4
  go_wp2_with fail
  refine (full_ok hl _).mono ?_
  rintro e w1 ⟨rfl, hb⟩
  have hB1 : Below w.heap.size w w1 := below_thru (by go_grown) hb
  have hs1 : w.heap.size ≤ w1.heap.size := hB1.size
  have x_l1 : Box w1 (w.heap.size) [.int .i64 lb, .int .i64 lr, .int .i64 lp] := (by refine Box.below ?_ hb; repeat (first | (with_reducible assumption) | (with_reducible refine Box.drew ?_) | (with_reducible refine Box.drewN ?_ _) | ((with_reducible refine Box.new ?_); simp; done) | (with_reducible apply Box.set2) | ((with_reducible apply Box.put); (with_reducible assumption); rfl) | (with_reducible refine Box.alloc ?_ _) | (with_reducible refine Box.other ?_ (by first | (dsimp only; omega) | omega) _)))
  have z_l1 := x_l1.lt
  have c_l1_0 := x_l1.c 0 _ rfl
  have f_l1_0 := x_l1.f 0 _ rfl
  have c_l1_1 := x_l1.c 1 _ rfl
  have f_l1_1 := x_l1.f 1 _ rfl
  have c_l1_2 := x_l1.c 2 _ rfl
  have f_l1_2 := x_l1.f 2 _ rfl
  have x_x1 : Box w1 (w.heap.size + 1) [.int .i64 bu, .int .i64 ra, .int .i64 pe, .int .i64 le, .int .i64 pt, .int .u64 a] := (by refine Box.below ?_ hb; repeat (first | (with_reducible assumption) | (with_reducible refine Box.drew ?_) | (with_reducible refine Box.drewN ?_ _) | ((with_reducible refine Box.new ?_); simp; done) | (with_reducible apply Box.set2) | ((with_reducible apply Box.put); (with_reducible assumption); rfl) | (with_reducible refine Box.alloc ?_ _) | (with_reducible refine Box.other ?_ (by first | (dsimp only; omega) | omega) _)))
  have z_x1 := x_x1.lt
  have c_x1_0 := x_x1.c 0 _ rfl
  have f_x1_0 := x_x1.f 0 _ rfl
  have c_x1_1 := x_x1.c 1 _ rfl
  have f_x1_1 := x_x1.f 1 _ rfl
  have c_x1_2 := x_x1.c 2 _ rfl
  have f_x1_2 := x_x1.f 2 _ rfl
  have c_x1_3 := x_x1.c 3 _ rfl
  have f_x1_3 := x_x1.f 3 _ rfl
  have c_x1_4 := x_x1.c 4 _ rfl
  have f_x1_4 := x_x1.f 4 _ rfl
  have c_x1_5 := x_x1.c 5 _ rfl
  have f_x1_5 := x_x1.f 5 _ rfl
  have t1 := hb.size
  try simp at t1
  clear hb
  go_wp2_with fail
  refine (rfull_ok hl _).mono ?_
  rintro e w2 ⟨rfl, hb⟩
  have hB2 : Below w.heap.size w w2 := below_thru (by go_grown) hb
  have hs2 : w.heap.size ≤ w2.heap.size := hB2.size
  have x_l2 : Box w2 (w.heap.size) [.int .i64 lb, .int .i64 lr, .int .i64 lp] := (by refine Box.below ?_ hb; repeat (first | (with_reducible assumption) | (with_reducible refine Box.drew ?_) | (with_reducible refine Box.drewN ?_ _) | ((with_reducible refine Box.new ?_); simp; done) | (with_reducible apply Box.set2) | ((with_reducible apply Box.put); (with_reducible assumption); rfl) | (with_reducible refine Box.alloc ?_ _) | (with_reducible refine Box.other ?_ (by first | (dsimp only; omega) | omega) _)))
  have z_l2 := x_l2.lt
  have c_l2_0 := x_l2.c 0 _ rfl
  have f_l2_0 := x_l2.f 0 _ rfl
  have c_l2_1 := x_l2.c 1 _ rfl
  have f_l2_1 := x_l2.f 1 _ rfl
  have c_l2_2 := x_l2.c 2 _ rfl
  have f_l2_2 := x_l2.f 2 _ rfl
  have x_x2 : Box w2 (w.heap.size + 1) [.int .i64 bu, .int .i64 ra, .int .i64 pe, .int .i64 le, .int .i64 pt, .int .u64 a] := (by refine Box.below ?_ hb; repeat (first | (with_reducible assumption) | (with_reducible refine Box.drew ?_) | (with_reducible refine Box.drewN ?_ _) | ((with_reducible refine Box.new ?_); simp; done) | (with_reducible apply Box.set2) | ((with_reducible apply Box.put); (with_reducible assumption); rfl) | (with_reducible refine Box.alloc ?_ _) | (with_reducible refine Box.other ?_ (by first | (dsimp only; omega) | omega) _)))
  have z_x2 := x_x2.lt
  have c_x2_0 := x_x2.c 0 _ rfl
  have f_x2_0 := x_x2.f 0 _ rfl
  have c_x2_1 := x_x2.c 1 _ rfl
  have f_x2_1 := x_x2.f 1 _ rfl
  have c_x2_2 := x_x2.c 2 _ rfl
  have f_x2_2 := x_x2.f 2 _ rfl
  have c_x2_3 := x_x2.c 3 _ rfl
  have f_x2_3 := x_x2.f 3 _ rfl
  have c_x2_4 := x_x2.c 4 _ rfl
  have f_x2_4 := x_x2.f 4 _ rfl
  have c_x2_5 := x_x2.c 5 _ rfl
  have f_x2_5 := x_x2.f 5 _ rfl
  have x_c2 : Box w2 (w1.heap.size) [.int .i64 lb, .int .i64 lr, .int .i64 lp, .int .i64 lb, .int .i64 0, .int .u64 t] := (by refine Box.below ?_ hb; repeat (first | (with_reducible assumption) | (with_reducible refine Box.drew ?_) | (with_reducible refine Box.drewN ?_ _) | ((with_reducible refine Box.new ?_); simp; done) | (with_reducible apply Box.set2) | ((with_reducible apply Box.put); (with_reducible assumption); rfl) | (with_reducible refine Box.alloc ?_ _) | (with_reducible refine Box.other ?_ (by first | (dsimp only; omega) | omega) _)))
  have z_c2 := x_c2.lt
  have c_c2_0 := x_c2.c 0 _ rfl
  have f_c2_0 := x_c2.f 0 _ rfl
  have c_c2_1 := x_c2.c 1 _ rfl
  have f_c2_1 := x_c2.f 1 _ rfl
  have c_c2_2 := x_c2.c 2 _ rfl
  have f_c2_2 := x_c2.f 2 _ rfl
  have c_c2_3 := x_c2.c 3 _ rfl
  have f_c2_3 := x_c2.f 3 _ rfl
  have c_c2_4 := x_c2.c 4 _ rfl
  have f_c2_4 := x_c2.f 4 _ rfl
  have c_c2_5 := x_c2.c 5 _ rfl
  have f_c2_5 := x_c2.f 5 _ rfl
  have t2 := hb.size
  try simp at t2
  clear hb hB1 hs1 x_l1 z_l1 c_l1_0 c_l1_1 c_l1_2 f_l1_0 f_l1_1 f_l1_2 x_x1 z_x1 c_x1_0 c_x1_1 c_x1_2 c_x1_3 c_x1_4 c_x1_5 f_x1_0 f_x1_1 f_x1_2 f_x1_3 f_x1_4 f_x1_5
  go_wp2_with fail
  refine (refill_ok HB.out ht E1 E2 E3 _).mono ?_
  rintro e w3 ⟨rfl, hb⟩
  have hB3 : Below w.heap.size w w3 := below_thru (by go_grown) hb
  have hs3 : w.heap.size ≤ w3.heap.size := hB3.size
  have x_l3 : Box w3 (w.heap.size) [.int .i64 lb, .int .i64 lr, .int .i64 lp] := (by refine Box.below ?_ hb; repeat (first | (with_reducible assumption) | (with_reducible refine Box.drew ?_) | (with_reducible refine Box.drewN ?_ _) | ((with_reducible refine Box.new ?_); simp; done) | (with_reducible apply Box.set2) | ((with_reducible apply Box.put); (with_reducible assumption); rfl) | (with_reducible refine Box.alloc ?_ _) | (with_reducible refine Box.other ?_ (by first | (dsimp only; omega) | omega) _)))
  have z_l3 := x_l3.lt
  have c_l3_0 := x_l3.c 0 _ rfl
  have f_l3_0 := x_l3.f 0 _ rfl
  have c_l3_1 := x_l3.c 1 _ rfl
  have f_l3_1 := x_l3.f 1 _ rfl
  have c_l3_2 := x_l3.c 2 _ rfl
  have f_l3_2 := x_l3.f 2 _ rfl
  have x_x3 : Box w3 (w.heap.size + 1) [.int .i64 bu, .int .i64 ra, .int .i64 pe, .int .i64 le, .int .i64 pt, .int .u64 a] := (by refine Box.below ?_ hb; repeat (first | (with_reducible assumption) | (with_reducible refine Box.drew ?_) | (with_reducible refine Box.drewN ?_ _) | ((with_reducible refine Box.new ?_); simp; done) | (with_reducible apply Box.set2) | ((with_reducible apply Box.put); (with_reducible assumption); rfl) | (with_reducible refine Box.alloc ?_ _) | (with_reducible refine Box.other ?_ (by first | (dsimp only; omega) | omega) _)))
  have z_x3 := x_x3.lt
  have c_x3_0 := x_x3.c 0 _ rfl
  have f_x3_0 := x_x3.f 0 _ rfl
  have c_x3_1 := x_x3.c 1 _ rfl
  have f_x3_1 := x_x3.f 1 _ rfl
  have c_x3_2 := x_x3.c 2 _ rfl
  have f_x3_2 := x_x3.f 2 _ rfl
  have c_x3_3 := x_x3.c 3 _ rfl
  have f_x3_3 := x_x3.f 3 _ rfl
  have c_x3_4 := x_x3.c 4 _ rfl
  have f_x3_4 := x_x3.f 4 _ rfl
  have c_x3_5 := x_x3.c 5 _ rfl
  have f_x3_5 := x_x3.f 5 _ rfl
  have x_c3 : Box w3 (w1.heap.size) [.int .i64 lb, .int .i64 lr, .int .i64 lp, .int .i64 lb, .int .i64 0, .int .u64 t] := (by refine Box.below ?_ hb; repeat (first | (with_reducible assumption) | (with_reducible refine Box.drew ?_) | (with_reducible refine Box.drewN ?_ _) | ((with_reducible refine Box.new ?_); simp; done) | (with_reducible apply Box.set2) | ((with_reducible apply Box.put); (with_reducible assumption); rfl) | (with_reducible refine Box.alloc ?_ _) | (with_reducible refine Box.other ?_ (by first | (dsimp only; omega) | omega) _)))
  have z_c3 := x_c3.lt
  have c_c3_0 := x_c3.c 0 _ rfl
  have f_c3_0 := x_c3.f 0 _ rfl
  have c_c3_1 := x_c3.c 1 _ rfl
  have f_c3_1 := x_c3.f 1 _ rfl
  have c_c3_2 := x_c3.c 2 _ rfl
  have f_c3_2 := x_c3.f 2 _ rfl
  have c_c3_3 := x_c3.c 3 _ rfl
  have f_c3_3 := x_c3.f 3 _ rfl
  have c_c3_4 := x_c3.c 4 _ rfl
  have f_c3_4 := x_c3.f 4 _ rfl
  have c_c3_5 := x_c3.c 5 _ rfl
  have f_c3_5 := x_c3.f 5 _ rfl
  have x_d3 : Box w3 (w2.heap.size) [.int .i64 lb, .int .i64 lr, .int .i64 lp, .int .i64 lb, .int .i64 0, .int .u64 t] := (by refine Box.below ?_ hb; repeat (first | (with_reducible assumption) | (with_reducible refine Box.drew ?_) | (with_reducible refine Box.drewN ?_ _) | ((with_reducible refine Box.new ?_); simp; done) | (with_reducible apply Box.set2) | ((with_reducible apply Box.put); (with_reducible assumption); rfl) | (with_reducible refine Box.alloc ?_ _) | (with_reducible refine Box.other ?_ (by first | (dsimp only; omega) | omega) _)))
  have z_d3 := x_d3.lt
  have c_d3_0 := x_d3.c 0 _ rfl
  have f_d3_0 := x_d3.f 0 _ rfl
  have c_d3_1 := x_d3.c 1 _ rfl
  have f_d3_1 := x_d3.f 1 _ rfl
  have c_d3_2 := x_d3.c 2 _ rfl
  have f_d3_2 := x_d3.f 2 _ rfl
  have c_d3_3 := x_d3.c 3 _ rfl
  have f_d3_3 := x_d3.f 3 _ rfl
  have c_d3_4 := x_d3.c 4 _ rfl
  have f_d3_4 := x_d3.f 4 _ rfl
  have c_d3_5 := x_d3.c 5 _ rfl
  have f_d3_5 := x_d3.f 5 _ rfl
  have t3 := hb.size
  try simp at t3
  clear hb hB2 hs2 x_l2 z_l2 c_l2_0 c_l2_1 c_l2_2 f_l2_0 f_l2_1 f_l2_2 x_x2 z_x2 c_x2_0 c_x2_1 c_x2_2 c_x2_3 c_x2_4 c_x2_5 f_x2_0 f_x2_1 f_x2_2 f_x2_3 f_x2_4 f_x2_5 x_c2 z_c2 c_c2_0 c_c2_1 c_c2_2 c_c2_3 c_c2_4 c_c2_5 f_c2_0 f_c2_1 f_c2_2 f_c2_3 f_c2_4 f_c2_5
  go_wp2_with fail
  refine (rrefill_ok HB.out ht E1 E2 E3 _).mono ?_
  rintro e w4 ⟨rfl, hb⟩
  have hB4 : Below w.heap.size w w4 := below_thru (by go_grown) hb
  have hs4 : w.heap.size ≤ w4.heap.size := hB4.size
  have x_l4 : Box w4 (w.heap.size) [.int .i64 lb, .int .i64 lr, .int .i64 lp] := (by refine Box.below ?_ hb; repeat (first | (with_reducible assumption) | (with_reducible refine Box.drew ?_) | (with_reducible refine Box.drewN ?_ _) | ((with_reducible refine Box.new ?_); simp; done) | (with_reducible apply Box.set2) | ((with_reducible apply Box.put); (with_reducible assumption); rfl) | (with_reducible refine Box.alloc ?_ _) | (with_reducible refine Box.other ?_ (by first | (dsimp only; omega) | omega) _)))
  have z_l4 := x_l4.lt
  have c_l4_0 := x_l4.c 0 _ rfl
  have f_l4_0 := x_l4.f 0 _ rfl
  have c_l4_1 := x_l4.c 1 _ rfl
  have f_l4_1 := x_l4.f 1 _ rfl
  have c_l4_2 := x_l4.c 2 _ rfl
  have f_l4_2 := x_l4.f 2 _ rfl
  have x_x4 : Box w4 (w.heap.size + 1) [.int .i64 bu, .int .i64 ra, .int .i64 pe, .int .i64 le, .int .i64 pt, .int .u64 a] := (by refine Box.below ?_ hb; repeat (first | (with_reducible assumption) | (with_reducible refine Box.drew ?_) | (with_reducible refine Box.drewN ?_ _) | ((with_reducible refine Box.new ?_); simp; done) | (with_reducible apply Box.set2) | ((with_reducible apply Box.put); (with_reducible assumption); rfl) | (with_reducible refine Box.alloc ?_ _) | (with_reducible refine Box.other ?_ (by first | (dsimp only; omega) | omega) _)))
  have z_x4 := x_x4.lt
  have c_x4_0 := x_x4.c 0 _ rfl
  have f_x4_0 := x_x4.f 0 _ rfl
  have c_x4_1 := x_x4.c 1 _ rfl
  have f_x4_1 := x_x4.f 1 _ rfl
  have c_x4_2 := x_x4.c 2 _ rfl
  have f_x4_2 := x_x4.f 2 _ rfl
  have c_x4_3 := x_x4.c 3 _ rfl
  have f_x4_3 := x_x4.f 3 _ rfl
  have c_x4_4 := x_x4.c 4 _ rfl
  have f_x4_4 := x_x4.f 4 _ rfl
  have c_x4_5 := x_x4.c 5 _ rfl
  have f_x4_5 := x_x4.f 5 _ rfl
  have x_c4 : Box w4 (w1.heap.size) [.int .i64 lb, .int .i64 lr, .int .i64 lp, .int .i64 lb, .int .i64 0, .int .u64 t] := (by refine Box.below ?_ hb; repeat (first | (with_reducible assumption) | (with_reducible refine Box.drew ?_) | (with_reducible refine Box.drewN ?_ _) | ((with_reducible refine Box.new ?_); simp; done) | (with_reducible apply Box.set2) | ((with_reducible apply Box.put); (with_reducible assumption); rfl) | (with_reducible refine Box.alloc ?_ _) | (with_reducible refine Box.other ?_ (by first | (dsimp only; omega) | omega) _)))
  have z_c4 := x_c4.lt
  have c_c4_0 := x_c4.c 0 _ rfl
  have f_c4_0 := x_c4.f 0 _ rfl
  have c_c4_1 := x_c4.c 1 _ rfl
  have f_c4_1 := x_c4.f 1 _ rfl
  have c_c4_2 := x_c4.c 2 _ rfl
  have f_c4_2 := x_c4.f 2 _ rfl
  have c_c4_3 := x_c4.c 3 _ rfl
  have f_c4_3 := x_c4.f 3 _ rfl
  have c_c4_4 := x_c4.c 4 _ rfl
  have f_c4_4 := x_c4.f 4 _ rfl
  have c_c4_5 := x_c4.c 5 _ rfl
  have f_c4_5 := x_c4.f 5 _ rfl
  have x_d4 : Box w4 (w2.heap.size) [.int .i64 lb, .int .i64 lr, .int .i64 lp, .int .i64 lb, .int .i64 0, .int .u64 t] := (by refine Box.below ?_ hb; repeat (first | (with_reducible assumption) | (with_reducible refine Box.drew ?_) | (with_reducible refine Box.drewN ?_ _) | ((with_reducible refine Box.new ?_); simp; done) | (with_reducible apply Box.set2) | ((with_reducible apply Box.put); (with_reducible assumption); rfl) | (with_reducible refine Box.alloc ?_ _) | (with_reducible refine Box.other ?_ (by first | (dsimp only; omega) | omega) _)))
  have z_d4 := x_d4.lt
  have c_d4_0 := x_d4.c 0 _ rfl
  have f_d4_0 := x_d4.f 0 _ rfl
  have c_d4_1 := x_d4.c 1 _ rfl
  have f_d4_1 := x_d4.f 1 _ rfl
  have c_d4_2 := x_d4.c 2 _ rfl
  have f_d4_2 := x_d4.f 2 _ rfl
  have c_d4_3 := x_d4.c 3 _ rfl
  have f_d4_3 := x_d4.f 3 _ rfl
  have c_d4_4 := x_d4.c 4 _ rfl
  have f_d4_4 := x_d4.f 4 _ rfl
  have c_d4_5 := x_d4.c 5 _ rfl
  have f_d4_5 := x_d4.f 5 _ rfl
  have x_g4 : Box w4 (w3.heap.size) [.int .i64 bu, .int .i64 ra, .int .i64 pe, .int .i64 L, .int .i64 Q, .int .u64 T] := (by refine Box.below ?_ hb; repeat (first | (with_reducible assumption) | (with_reducible refine Box.drew ?_) | (with_reducible refine Box.drewN ?_ _) | ((with_reducible refine Box.new ?_); simp; done) | (with_reducible apply Box.set2) | ((with_reducible apply Box.put); (with_reducible assumption); rfl) | (with_reducible refine Box.alloc ?_ _) | (with_reducible refine Box.other ?_ (by first | (dsimp only; omega) | omega) _)))
  have z_g4 := x_g4.lt
  have c_g4_0 := x_g4.c 0 _ rfl
  have f_g4_0 := x_g4.f 0 _ rfl
  have c_g4_1 := x_g4.c 1 _ rfl
  have f_g4_1 := x_g4.f 1 _ rfl
  have c_g4_2 := x_g4.c 2 _ rfl
  have f_g4_2 := x_g4.f 2 _ rfl
  have c_g4_3 := x_g4.c 3 _ rfl
  have f_g4_3 := x_g4.f 3 _ rfl
  have c_g4_4 := x_g4.c 4 _ rfl
  have f_g4_4 := x_g4.f 4 _ rfl
  have c_g4_5 := x_g4.c 5 _ rfl
  have f_g4_5 := x_g4.f 5 _ rfl
  have t4 := hb.size
  try simp at t4
  clear hb hB3 hs3 x_l3 z_l3 c_l3_0 c_l3_1 c_l3_2 f_l3_0 f_l3_1 f_l3_2 x_x3 z_x3 c_x3_0 c_x3_1 c_x3_2 c_x3_3 c_x3_4 c_x3_5 f_x3_0 f_x3_1 f_x3_2 f_x3_3 f_x3_4 f_x3_5 x_c3 z_c3 c_c3_0 c_c3_1 c_c3_2 c_c3_3 c_c3_4 c_c3_5 f_c3_0 f_c3_1 f_c3_2 f_c3_3 f_c3_4 f_c3_5 x_d3 z_d3 c_d3_0 c_d3_1 c_d3_2 c_d3_3 c_d3_4 c_d3_5 f_d3_0 f_d3_1 f_d3_2 f_d3_3 f_d3_4 f_d3_5
  go_upto_region 5 with fail
  skip
  go_upto_region 5 with fail
  go_cut [6] (fun q0 wx => q0 = .bool true ∧ Box wx (w.heap.size) [.int .i64 lb, .int .i64 lr, .int .i64 lp] ∧ Box wx (w.heap.size + 1) [.int .i64 bu, .int .i64 ra, .int .i64 pe, .int .i64 le, .int .i64 pt, .int .u64 a] ∧ Box wx (w1.heap.size) [.int .i64 lb, .int .i64 lr, .int .i64 lp, .int .i64 lb, .int .i64 0, .int .u64 t] ∧ Box wx (w2.heap.size) [.int .i64 lb, .int .i64 lr, .int .i64 lp, .int .i64 lb, .int .i64 0, .int .u64 t] ∧ Box wx (w3.heap.size) [.int .i64 bu, .int .i64 ra, .int .i64 pe, .int .i64 L, .int .i64 Q, .int .u64 T] ∧ Box wx (w4.heap.size) [.int .i64 bu, .int .i64 ra, .int .i64 pe, .int .i64 L, .int .i64 Q, .int .u64 T] ∧ Below w.heap.size w wx)
  case first =>
    go_region_held3 (fun w' => w'.cell? ⟨w.heap.size, 0, none⟩ = some (.int .i64 lb) ∧ w'.cell? ⟨w.heap.size, 1, none⟩ = some (.int .i64 lr) ∧ w'.cell? ⟨w.heap.size, 2, none⟩ = some (.int .i64 lp) ∧ w'.cell? ⟨w.heap.size + 1, 0, none⟩ = some (.int .i64 bu) ∧ w'.cell? ⟨w.heap.size + 1, 1, none⟩ = some (.int .i64 ra) ∧ w'.cell? ⟨w.heap.size + 1, 2, none⟩ = some (.int .i64 pe) ∧ w'.cell? ⟨w.heap.size + 1, 3, none⟩ = some (.int .i64 le) ∧ w'.cell? ⟨w.heap.size + 1, 4, none⟩ = some (.int .i64 pt) ∧ w'.cell? ⟨w.heap.size + 1, 5, none⟩ = some (.int .u64 a) ∧ w'.cell? ⟨w1.heap.size, 0, none⟩ = some (.int .i64 lb) ∧ w'.cell? ⟨w1.heap.size, 1, none⟩ = some (.int .i64 lr) ∧ w'.cell? ⟨w1.heap.size, 2, none⟩ = some (.int .i64 lp) ∧ w'.cell? ⟨w1.heap.size, 3, none⟩ = some (.int .i64 lb) ∧ w'.cell? ⟨w1.heap.size, 4, none⟩ = some (.int .i64 0) ∧ w'.cell? ⟨w1.heap.size, 5, none⟩ = some (.int .u64 t) ∧ w'.cell? ⟨w2.heap.size, 0, none⟩ = some (.int .i64 lb) ∧ w'.cell? ⟨w2.heap.size, 1, none⟩ = some (.int .i64 lr) ∧ w'.cell? ⟨w2.heap.size, 2, none⟩ = some (.int .i64 lp) ∧ w'.cell? ⟨w2.heap.size, 3, none⟩ = some (.int .i64 lb) ∧ w'.cell? ⟨w2.heap.size, 4, none⟩ = some (.int .i64 0) ∧ w'.cell? ⟨w2.heap.size, 5, none⟩ = some (.int .u64 t) ∧ w'.cell? ⟨w3.heap.size, 0, none⟩ = some (.int .i64 bu) ∧ w'.cell? ⟨w3.heap.size, 1, none⟩ = some (.int .i64 ra) ∧ w'.cell? ⟨w3.heap.size, 2, none⟩ = some (.int .i64 pe) ∧ w'.cell? ⟨w3.heap.size, 3, none⟩ = some (.int .i64 L) ∧ w'.cell? ⟨w3.heap.size, 4, none⟩ = some (.int .i64 Q) ∧ w'.cell? ⟨w3.heap.size, 5, none⟩ = some (.int .u64 T) ∧ w'.cell? ⟨w4.heap.size, 0, none⟩ = some (.int .i64 bu) ∧ w'.cell? ⟨w4.heap.size, 1, none⟩ = some (.int .i64 ra) ∧ w'.cell? ⟨w4.heap.size, 2, none⟩ = some (.int .i64 pe) ∧ w'.cell? ⟨w4.heap.size, 3, none⟩ = some (.int .i64 L) ∧ w'.cell? ⟨w4.heap.size, 4, none⟩ = some (.int .i64 Q) ∧ w'.cell? ⟨w4.heap.size, 5, none⟩ = some (.int .u64 T)) (((repeat' apply And.intro) <;> (first | (go_keep; done) | go_cell)))
      (first
        | (go_at_call 13; refine (limit_is hl _).mono ?_; rintro e v1 ⟨rfl, hv1⟩; have hV1 : Below w.heap.size w v1 := below_thru (by go_grown) hv1; have hs_v1 : w.heap.size ≤ v1.heap.size := hV1.size; have x_l_v1 : Box v1 (w.heap.size) [.int .i64 lb, .int .i64 lr, .int .i64 lp] := (by refine Box.below ?_ hv1; repeat (first | (with_reducible assumption) | (with_reducible refine Box.drew ?_) | (with_reducible refine Box.drewN ?_ _) | ((with_reducible refine Box.new ?_); simp; done) | (with_reducible apply Box.set2) | ((with_reducible apply Box.put); (with_reducible assumption); rfl) | (with_reducible refine Box.alloc ?_ _) | (with_reducible refine Box.other ?_ (by first | (dsimp only; omega) | omega) _))); have z_l_v1 := x_l_v1.lt; have c_l_v1_0 := x_l_v1.c 0 _ rfl; have f_l_v1_0 := x_l_v1.f 0 _ rfl; have c_l_v1_1 := x_l_v1.c 1 _ rfl; have f_l_v1_1 := x_l_v1.f 1 _ rfl; have c_l_v1_2 := x_l_v1.c 2 _ rfl; have f_l_v1_2 := x_l_v1.f 2 _ rfl; have x_x_v1 : Box v1 (w.heap.size + 1) [.int .i64 bu, .int .i64 ra, .int .i64 pe, .int .i64 le, .int .i64 pt, .int .u64 a] := (by refine Box.below ?_ hv1; repeat (first | (with_reducible assumption) | (with_reducible refine Box.drew ?_) | (with_reducible refine Box.drewN ?_ _) | ((with_reducible refine Box.new ?_); simp; done) | (with_reducible apply Box.set2) | ((with_reducible apply Box.put); (with_reducible assumption); rfl) | (with_reducible refine Box.alloc ?_ _) | (with_reducible refine Box.other ?_ (by first | (dsimp only; omega) | omega) _))); have z_x_v1 := x_x_v1.lt; have c_x_v1_0 := x_x_v1.c 0 _ rfl; have f_x_v1_0 := x_x_v1.f 0 _ rfl; have c_x_v1_1 := x_x_v1.c 1 _ rfl; have f_x_v1_1 := x_x_v1.f 1 _ rfl; have c_x_v1_2 := x_x_v1.c 2 _ rfl; have f_x_v1_2 := x_x_v1.f 2 _ rfl; have c_x_v1_3 := x_x_v1.c 3 _ rfl; have f_x_v1_3 := x_x_v1.f 3 _ rfl; have c_x_v1_4 := x_x_v1.c 4 _ rfl; have f_x_v1_4 := x_x_v1.f 4 _ rfl; have c_x_v1_5 := x_x_v1.c 5 _ rfl; have f_x_v1_5 := x_x_v1.f 5 _ rfl; have x_c_v1 : Box v1 (w1.heap.size) [.int .i64 lb, .int .i64 lr, .int .i64 lp, .int .i64 lb, .int .i64 0, .int .u64 t] := (by refine Box.below ?_ hv1; repeat (first | (with_reducible assumption) | (with_reducible refine Box.drew ?_) | (with_reducible refine Box.drewN ?_ _) | ((with_reducible refine Box.new ?_); simp; done) | (with_reducible apply Box.set2) | ((with_reducible apply Box.put); (with_reducible assumption); rfl) | (with_reducible refine Box.alloc ?_ _) | (with_reducible refine Box.other ?_ (by first | (dsimp only; omega) | omega) _))); have z_c_v1 := x_c_v1.lt; have c_c_v1_0 := x_c_v1.c 0 _ rfl; have f_c_v1_0 := x_c_v1.f 0 _ rfl; have c_c_v1_1 := x_c_v1.c 1 _ rfl; have f_c_v1_1 := x_c_v1.f 1 _ rfl; have c_c_v1_2 := x_c_v1.c 2 _ rfl; have f_c_v1_2 := x_c_v1.f 2 _ rfl; have c_c_v1_3 := x_c_v1.c 3 _ rfl; have f_c_v1_3 := x_c_v1.f 3 _ rfl; have c_c_v1_4 := x_c_v1.c 4 _ rfl; have f_c_v1_4 := x_c_v1.f 4 _ rfl; have c_c_v1_5 := x_c_v1.c 5 _ rfl; have f_c_v1_5 := x_c_v1.f 5 _ rfl; have x_d_v1 : Box v1 (w2.heap.size) [.int .i64 lb, .int .i64 lr, .int .i64 lp, .int .i64 lb, .int .i64 0, .int .u64 t] := (by refine Box.below ?_ hv1; repeat (first | (with_reducible assumption) | (with_reducible refine Box.drew ?_) | (with_reducible refine Box.drewN ?_ _) | ((with_reducible refine Box.new ?_); simp; done) | (with_reducible apply Box.set2) | ((with_reducible apply Box.put); (with_reducible assumption); rfl) | (with_reducible refine Box.alloc ?_ _) | (with_reducible refine Box.other ?_ (by first | (dsimp only; omega) | omega) _))); have z_d_v1 := x_d_v1.lt; have c_d_v1_0 := x_d_v1.c 0 _ rfl; have f_d_v1_0 := x_d_v1.f 0 _ rfl; have c_d_v1_1 := x_d_v1.c 1 _ rfl; have f_d_v1_1 := x_d_v1.f 1 _ rfl; have c_d_v1_2 := x_d_v1.c 2 _ rfl; have f_d_v1_2 := x_d_v1.f 2 _ rfl; have c_d_v1_3 := x_d_v1.c 3 _ rfl; have f_d_v1_3 := x_d_v1.f 3 _ rfl; have c_d_v1_4 := x_d_v1.c 4 _ rfl; have f_d_v1_4 := x_d_v1.f 4 _ rfl; have c_d_v1_5 := x_d_v1.c 5 _ rfl; have f_d_v1_5 := x_d_v1.f 5 _ rfl; have x_g_v1 : Box v1 (w3.heap.size) [.int .i64 bu, .int .i64 ra, .int .i64 pe, .int .i64 L, .int .i64 Q, .int .u64 T] := (by refine Box.below ?_ hv1; repeat (first | (with_reducible assumption) | (with_reducible refine Box.drew ?_) | (with_reducible refine Box.drewN ?_ _) | ((with_reducible refine Box.new ?_); simp; done) | (with_reducible apply Box.set2) | ((with_reducible apply Box.put); (with_reducible assumption); rfl) | (with_reducible refine Box.alloc ?_ _) | (with_reducible refine Box.other ?_ (by first | (dsimp only; omega) | omega) _))); have z_g_v1 := x_g_v1.lt; have c_g_v1_0 := x_g_v1.c 0 _ rfl; have f_g_v1_0 := x_g_v1.f 0 _ rfl; have c_g_v1_1 := x_g_v1.c 1 _ rfl; have f_g_v1_1 := x_g_v1.f 1 _ rfl; have c_g_v1_2 := x_g_v1.c 2 _ rfl; have f_g_v1_2 := x_g_v1.f 2 _ rfl; have c_g_v1_3 := x_g_v1.c 3 _ rfl; have f_g_v1_3 := x_g_v1.f 3 _ rfl; have c_g_v1_4 := x_g_v1.c 4 _ rfl; have f_g_v1_4 := x_g_v1.f 4 _ rfl; have c_g_v1_5 := x_g_v1.c 5 _ rfl; have f_g_v1_5 := x_g_v1.f 5 _ rfl; have x_i_v1 : Box v1 (w4.heap.size) [.int .i64 bu, .int .i64 ra, .int .i64 pe, .int .i64 L, .int .i64 Q, .int .u64 T] := (by refine Box.below ?_ hv1; repeat (first | (with_reducible assumption) | (with_reducible refine Box.drew ?_) | (with_reducible refine Box.drewN ?_ _) | ((with_reducible refine Box.new ?_); simp; done) | (with_reducible apply Box.set2) | ((with_reducible apply Box.put); (with_reducible assumption); rfl) | (with_reducible refine Box.alloc ?_ _) | (with_reducible refine Box.other ?_ (by first | (dsimp only; omega) | omega) _))); have z_i_v1 := x_i_v1.lt; have c_i_v1_0 := x_i_v1.c 0 _ rfl; have f_i_v1_0 := x_i_v1.f 0 _ rfl; have c_i_v1_1 := x_i_v1.c 1 _ rfl; have f_i_v1_1 := x_i_v1.f 1 _ rfl; have c_i_v1_2 := x_i_v1.c 2 _ rfl; have f_i_v1_2 := x_i_v1.f 2 _ rfl; have c_i_v1_3 := x_i_v1.c 3 _ rfl; have f_i_v1_3 := x_i_v1.f 3 _ rfl; have c_i_v1_4 := x_i_v1.c 4 _ rfl; have f_i_v1_4 := x_i_v1.f 4 _ rfl; have c_i_v1_5 := x_i_v1.c 5 _ rfl; have f_i_v1_5 := x_i_v1.f 5 _ rfl)
        | (go_at_call 23; refine (rlimit_is hl _).mono ?_; rintro e v2 ⟨rfl, hv2⟩; have hV2 : Below w.heap.size w v2 := below_thru (by go_grown) hv2; have hs_v2 : w.heap.size ≤ v2.heap.size := hV2.size; have x_l_v2 : Box v2 (w.heap.size) [.int .i64 lb, .int .i64 lr, .int .i64 lp] := (by refine Box.below ?_ hv2; repeat (first | (with_reducible assumption) | (with_reducible refine Box.drew ?_) | (with_reducible refine Box.drewN ?_ _) | ((with_reducible refine Box.new ?_); simp; done) | (with_reducible apply Box.set2) | ((with_reducible apply Box.put); (with_reducible assumption); rfl) | (with_reducible refine Box.alloc ?_ _) | (with_reducible refine Box.other ?_ (by first | (dsimp only; omega) | omega) _))); have z_l_v2 := x_l_v2.lt; have c_l_v2_0 := x_l_v2.c 0 _ rfl; have f_l_v2_0 := x_l_v2.f 0 _ rfl; have c_l_v2_1 := x_l_v2.c 1 _ rfl; have f_l_v2_1 := x_l_v2.f 1 _ rfl; have c_l_v2_2 := x_l_v2.c 2 _ rfl; have f_l_v2_2 := x_l_v2.f 2 _ rfl; have x_x_v2 : Box v2 (w.heap.size + 1) [.int .i64 bu, .int .i64 ra, .int .i64 pe, .int .i64 le, .int .i64 pt, .int .u64 a] := (by refine Box.below ?_ hv2; repeat (first | (with_reducible assumption) | (with_reducible refine Box.drew ?_) | (with_reducible refine Box.drewN ?_ _) | ((with_reducible refine Box.new ?_); simp; done) | (with_reducible apply Box.set2) | ((with_reducible apply Box.put); (with_reducible assumption); rfl) | (with_reducible refine Box.alloc ?_ _) | (with_reducible refine Box.other ?_ (by first | (dsimp only; omega) | omega) _))); have z_x_v2 := x_x_v2.lt; have c_x_v2_0 := x_x_v2.c 0 _ rfl; have f_x_v2_0 := x_x_v2.f 0 _ rfl; have c_x_v2_1 := x_x_v2.c 1 _ rfl; have f_x_v2_1 := x_x_v2.f 1 _ rfl; have c_x_v2_2 := x_x_v2.c 2 _ rfl; have f_x_v2_2 := x_x_v2.f 2 _ rfl; have c_x_v2_3 := x_x_v2.c 3 _ rfl; have f_x_v2_3 := x_x_v2.f 3 _ rfl; have c_x_v2_4 := x_x_v2.c 4 _ rfl; have f_x_v2_4 := x_x_v2.f 4 _ rfl; have c_x_v2_5 := x_x_v2.c 5 _ rfl; have f_x_v2_5 := x_x_v2.f 5 _ rfl; have x_c_v2 : Box v2 (w1.heap.size) [.int .i64 lb, .int .i64 lr, .int .i64 lp, .int .i64 lb, .int .i64 0, .int .u64 t] := (by refine Box.below ?_ hv2; repeat (first | (with_reducible assumption) | (with_reducible refine Box.drew ?_) | (with_reducible refine Box.drewN ?_ _) | ((with_reducible refine Box.new ?_); simp; done) | (with_reducible apply Box.set2) | ((with_reducible apply Box.put); (with_reducible assumption); rfl) | (with_reducible refine Box.alloc ?_ _) | (with_reducible refine Box.other ?_ (by first | (dsimp only; omega) | omega) _))); have z_c_v2 := x_c_v2.lt; have c_c_v2_0 := x_c_v2.c 0 _ rfl; have f_c_v2_0 := x_c_v2.f 0 _ rfl; have c_c_v2_1 := x_c_v2.c 1 _ rfl; have f_c_v2_1 := x_c_v2.f 1 _ rfl; have c_c_v2_2 := x_c_v2.c 2 _ rfl; have f_c_v2_2 := x_c_v2.f 2 _ rfl; have c_c_v2_3 := x_c_v2.c 3 _ rfl; have f_c_v2_3 := x_c_v2.f 3 _ rfl; have c_c_v2_4 := x_c_v2.c 4 _ rfl; have f_c_v2_4 := x_c_v2.f 4 _ rfl; have c_c_v2_5 := x_c_v2.c 5 _ rfl; have f_c_v2_5 := x_c_v2.f 5 _ rfl; have x_d_v2 : Box v2 (w2.heap.size) [.int .i64 lb, .int .i64 lr, .int .i64 lp, .int .i64 lb, .int .i64 0, .int .u64 t] := (by refine Box.below ?_ hv2; repeat (first | (with_reducible assumption) | (with_reducible refine Box.drew ?_) | (with_reducible refine Box.drewN ?_ _) | ((with_reducible refine Box.new ?_); simp; done) | (with_reducible apply Box.set2) | ((with_reducible apply Box.put); (with_reducible assumption); rfl) | (with_reducible refine Box.alloc ?_ _) | (with_reducible refine Box.other ?_ (by first | (dsimp only; omega) | omega) _))); have z_d_v2 := x_d_v2.lt; have c_d_v2_0 := x_d_v2.c 0 _ rfl; have f_d_v2_0 := x_d_v2.f 0 _ rfl; have c_d_v2_1 := x_d_v2.c 1 _ rfl; have f_d_v2_1 := x_d_v2.f 1 _ rfl; have c_d_v2_2 := x_d_v2.c 2 _ rfl; have f_d_v2_2 := x_d_v2.f 2 _ rfl; have c_d_v2_3 := x_d_v2.c 3 _ rfl; have f_d_v2_3 := x_d_v2.f 3 _ rfl; have c_d_v2_4 := x_d_v2.c 4 _ rfl; have f_d_v2_4 := x_d_v2.f 4 _ rfl; have c_d_v2_5 := x_d_v2.c 5 _ rfl; have f_d_v2_5 := x_d_v2.f 5 _ rfl; have x_g_v2 : Box v2 (w3.heap.size) [.int .i64 bu, .int .i64 ra, .int .i64 pe, .int .i64 L, .int .i64 Q, .int .u64 T] := (by refine Box.below ?_ hv2; repeat (first | (with_reducible assumption) | (with_reducible refine Box.drew ?_) | (with_reducible refine Box.drewN ?_ _) | ((with_reducible refine Box.new ?_); simp; done) | (with_reducible apply Box.set2) | ((with_reducible apply Box.put); (with_reducible assumption); rfl) | (with_reducible refine Box.alloc ?_ _) | (with_reducible refine Box.other ?_ (by first | (dsimp only; omega) | omega) _))); have z_g_v2 := x_g_v2.lt; have c_g_v2_0 := x_g_v2.c 0 _ rfl; have f_g_v2_0 := x_g_v2.f 0 _ rfl; have c_g_v2_1 := x_g_v2.c 1 _ rfl; have f_g_v2_1 := x_g_v2.f 1 _ rfl; have c_g_v2_2 := x_g_v2.c 2 _ rfl; have f_g_v2_2 := x_g_v2.f 2 _ rfl; have c_g_v2_3 := x_g_v2.c 3 _ rfl; have f_g_v2_3 := x_g_v2.f 3 _ rfl; have c_g_v2_4 := x_g_v2.c 4 _ rfl; have f_g_v2_4 := x_g_v2.f 4 _ rfl; have c_g_v2_5 := x_g_v2.c 5 _ rfl; have f_g_v2_5 := x_g_v2.f 5 _ rfl; have x_i_v2 : Box v2 (w4.heap.size) [.int .i64 bu, .int .i64 ra, .int .i64 pe, .int .i64 L, .int .i64 Q, .int .u64 T] := (by refine Box.below ?_ hv2; repeat (first | (with_reducible assumption) | (with_reducible refine Box.drew ?_) | (with_reducible refine Box.drewN ?_ _) | ((with_reducible refine Box.new ?_); simp; done) | (with_reducible apply Box.set2) | ((with_reducible apply Box.put); (with_reducible assumption); rfl) | (with_reducible refine Box.alloc ?_ _) | (with_reducible refine Box.other ?_ (by first | (dsimp only; omega) | omega) _))); have z_i_v2 := x_i_v2.lt; have c_i_v2_0 := x_i_v2.c 0 _ rfl; have f_i_v2_0 := x_i_v2.f 0 _ rfl; have c_i_v2_1 := x_i_v2.c 1 _ rfl; have f_i_v2_1 := x_i_v2.f 1 _ rfl; have c_i_v2_2 := x_i_v2.c 2 _ rfl; have f_i_v2_2 := x_i_v2.f 2 _ rfl; have c_i_v2_3 := x_i_v2.c 3 _ rfl; have f_i_v2_3 := x_i_v2.f 3 _ rfl; have c_i_v2_4 := x_i_v2.c 4 _ rfl; have f_i_v2_4 := x_i_v2.f 4 _ rfl; have c_i_v2_5 := x_i_v2.c 5 _ rfl; have f_i_v2_5 := x_i_v2.f 5 _ rfl)
        | (go_at_call 14; refine (check_is h _).mono ?_; rintro e v3 ⟨rfl, hv3⟩; have hV3 : Below w.heap.size w v3 := below_thru (by go_grown) hv3; have hs_v3 : w.heap.size ≤ v3.heap.size := hV3.size; have x_l_v3 : Box v3 (w.heap.size) [.int .i64 lb, .int .i64 lr, .int .i64 lp] := (by refine Box.below ?_ hv3; repeat (first | (with_reducible assumption) | (with_reducible refine Box.drew ?_) | (with_reducible refine Box.drewN ?_ _) | ((with_reducible refine Box.new ?_); simp; done) | (with_reducible apply Box.set2) | ((with_reducible apply Box.put); (with_reducible assumption); rfl) | (with_reducible refine Box.alloc ?_ _) | (with_reducible refine Box.other ?_ (by first | (dsimp only; omega) | omega) _))); have z_l_v3 := x_l_v3.lt; have c_l_v3_0 := x_l_v3.c 0 _ rfl; have f_l_v3_0 := x_l_v3.f 0 _ rfl; have c_l_v3_1 := x_l_v3.c 1 _ rfl; have f_l_v3_1 := x_l_v3.f 1 _ rfl; have c_l_v3_2 := x_l_v3.c 2 _ rfl; have f_l_v3_2 := x_l_v3.f 2 _ rfl; have x_x_v3 : Box v3 (w.heap.size + 1) [.int .i64 bu, .int .i64 ra, .int .i64 pe, .int .i64 le, .int .i64 pt, .int .u64 a] := (by refine Box.below ?_ hv3; repeat (first | (with_reducible assumption) | (with_reducible refine Box.drew ?_) | (with_reducible refine Box.drewN ?_ _) | ((with_reducible refine Box.new ?_); simp; done) | (with_reducible apply Box.set2) | ((with_reducible apply Box.put); (with_reducible assumption); rfl) | (with_reducible refine Box.alloc ?_ _) | (with_reducible refine Box.other ?_ (by first | (dsimp only; omega) | omega) _))); have z_x_v3 := x_x_v3.lt; have c_x_v3_0 := x_x_v3.c 0 _ rfl; have f_x_v3_0 := x_x_v3.f 0 _ rfl; have c_x_v3_1 := x_x_v3.c 1 _ rfl; have f_x_v3_1 := x_x_v3.f 1 _ rfl; have c_x_v3_2 := x_x_v3.c 2 _ rfl; have f_x_v3_2 := x_x_v3.f 2 _ rfl; have c_x_v3_3 := x_x_v3.c 3 _ rfl; have f_x_v3_3 := x_x_v3.f 3 _ rfl; have c_x_v3_4 := x_x_v3.c 4 _ rfl; have f_x_v3_4 := x_x_v3.f 4 _ rfl; have c_x_v3_5 := x_x_v3.c 5 _ rfl; have f_x_v3_5 := x_x_v3.f 5 _ rfl; have x_c_v3 : Box v3 (w1.heap.size) [.int .i64 lb, .int .i64 lr, .int .i64 lp, .int .i64 lb, .int .i64 0, .int .u64 t] := (by refine Box.below ?_ hv3; repeat (first | (with_reducible assumption) | (with_reducible refine Box.drew ?_) | (with_reducible refine Box.drewN ?_ _) | ((with_reducible refine Box.new ?_); simp; done) | (with_reducible apply Box.set2) | ((with_reducible apply Box.put); (with_reducible assumption); rfl) | (with_reducible refine Box.alloc ?_ _) | (with_reducible refine Box.other ?_ (by first | (dsimp only; omega) | omega) _))); have z_c_v3 := x_c_v3.lt; have c_c_v3_0 := x_c_v3.c 0 _ rfl; have f_c_v3_0 := x_c_v3.f 0 _ rfl; have c_c_v3_1 := x_c_v3.c 1 _ rfl; have f_c_v3_1 := x_c_v3.f 1 _ rfl; have c_c_v3_2 := x_c_v3.c 2 _ rfl; have f_c_v3_2 := x_c_v3.f 2 _ rfl; have c_c_v3_3 := x_c_v3.c 3 _ rfl; have f_c_v3_3 := x_c_v3.f 3 _ rfl; have c_c_v3_4 := x_c_v3.c 4 _ rfl; have f_c_v3_4 := x_c_v3.f 4 _ rfl; have c_c_v3_5 := x_c_v3.c 5 _ rfl; have f_c_v3_5 := x_c_v3.f 5 _ rfl; have x_d_v3 : Box v3 (w2.heap.size) [.int .i64 lb, .int .i64 lr, .int .i64 lp, .int .i64 lb, .int .i64 0, .int .u64 t] := (by refine Box.below ?_ hv3; repeat (first | (with_reducible assumption) | (with_reducible refine Box.drew ?_) | (with_reducible refine Box.drewN ?_ _) | ((with_reducible refine Box.new ?_); simp; done) | (with_reducible apply Box.set2) | ((with_reducible apply Box.put); (with_reducible assumption); rfl) | (with_reducible refine Box.alloc ?_ _) | (with_reducible refine Box.other ?_ (by first | (dsimp only; omega) | omega) _))); have z_d_v3 := x_d_v3.lt; have c_d_v3_0 := x_d_v3.c 0 _ rfl; have f_d_v3_0 := x_d_v3.f 0 _ rfl; have c_d_v3_1 := x_d_v3.c 1 _ rfl; have f_d_v3_1 := x_d_v3.f 1 _ rfl; have c_d_v3_2 := x_d_v3.c 2 _ rfl; have f_d_v3_2 := x_d_v3.f 2 _ rfl; have c_d_v3_3 := x_d_v3.c 3 _ rfl; have f_d_v3_3 := x_d_v3.f 3 _ rfl; have c_d_v3_4 := x_d_v3.c 4 _ rfl; have f_d_v3_4 := x_d_v3.f 4 _ rfl; have c_d_v3_5 := x_d_v3.c 5 _ rfl; have f_d_v3_5 := x_d_v3.f 5 _ rfl; have x_g_v3 : Box v3 (w3.heap.size) [.int .i64 bu, .int .i64 ra, .int .i64 pe, .int .i64 L, .int .i64 Q, .int .u64 T] := (by refine Box.below ?_ hv3; repeat (first | (with_reducible assumption) | (with_reducible refine Box.drew ?_) | (with_reducible refine Box.drewN ?_ _) | ((with_reducible refine Box.new ?_); simp; done) | (with_reducible apply Box.set2) | ((with_reducible apply Box.put); (with_reducible assumption); rfl) | (with_reducible refine Box.alloc ?_ _) | (with_reducible refine Box.other ?_ (by first | (dsimp only; omega) | omega) _))); have z_g_v3 := x_g_v3.lt; have c_g_v3_0 := x_g_v3.c 0 _ rfl; have f_g_v3_0 := x_g_v3.f 0 _ rfl; have c_g_v3_1 := x_g_v3.c 1 _ rfl; have f_g_v3_1 := x_g_v3.f 1 _ rfl; have c_g_v3_2 := x_g_v3.c 2 _ rfl; have f_g_v3_2 := x_g_v3.f 2 _ rfl; have c_g_v3_3 := x_g_v3.c 3 _ rfl; have f_g_v3_3 := x_g_v3.f 3 _ rfl; have c_g_v3_4 := x_g_v3.c 4 _ rfl; have f_g_v3_4 := x_g_v3.f 4 _ rfl; have c_g_v3_5 := x_g_v3.c 5 _ rfl; have f_g_v3_5 := x_g_v3.f 5 _ rfl; have x_i_v3 : Box v3 (w4.heap.size) [.int .i64 bu, .int .i64 ra, .int .i64 pe, .int .i64 L, .int .i64 Q, .int .u64 T] := (by refine Box.below ?_ hv3; repeat (first | (with_reducible assumption) | (with_reducible refine Box.drew ?_) | (with_reducible refine Box.drewN ?_ _) | ((with_reducible refine Box.new ?_); simp; done) | (with_reducible apply Box.set2) | ((with_reducible apply Box.put); (with_reducible assumption); rfl) | (with_reducible refine Box.alloc ?_ _) | (with_reducible refine Box.other ?_ (by first | (dsimp only; omega) | omega) _))); have z_i_v3 := x_i_v3.lt; have c_i_v3_0 := x_i_v3.c 0 _ rfl; have f_i_v3_0 := x_i_v3.f 0 _ rfl; have c_i_v3_1 := x_i_v3.c 1 _ rfl; have f_i_v3_1 := x_i_v3.f 1 _ rfl; have c_i_v3_2 := x_i_v3.c 2 _ rfl; have f_i_v3_2 := x_i_v3.f 2 _ rfl; have c_i_v3_3 := x_i_v3.c 3 _ rfl; have f_i_v3_3 := x_i_v3.f 3 _ rfl; have c_i_v3_4 := x_i_v3.c 4 _ rfl; have f_i_v3_4 := x_i_v3.f 4 _ rfl; have c_i_v3_5 := x_i_v3.c 5 _ rfl; have f_i_v3_5 := x_i_v3.f 5 _ rfl)
        | (go_at_call 24; refine (rcheck_is h _).mono ?_; rintro e v4 ⟨rfl, hv4⟩; have hV4 : Below w.heap.size w v4 := below_thru (by go_grown) hv4; have hs_v4 : w.heap.size ≤ v4.heap.size := hV4.size; have x_l_v4 : Box v4 (w.heap.size) [.int .i64 lb, .int .i64 lr, .int .i64 lp] := (by refine Box.below ?_ hv4; repeat (first | (with_reducible assumption) | (with_reducible refine Box.drew ?_) | (with_reducible refine Box.drewN ?_ _) | ((with_reducible refine Box.new ?_); simp; done) | (with_reducible apply Box.set2) | ((with_reducible apply Box.put); (with_reducible assumption); rfl) | (with_reducible refine Box.alloc ?_ _) | (with_reducible refine Box.other ?_ (by first | (dsimp only; omega) | omega) _))); have z_l_v4 := x_l_v4.lt; have c_l_v4_0 := x_l_v4.c 0 _ rfl; have f_l_v4_0 := x_l_v4.f 0 _ rfl; have c_l_v4_1 := x_l_v4.c 1 _ rfl; have f_l_v4_1 := x_l_v4.f 1 _ rfl; have c_l_v4_2 := x_l_v4.c 2 _ rfl; have f_l_v4_2 := x_l_v4.f 2 _ rfl; have x_x_v4 : Box v4 (w.heap.size + 1) [.int .i64 bu, .int .i64 ra, .int .i64 pe, .int .i64 le, .int .i64 pt, .int .u64 a] := (by refine Box.below ?_ hv4; repeat (first | (with_reducible assumption) | (with_reducible refine Box.drew ?_) | (with_reducible refine Box.drewN ?_ _) | ((with_reducible refine Box.new ?_); simp; done) | (with_reducible apply Box.set2) | ((with_reducible apply Box.put); (with_reducible assumption); rfl) | (with_reducible refine Box.alloc ?_ _) | (with_reducible refine Box.other ?_ (by first | (dsimp only; omega) | omega) _))); have z_x_v4 := x_x_v4.lt; have c_x_v4_0 := x_x_v4.c 0 _ rfl; have f_x_v4_0 := x_x_v4.f 0 _ rfl; have c_x_v4_1 := x_x_v4.c 1 _ rfl; have f_x_v4_1 := x_x_v4.f 1 _ rfl; have c_x_v4_2 := x_x_v4.c 2 _ rfl; have f_x_v4_2 := x_x_v4.f 2 _ rfl; have c_x_v4_3 := x_x_v4.c 3 _ rfl; have f_x_v4_3 := x_x_v4.f 3 _ rfl; have c_x_v4_4 := x_x_v4.c 4 _ rfl; have f_x_v4_4 := x_x_v4.f 4 _ rfl; have c_x_v4_5 := x_x_v4.c 5 _ rfl; have f_x_v4_5 := x_x_v4.f 5 _ rfl; have x_c_v4 : Box v4 (w1.heap.size) [.int .i64 lb, .int .i64 lr, .int .i64 lp, .int .i64 lb, .int .i64 0, .int .u64 t] := (by refine Box.below ?_ hv4; repeat (first | (with_reducible assumption) | (with_reducible refine Box.drew ?_) | (with_reducible refine Box.drewN ?_ _) | ((with_reducible refine Box.new ?_); simp; done) | (with_reducible apply Box.set2) | ((with_reducible apply Box.put); (with_reducible assumption); rfl) | (with_reducible refine Box.alloc ?_ _) | (with_reducible refine Box.other ?_ (by first | (dsimp only; omega) | omega) _))); have z_c_v4 := x_c_v4.lt; have c_c_v4_0 := x_c_v4.c 0 _ rfl; have f_c_v4_0 := x_c_v4.f 0 _ rfl; have c_c_v4_1 := x_c_v4.c 1 _ rfl; have f_c_v4_1 := x_c_v4.f 1 _ rfl; have c_c_v4_2 := x_c_v4.c 2 _ rfl; have f_c_v4_2 := x_c_v4.f 2 _ rfl; have c_c_v4_3 := x_c_v4.c 3 _ rfl; have f_c_v4_3 := x_c_v4.f 3 _ rfl; have c_c_v4_4 := x_c_v4.c 4 _ rfl; have f_c_v4_4 := x_c_v4.f 4 _ rfl; have c_c_v4_5 := x_c_v4.c 5 _ rfl; have f_c_v4_5 := x_c_v4.f 5 _ rfl; have x_d_v4 : Box v4 (w2.heap.size) [.int .i64 lb, .int .i64 lr, .int .i64 lp, .int .i64 lb, .int .i64 0, .int .u64 t] := (by refine Box.below ?_ hv4; repeat (first | (with_reducible assumption) | (with_reducible refine Box.drew ?_) | (with_reducible refine Box.drewN ?_ _) | ((with_reducible refine Box.new ?_); simp; done) | (with_reducible apply Box.set2) | ((with_reducible apply Box.put); (with_reducible assumption); rfl) | (with_reducible refine Box.alloc ?_ _) | (with_reducible refine Box.other ?_ (by first | (dsimp only; omega) | omega) _))); have z_d_v4 := x_d_v4.lt; have c_d_v4_0 := x_d_v4.c 0 _ rfl; have f_d_v4_0 := x_d_v4.f 0 _ rfl; have c_d_v4_1 := x_d_v4.c 1 _ rfl; have f_d_v4_1 := x_d_v4.f 1 _ rfl; have c_d_v4_2 := x_d_v4.c 2 _ rfl; have f_d_v4_2 := x_d_v4.f 2 _ rfl; have c_d_v4_3 := x_d_v4.c 3 _ rfl; have f_d_v4_3 := x_d_v4.f 3 _ rfl; have c_d_v4_4 := x_d_v4.c 4 _ rfl; have f_d_v4_4 := x_d_v4.f 4 _ rfl; have c_d_v4_5 := x_d_v4.c 5 _ rfl; have f_d_v4_5 := x_d_v4.f 5 _ rfl; have x_g_v4 : Box v4 (w3.heap.size) [.int .i64 bu, .int .i64 ra, .int .i64 pe, .int .i64 L, .int .i64 Q, .int .u64 T] := (by refine Box.below ?_ hv4; repeat (first | (with_reducible assumption) | (with_reducible refine Box.drew ?_) | (with_reducible refine Box.drewN ?_ _) | ((with_reducible refine Box.new ?_); simp; done) | (with_reducible apply Box.set2) | ((with_reducible apply Box.put); (with_reducible assumption); rfl) | (with_reducible refine Box.alloc ?_ _) | (with_reducible refine Box.other ?_ (by first | (dsimp only; omega) | omega) _))); have z_g_v4 := x_g_v4.lt; have c_g_v4_0 := x_g_v4.c 0 _ rfl; have f_g_v4_0 := x_g_v4.f 0 _ rfl; have c_g_v4_1 := x_g_v4.c 1 _ rfl; have f_g_v4_1 := x_g_v4.f 1 _ rfl; have c_g_v4_2 := x_g_v4.c 2 _ rfl; have f_g_v4_2 := x_g_v4.f 2 _ rfl; have c_g_v4_3 := x_g_v4.c 3 _ rfl; have f_g_v4_3 := x_g_v4.f 3 _ rfl; have c_g_v4_4 := x_g_v4.c 4 _ rfl; have f_g_v4_4 := x_g_v4.f 4 _ rfl; have c_g_v4_5 := x_g_v4.c 5 _ rfl; have f_g_v4_5 := x_g_v4.f 5 _ rfl; have x_i_v4 : Box v4 (w4.heap.size) [.int .i64 bu, .int .i64 ra, .int .i64 pe, .int .i64 L, .int .i64 Q, .int .u64 T] := (by refine Box.below ?_ hv4; repeat (first | (with_reducible assumption) | (with_reducible refine Box.drew ?_) | (with_reducible refine Box.drewN ?_ _) | ((with_reducible refine Box.new ?_); simp; done) | (with_reducible apply Box.set2) | ((with_reducible apply Box.put); (with_reducible assumption); rfl) | (with_reducible refine Box.alloc ?_ _) | (with_reducible refine Box.other ?_ (by first | (dsimp only; omega) | omega) _))); have z_i_v4 := x_i_v4.lt; have c_i_v4_0 := x_i_v4.c 0 _ rfl; have f_i_v4_0 := x_i_v4.f 0 _ rfl; have c_i_v4_1 := x_i_v4.c 1 _ rfl; have f_i_v4_1 := x_i_v4.f 1 _ rfl; have c_i_v4_2 := x_i_v4.c 2 _ rfl; have f_i_v4_2 := x_i_v4.f 2 _ rfl; have c_i_v4_3 := x_i_v4.c 3 _ rfl; have f_i_v4_3 := x_i_v4.f 3 _ rfl; have c_i_v4_4 := x_i_v4.c 4 _ rfl; have f_i_v4_4 := x_i_v4.f 4 _ rfl; have c_i_v4_5 := x_i_v4.c 5 _ rfl; have f_i_v4_5 := x_i_v4.f 5 _ rfl))
    all_goals
      go_wp2_with fail
      go_meet
      refine ⟨rfl, ?_, ?_, ?_, ?_, ?_, ?_, ?_⟩
      all_goals first
        | ((repeat (first | (with_reducible assumption) | (with_reducible refine Box.drew ?_) | (with_reducible refine Box.drewN ?_ _) | ((with_reducible refine Box.new ?_); simp; done) | (with_reducible apply Box.set2) | (with_reducible refine Box.alloc ?_ _) | (with_reducible refine Box.other ?_ (by first | (dsimp only; omega) | omega) _))); done)
        | (go_grown; done)
  case rest =>
    obtain ⟨rfl, x_l5, x_x5, x_c5, x_d5, x_g5, x_i5, hB5⟩ := hcut
    obtain ⟨w5, rfl⟩ : ∃ u : World, u = wc := ⟨_, rfl⟩
    clear hB4 hs4 x_l4 z_l4 c_l4_0 c_l4_1 c_l4_2 f_l4_0 f_l4_1 f_l4_2 x_x4 z_x4 c_x4_0 c_x4_1 c_x4_2 c_x4_3 c_x4_4 c_x4_5 f_x4_0 f_x4_1 f_x4_2 f_x4_3 f_x4_4 f_x4_5 x_c4 z_c4 c_c4_0 c_c4_1 c_c4_2 c_c4_3 c_c4_4 c_c4_5 f_c4_0 f_c4_1 f_c4_2 f_c4_3 f_c4_4 f_c4_5 x_d4 z_d4 c_d4_0 c_d4_1 c_d4_2 c_d4_3 c_d4_4 c_d4_5 f_d4_0 f_d4_1 f_d4_2 f_d4_3 f_d4_4 f_d4_5 x_g4 z_g4 c_g4_0 c_g4_1 c_g4_2 c_g4_3 c_g4_4 c_g4_5 f_g4_0 f_g4_1 f_g4_2 f_g4_3 f_g4_4 f_g4_5
    have hs5 : w.heap.size ≤ w5.heap.size := hB5.size
    have z_l5 := x_l5.lt
    have c_l5_0 := x_l5.c 0 _ rfl; have f_l5_0 := x_l5.f 0 _ rfl
    have c_l5_1 := x_l5.c 1 _ rfl; have f_l5_1 := x_l5.f 1 _ rfl
    have c_l5_2 := x_l5.c 2 _ rfl; have f_l5_2 := x_l5.f 2 _ rfl
    have z_x5 := x_x5.lt
    have c_x5_0 := x_x5.c 0 _ rfl; have f_x5_0 := x_x5.f 0 _ rfl
    have c_x5_1 := x_x5.c 1 _ rfl; have f_x5_1 := x_x5.f 1 _ rfl
    have c_x5_2 := x_x5.c 2 _ rfl; have f_x5_2 := x_x5.f 2 _ rfl
    have c_x5_3 := x_x5.c 3 _ rfl; have f_x5_3 := x_x5.f 3 _ rfl
    have c_x5_4 := x_x5.c 4 _ rfl; have f_x5_4 := x_x5.f 4 _ rfl
    have c_x5_5 := x_x5.c 5 _ rfl; have f_x5_5 := x_x5.f 5 _ rfl
    have z_c5 := x_c5.lt
    have c_c5_0 := x_c5.c 0 _ rfl; have f_c5_0 := x_c5.f 0 _ rfl
    have c_c5_1 := x_c5.c 1 _ rfl; have f_c5_1 := x_c5.f 1 _ rfl
    have c_c5_2 := x_c5.c 2 _ rfl; have f_c5_2 := x_c5.f 2 _ rfl
    have c_c5_3 := x_c5.c 3 _ rfl; have f_c5_3 := x_c5.f 3 _ rfl
    have c_c5_4 := x_c5.c 4 _ rfl; have f_c5_4 := x_c5.f 4 _ rfl
    have c_c5_5 := x_c5.c 5 _ rfl; have f_c5_5 := x_c5.f 5 _ rfl
    have z_d5 := x_d5.lt
    have c_d5_0 := x_d5.c 0 _ rfl; have f_d5_0 := x_d5.f 0 _ rfl
    have c_d5_1 := x_d5.c 1 _ rfl; have f_d5_1 := x_d5.f 1 _ rfl
    have c_d5_2 := x_d5.c 2 _ rfl; have f_d5_2 := x_d5.f 2 _ rfl
    have c_d5_3 := x_d5.c 3 _ rfl; have f_d5_3 := x_d5.f 3 _ rfl
    have c_d5_4 := x_d5.c 4 _ rfl; have f_d5_4 := x_d5.f 4 _ rfl
    have c_d5_5 := x_d5.c 5 _ rfl; have f_d5_5 := x_d5.f 5 _ rfl
    have z_g5 := x_g5.lt
    have c_g5_0 := x_g5.c 0 _ rfl; have f_g5_0 := x_g5.f 0 _ rfl
    have c_g5_1 := x_g5.c 1 _ rfl; have f_g5_1 := x_g5.f 1 _ rfl
    have c_g5_2 := x_g5.c 2 _ rfl; have f_g5_2 := x_g5.f 2 _ rfl
    have c_g5_3 := x_g5.c 3 _ rfl; have f_g5_3 := x_g5.f 3 _ rfl
    have c_g5_4 := x_g5.c 4 _ rfl; have f_g5_4 := x_g5.f 4 _ rfl
    have c_g5_5 := x_g5.c 5 _ rfl; have f_g5_5 := x_g5.f 5 _ rfl
    have z_i5 := x_i5.lt
    have c_i5_0 := x_i5.c 0 _ rfl; have f_i5_0 := x_i5.f 0 _ rfl
    have c_i5_1 := x_i5.c 1 _ rfl; have f_i5_1 := x_i5.f 1 _ rfl
    have c_i5_2 := x_i5.c 2 _ rfl; have f_i5_2 := x_i5.f 2 _ rfl
    have c_i5_3 := x_i5.c 3 _ rfl; have f_i5_3 := x_i5.f 3 _ rfl
    have c_i5_4 := x_i5.c 4 _ rfl; have f_i5_4 := x_i5.f 4 _ rfl
    have c_i5_5 := x_i5.c 5 _ rfl; have f_i5_5 := x_i5.f 5 _ rfl
    go_wp2_with fail
    go_returns
    exact ⟨rfl, hB5⟩

set_option maxRecDepth 100000 in
set_option maxHeartbeats 3200000 in
theorem fills_yn {lb lr lp bu ra pe le pt a t : Int} (hl : Hid (limE lb lr lp = 0)) (h : Hid (bucE bu ra pe le pt = 8)) (w : World) :
    Calls Try.prog 4 #[.agg #[.int .i64 lb, .int .i64 lr, .int .i64 lp], .agg #[.int .i64 bu, .int .i64 ra, .int .i64 pe, .int .i64 le, .int .i64 pt, .int .u64 a], .int .u64 t] w fun e w' => e = .returned (.bool true) ∧ Below w.heap.size w w' := by
  go_enter Try.func4, Try.ntmps4
  go_wp2_with fail
  refine (full_ok hl _).mono ?_
  rintro e w1 ⟨rfl, hb⟩
  have hB1 : Below w.heap.size w w1 := below_thru (by go_grown) hb
  have hs1 : w.heap.size ≤ w1.heap.size := hB1.size
  have x_l1 : Box w1 (w.heap.size) [.int .i64 lb, .int .i64 lr, .int .i64 lp] := (by refine Box.below ?_ hb; repeat (first | (with_reducible assumption) | (with_reducible refine Box.drew ?_) | (with_reducible refine Box.drewN ?_ _) | ((with_reducible refine Box.new ?_); simp; done) | (with_reducible apply Box.set2) | ((with_reducible apply Box.put); (with_reducible assumption); rfl) | (with_reducible refine Box.alloc ?_ _) | (with_reducible refine Box.other ?_ (by first | (dsimp only; omega) | omega) _)))
  have z_l1 := x_l1.lt
  have c_l1_0 := x_l1.c 0 _ rfl
  have f_l1_0 := x_l1.f 0 _ rfl
  have c_l1_1 := x_l1.c 1 _ rfl
  have f_l1_1 := x_l1.f 1 _ rfl
  have c_l1_2 := x_l1.c 2 _ rfl
  have f_l1_2 := x_l1.f 2 _ rfl
  have x_x1 : Box w1 (w.heap.size + 1) [.int .i64 bu, .int .i64 ra, .int .i64 pe, .int .i64 le, .int .i64 pt, .int .u64 a] := (by refine Box.below ?_ hb; repeat (first | (with_reducible assumption) | (with_reducible refine Box.drew ?_) | (with_reducible refine Box.drewN ?_ _) | ((with_reducible refine Box.new ?_); simp; done) | (with_reducible apply Box.set2) | ((with_reducible apply Box.put); (with_reducible assumption); rfl) | (with_reducible refine Box.alloc ?_ _) | (with_reducible refine Box.other ?_ (by first | (dsimp only; omega) | omega) _)))
  have z_x1 := x_x1.lt
  have c_x1_0 := x_x1.c 0 _ rfl
  have f_x1_0 := x_x1.f 0 _ rfl
  have c_x1_1 := x_x1.c 1 _ rfl
  have f_x1_1 := x_x1.f 1 _ rfl
  have c_x1_2 := x_x1.c 2 _ rfl
  have f_x1_2 := x_x1.f 2 _ rfl
  have c_x1_3 := x_x1.c 3 _ rfl
  have f_x1_3 := x_x1.f 3 _ rfl
  have c_x1_4 := x_x1.c 4 _ rfl
  have f_x1_4 := x_x1.f 4 _ rfl
  have c_x1_5 := x_x1.c 5 _ rfl
  have f_x1_5 := x_x1.f 5 _ rfl
  have t1 := hb.size
  try simp at t1
  clear hb
  go_wp2_with fail
  refine (rfull_ok hl _).mono ?_
  rintro e w2 ⟨rfl, hb⟩
  have hB2 : Below w.heap.size w w2 := below_thru (by go_grown) hb
  have hs2 : w.heap.size ≤ w2.heap.size := hB2.size
  have x_l2 : Box w2 (w.heap.size) [.int .i64 lb, .int .i64 lr, .int .i64 lp] := (by refine Box.below ?_ hb; repeat (first | (with_reducible assumption) | (with_reducible refine Box.drew ?_) | (with_reducible refine Box.drewN ?_ _) | ((with_reducible refine Box.new ?_); simp; done) | (with_reducible apply Box.set2) | ((with_reducible apply Box.put); (with_reducible assumption); rfl) | (with_reducible refine Box.alloc ?_ _) | (with_reducible refine Box.other ?_ (by first | (dsimp only; omega) | omega) _)))
  have z_l2 := x_l2.lt
  have c_l2_0 := x_l2.c 0 _ rfl
  have f_l2_0 := x_l2.f 0 _ rfl
  have c_l2_1 := x_l2.c 1 _ rfl
  have f_l2_1 := x_l2.f 1 _ rfl
  have c_l2_2 := x_l2.c 2 _ rfl
  have f_l2_2 := x_l2.f 2 _ rfl
  have x_x2 : Box w2 (w.heap.size + 1) [.int .i64 bu, .int .i64 ra, .int .i64 pe, .int .i64 le, .int .i64 pt, .int .u64 a] := (by refine Box.below ?_ hb; repeat (first | (with_reducible assumption) | (with_reducible refine Box.drew ?_) | (with_reducible refine Box.drewN ?_ _) | ((with_reducible refine Box.new ?_); simp; done) | (with_reducible apply Box.set2) | ((with_reducible apply Box.put); (with_reducible assumption); rfl) | (with_reducible refine Box.alloc ?_ _) | (with_reducible refine Box.other ?_ (by first | (dsimp only; omega) | omega) _)))
  have z_x2 := x_x2.lt
  have c_x2_0 := x_x2.c 0 _ rfl
  have f_x2_0 := x_x2.f 0 _ rfl
  have c_x2_1 := x_x2.c 1 _ rfl
  have f_x2_1 := x_x2.f 1 _ rfl
  have c_x2_2 := x_x2.c 2 _ rfl
  have f_x2_2 := x_x2.f 2 _ rfl
  have c_x2_3 := x_x2.c 3 _ rfl
  have f_x2_3 := x_x2.f 3 _ rfl
  have c_x2_4 := x_x2.c 4 _ rfl
  have f_x2_4 := x_x2.f 4 _ rfl
  have c_x2_5 := x_x2.c 5 _ rfl
  have f_x2_5 := x_x2.f 5 _ rfl
  have x_c2 : Box w2 (w1.heap.size) [.int .i64 lb, .int .i64 lr, .int .i64 lp, .int .i64 lb, .int .i64 0, .int .u64 t] := (by refine Box.below ?_ hb; repeat (first | (with_reducible assumption) | (with_reducible refine Box.drew ?_) | (with_reducible refine Box.drewN ?_ _) | ((with_reducible refine Box.new ?_); simp; done) | (with_reducible apply Box.set2) | ((with_reducible apply Box.put); (with_reducible assumption); rfl) | (with_reducible refine Box.alloc ?_ _) | (with_reducible refine Box.other ?_ (by first | (dsimp only; omega) | omega) _)))
  have z_c2 := x_c2.lt
  have c_c2_0 := x_c2.c 0 _ rfl
  have f_c2_0 := x_c2.f 0 _ rfl
  have c_c2_1 := x_c2.c 1 _ rfl
  have f_c2_1 := x_c2.f 1 _ rfl
  have c_c2_2 := x_c2.c 2 _ rfl
  have f_c2_2 := x_c2.f 2 _ rfl
  have c_c2_3 := x_c2.c 3 _ rfl
  have f_c2_3 := x_c2.f 3 _ rfl
  have c_c2_4 := x_c2.c 4 _ rfl
  have f_c2_4 := x_c2.f 4 _ rfl
  have c_c2_5 := x_c2.c 5 _ rfl
  have f_c2_5 := x_c2.f 5 _ rfl
  have t2 := hb.size
  try simp at t2
  clear hb hB1 hs1 x_l1 z_l1 c_l1_0 c_l1_1 c_l1_2 f_l1_0 f_l1_1 f_l1_2 x_x1 z_x1 c_x1_0 c_x1_1 c_x1_2 c_x1_3 c_x1_4 c_x1_5 f_x1_0 f_x1_1 f_x1_2 f_x1_3 f_x1_4 f_x1_5
  go_wp2_with fail
  refine (refill_bad h _).mono ?_
  rintro e w3 ⟨rfl, hb⟩
  have hB3 : Below w.heap.size w w3 := below_thru (by go_grown) hb
  have hs3 : w.heap.size ≤ w3.heap.size := hB3.size
  have x_l3 : Box w3 (w.heap.size) [.int .i64 lb, .int .i64 lr, .int .i64 lp] := (by refine Box.below ?_ hb; repeat (first | (with_reducible assumption) | (with_reducible refine Box.drew ?_) | (with_reducible refine Box.drewN ?_ _) | ((with_reducible refine Box.new ?_); simp; done) | (with_reducible apply Box.set2) | ((with_reducible apply Box.put); (with_reducible assumption); rfl) | (with_reducible refine Box.alloc ?_ _) | (with_reducible refine Box.other ?_ (by first | (dsimp only; omega) | omega) _)))
  have z_l3 := x_l3.lt
  have c_l3_0 := x_l3.c 0 _ rfl
  have f_l3_0 := x_l3.f 0 _ rfl
  have c_l3_1 := x_l3.c 1 _ rfl
  have f_l3_1 := x_l3.f 1 _ rfl
  have c_l3_2 := x_l3.c 2 _ rfl
  have f_l3_2 := x_l3.f 2 _ rfl
  have x_x3 : Box w3 (w.heap.size + 1) [.int .i64 bu, .int .i64 ra, .int .i64 pe, .int .i64 le, .int .i64 pt, .int .u64 a] := (by refine Box.below ?_ hb; repeat (first | (with_reducible assumption) | (with_reducible refine Box.drew ?_) | (with_reducible refine Box.drewN ?_ _) | ((with_reducible refine Box.new ?_); simp; done) | (with_reducible apply Box.set2) | ((with_reducible apply Box.put); (with_reducible assumption); rfl) | (with_reducible refine Box.alloc ?_ _) | (with_reducible refine Box.other ?_ (by first | (dsimp only; omega) | omega) _)))
  have z_x3 := x_x3.lt
  have c_x3_0 := x_x3.c 0 _ rfl
  have f_x3_0 := x_x3.f 0 _ rfl
  have c_x3_1 := x_x3.c 1 _ rfl
  have f_x3_1 := x_x3.f 1 _ rfl
  have c_x3_2 := x_x3.c 2 _ rfl
  have f_x3_2 := x_x3.f 2 _ rfl
  have c_x3_3 := x_x3.c 3 _ rfl
  have f_x3_3 := x_x3.f 3 _ rfl
  have c_x3_4 := x_x3.c 4 _ rfl
  have f_x3_4 := x_x3.f 4 _ rfl
  have c_x3_5 := x_x3.c 5 _ rfl
  have f_x3_5 := x_x3.f 5 _ rfl
  have x_c3 : Box w3 (w1.heap.size) [.int .i64 lb, .int .i64 lr, .int .i64 lp, .int .i64 lb, .int .i64 0, .int .u64 t] := (by refine Box.below ?_ hb; repeat (first | (with_reducible assumption) | (with_reducible refine Box.drew ?_) | (with_reducible refine Box.drewN ?_ _) | ((with_reducible refine Box.new ?_); simp; done) | (with_reducible apply Box.set2) | ((with_reducible apply Box.put); (with_reducible assumption); rfl) | (with_reducible refine Box.alloc ?_ _) | (with_reducible refine Box.other ?_ (by first | (dsimp only; omega) | omega) _)))
  have z_c3 := x_c3.lt
  have c_c3_0 := x_c3.c 0 _ rfl
  have f_c3_0 := x_c3.f 0 _ rfl
  have c_c3_1 := x_c3.c 1 _ rfl
  have f_c3_1 := x_c3.f 1 _ rfl
  have c_c3_2 := x_c3.c 2 _ rfl
  have f_c3_2 := x_c3.f 2 _ rfl
  have c_c3_3 := x_c3.c 3 _ rfl
  have f_c3_3 := x_c3.f 3 _ rfl
  have c_c3_4 := x_c3.c 4 _ rfl
  have f_c3_4 := x_c3.f 4 _ rfl
  have c_c3_5 := x_c3.c 5 _ rfl
  have f_c3_5 := x_c3.f 5 _ rfl
  have x_d3 : Box w3 (w2.heap.size) [.int .i64 lb, .int .i64 lr, .int .i64 lp, .int .i64 lb, .int .i64 0, .int .u64 t] := (by refine Box.below ?_ hb; repeat (first | (with_reducible assumption) | (with_reducible refine Box.drew ?_) | (with_reducible refine Box.drewN ?_ _) | ((with_reducible refine Box.new ?_); simp; done) | (with_reducible apply Box.set2) | ((with_reducible apply Box.put); (with_reducible assumption); rfl) | (with_reducible refine Box.alloc ?_ _) | (with_reducible refine Box.other ?_ (by first | (dsimp only; omega) | omega) _)))
  have z_d3 := x_d3.lt
  have c_d3_0 := x_d3.c 0 _ rfl
  have f_d3_0 := x_d3.f 0 _ rfl
  have c_d3_1 := x_d3.c 1 _ rfl
  have f_d3_1 := x_d3.f 1 _ rfl
  have c_d3_2 := x_d3.c 2 _ rfl
  have f_d3_2 := x_d3.f 2 _ rfl
  have c_d3_3 := x_d3.c 3 _ rfl
  have f_d3_3 := x_d3.f 3 _ rfl
  have c_d3_4 := x_d3.c 4 _ rfl
  have f_d3_4 := x_d3.f 4 _ rfl
  have c_d3_5 := x_d3.c 5 _ rfl
  have f_d3_5 := x_d3.f 5 _ rfl
  have t3 := hb.size
  try simp at t3
  clear hb hB2 hs2 x_l2 z_l2 c_l2_0 c_l2_1 c_l2_2 f_l2_0 f_l2_1 f_l2_2 x_x2 z_x2 c_x2_0 c_x2_1 c_x2_2 c_x2_3 c_x2_4 c_x2_5 f_x2_0 f_x2_1 f_x2_2 f_x2_3 f_x2_4 f_x2_5 x_c2 z_c2 c_c2_0 c_c2_1 c_c2_2 c_c2_3 c_c2_4 c_c2_5 f_c2_0 f_c2_1 f_c2_2 f_c2_3 f_c2_4 f_c2_5
  go_wp2_with fail
  refine (rrefill_bad h _).mono ?_
  rintro e w4 ⟨rfl, hb⟩
  have hB4 : Below w.heap.size w w4 := below_thru (by go_grown) hb
  have hs4 : w.heap.size ≤ w4.heap.size := hB4.size
  have x_l4 : Box w4 (w.heap.size) [.int .i64 lb, .int .i64 lr, .int .i64 lp] := (by refine Box.below ?_ hb; repeat (first | (with_reducible assumption) | (with_reducible refine Box.drew ?_) | (with_reducible refine Box.drewN ?_ _) | ((with_reducible refine Box.new ?_); simp; done) | (with_reducible apply Box.set2) | ((with_reducible apply Box.put); (with_reducible assumption); rfl) | (with_reducible refine Box.alloc ?_ _) | (with_reducible refine Box.other ?_ (by first | (dsimp only; omega) | omega) _)))
  have z_l4 := x_l4.lt
  have c_l4_0 := x_l4.c 0 _ rfl
  have f_l4_0 := x_l4.f 0 _ rfl
  have c_l4_1 := x_l4.c 1 _ rfl
  have f_l4_1 := x_l4.f 1 _ rfl
  have c_l4_2 := x_l4.c 2 _ rfl
  have f_l4_2 := x_l4.f 2 _ rfl
  have x_x4 : Box w4 (w.heap.size + 1) [.int .i64 bu, .int .i64 ra, .int .i64 pe, .int .i64 le, .int .i64 pt, .int .u64 a] := (by refine Box.below ?_ hb; repeat (first | (with_reducible assumption) | (with_reducible refine Box.drew ?_) | (with_reducible refine Box.drewN ?_ _) | ((with_reducible refine Box.new ?_); simp; done) | (with_reducible apply Box.set2) | ((with_reducible apply Box.put); (with_reducible assumption); rfl) | (with_reducible refine Box.alloc ?_ _) | (with_reducible refine Box.other ?_ (by first | (dsimp only; omega) | omega) _)))
  have z_x4 := x_x4.lt
  have c_x4_0 := x_x4.c 0 _ rfl
  have f_x4_0 := x_x4.f 0 _ rfl
  have c_x4_1 := x_x4.c 1 _ rfl
  have f_x4_1 := x_x4.f 1 _ rfl
  have c_x4_2 := x_x4.c 2 _ rfl
  have f_x4_2 := x_x4.f 2 _ rfl
  have c_x4_3 := x_x4.c 3 _ rfl
  have f_x4_3 := x_x4.f 3 _ rfl
  have c_x4_4 := x_x4.c 4 _ rfl
  have f_x4_4 := x_x4.f 4 _ rfl
  have c_x4_5 := x_x4.c 5 _ rfl
  have f_x4_5 := x_x4.f 5 _ rfl
  have x_c4 : Box w4 (w1.heap.size) [.int .i64 lb, .int .i64 lr, .int .i64 lp, .int .i64 lb, .int .i64 0, .int .u64 t] := (by refine Box.below ?_ hb; repeat (first | (with_reducible assumption) | (with_reducible refine Box.drew ?_) | (with_reducible refine Box.drewN ?_ _) | ((with_reducible refine Box.new ?_); simp; done) | (with_reducible apply Box.set2) | ((with_reducible apply Box.put); (with_reducible assumption); rfl) | (with_reducible refine Box.alloc ?_ _) | (with_reducible refine Box.other ?_ (by first | (dsimp only; omega) | omega) _)))
  have z_c4 := x_c4.lt
  have c_c4_0 := x_c4.c 0 _ rfl
  have f_c4_0 := x_c4.f 0 _ rfl
  have c_c4_1 := x_c4.c 1 _ rfl
  have f_c4_1 := x_c4.f 1 _ rfl
  have c_c4_2 := x_c4.c 2 _ rfl
  have f_c4_2 := x_c4.f 2 _ rfl
  have c_c4_3 := x_c4.c 3 _ rfl
  have f_c4_3 := x_c4.f 3 _ rfl
  have c_c4_4 := x_c4.c 4 _ rfl
  have f_c4_4 := x_c4.f 4 _ rfl
  have c_c4_5 := x_c4.c 5 _ rfl
  have f_c4_5 := x_c4.f 5 _ rfl
  have x_d4 : Box w4 (w2.heap.size) [.int .i64 lb, .int .i64 lr, .int .i64 lp, .int .i64 lb, .int .i64 0, .int .u64 t] := (by refine Box.below ?_ hb; repeat (first | (with_reducible assumption) | (with_reducible refine Box.drew ?_) | (with_reducible refine Box.drewN ?_ _) | ((with_reducible refine Box.new ?_); simp; done) | (with_reducible apply Box.set2) | ((with_reducible apply Box.put); (with_reducible assumption); rfl) | (with_reducible refine Box.alloc ?_ _) | (with_reducible refine Box.other ?_ (by first | (dsimp only; omega) | omega) _)))
  have z_d4 := x_d4.lt
  have c_d4_0 := x_d4.c 0 _ rfl
  have f_d4_0 := x_d4.f 0 _ rfl
  have c_d4_1 := x_d4.c 1 _ rfl
  have f_d4_1 := x_d4.f 1 _ rfl
  have c_d4_2 := x_d4.c 2 _ rfl
  have f_d4_2 := x_d4.f 2 _ rfl
  have c_d4_3 := x_d4.c 3 _ rfl
  have f_d4_3 := x_d4.f 3 _ rfl
  have c_d4_4 := x_d4.c 4 _ rfl
  have f_d4_4 := x_d4.f 4 _ rfl
  have c_d4_5 := x_d4.c 5 _ rfl
  have f_d4_5 := x_d4.f 5 _ rfl
  have x_g4 : Box w4 (w3.heap.size) [.int .i64 0, .int .i64 0, .int .i64 0, .int .i64 0, .int .i64 0, .int .u64 0] := (by refine Box.below ?_ hb; repeat (first | (with_reducible assumption) | (with_reducible refine Box.drew ?_) | (with_reducible refine Box.drewN ?_ _) | ((with_reducible refine Box.new ?_); simp; done) | (with_reducible apply Box.set2) | ((with_reducible apply Box.put); (with_reducible assumption); rfl) | (with_reducible refine Box.alloc ?_ _) | (with_reducible refine Box.other ?_ (by first | (dsimp only; omega) | omega) _)))
  have z_g4 := x_g4.lt
  have c_g4_0 := x_g4.c 0 _ rfl
  have f_g4_0 := x_g4.f 0 _ rfl
  have c_g4_1 := x_g4.c 1 _ rfl
  have f_g4_1 := x_g4.f 1 _ rfl
  have c_g4_2 := x_g4.c 2 _ rfl
  have f_g4_2 := x_g4.f 2 _ rfl
  have c_g4_3 := x_g4.c 3 _ rfl
  have f_g4_3 := x_g4.f 3 _ rfl
  have c_g4_4 := x_g4.c 4 _ rfl
  have f_g4_4 := x_g4.f 4 _ rfl
  have c_g4_5 := x_g4.c 5 _ rfl
  have f_g4_5 := x_g4.f 5 _ rfl
  have t4 := hb.size
  try simp at t4
  clear hb hB3 hs3 x_l3 z_l3 c_l3_0 c_l3_1 c_l3_2 f_l3_0 f_l3_1 f_l3_2 x_x3 z_x3 c_x3_0 c_x3_1 c_x3_2 c_x3_3 c_x3_4 c_x3_5 f_x3_0 f_x3_1 f_x3_2 f_x3_3 f_x3_4 f_x3_5 x_c3 z_c3 c_c3_0 c_c3_1 c_c3_2 c_c3_3 c_c3_4 c_c3_5 f_c3_0 f_c3_1 f_c3_2 f_c3_3 f_c3_4 f_c3_5 x_d3 z_d3 c_d3_0 c_d3_1 c_d3_2 c_d3_3 c_d3_4 c_d3_5 f_d3_0 f_d3_1 f_d3_2 f_d3_3 f_d3_4 f_d3_5
  go_upto_region 5 with fail
  skip
  go_upto_region 5 with fail
  go_cut [6] (fun q0 wx => q0 = .bool true ∧ Box wx (w.heap.size) [.int .i64 lb, .int .i64 lr, .int .i64 lp] ∧ Box wx (w.heap.size + 1) [.int .i64 bu, .int .i64 ra, .int .i64 pe, .int .i64 le, .int .i64 pt, .int .u64 a] ∧ Box wx (w1.heap.size) [.int .i64 lb, .int .i64 lr, .int .i64 lp, .int .i64 lb, .int .i64 0, .int .u64 t] ∧ Box wx (w2.heap.size) [.int .i64 lb, .int .i64 lr, .int .i64 lp, .int .i64 lb, .int .i64 0, .int .u64 t] ∧ Box wx (w3.heap.size) [.int .i64 0, .int .i64 0, .int .i64 0, .int .i64 0, .int .i64 0, .int .u64 0] ∧ Box wx (w4.heap.size) [.int .i64 0, .int .i64 0, .int .i64 0, .int .i64 0, .int .i64 0, .int .u64 0] ∧ Below w.heap.size w wx)
  case first =>
    go_region_held3 (fun w' => w'.cell? ⟨w.heap.size, 0, none⟩ = some (.int .i64 lb) ∧ w'.cell? ⟨w.heap.size, 1, none⟩ = some (.int .i64 lr) ∧ w'.cell? ⟨w.heap.size, 2, none⟩ = some (.int .i64 lp) ∧ w'.cell? ⟨w.heap.size + 1, 0, none⟩ = some (.int .i64 bu) ∧ w'.cell? ⟨w.heap.size + 1, 1, none⟩ = some (.int .i64 ra) ∧ w'.cell? ⟨w.heap.size + 1, 2, none⟩ = some (.int .i64 pe) ∧ w'.cell? ⟨w.heap.size + 1, 3, none⟩ = some (.int .i64 le) ∧ w'.cell? ⟨w.heap.size + 1, 4, none⟩ = some (.int .i64 pt) ∧ w'.cell? ⟨w.heap.size + 1, 5, none⟩ = some (.int .u64 a) ∧ w'.cell? ⟨w1.heap.size, 0, none⟩ = some (.int .i64 lb) ∧ w'.cell? ⟨w1.heap.size, 1, none⟩ = some (.int .i64 lr) ∧ w'.cell? ⟨w1.heap.size, 2, none⟩ = some (.int .i64 lp) ∧ w'.cell? ⟨w1.heap.size, 3, none⟩ = some (.int .i64 lb) ∧ w'.cell? ⟨w1.heap.size, 4, none⟩ = some (.int .i64 0) ∧ w'.cell? ⟨w1.heap.size, 5, none⟩ = some (.int .u64 t) ∧ w'.cell? ⟨w2.heap.size, 0, none⟩ = some (.int .i64 lb) ∧ w'.cell? ⟨w2.heap.size, 1, none⟩ = some (.int .i64 lr) ∧ w'.cell? ⟨w2.heap.size, 2, none⟩ = some (.int .i64 lp) ∧ w'.cell? ⟨w2.heap.size, 3, none⟩ = some (.int .i64 lb) ∧ w'.cell? ⟨w2.heap.size, 4, none⟩ = some (.int .i64 0) ∧ w'.cell? ⟨w2.heap.size, 5, none⟩ = some (.int .u64 t) ∧ w'.cell? ⟨w3.heap.size, 0, none⟩ = some (.int .i64 0) ∧ w'.cell? ⟨w3.heap.size, 1, none⟩ = some (.int .i64 0) ∧ w'.cell? ⟨w3.heap.size, 2, none⟩ = some (.int .i64 0) ∧ w'.cell? ⟨w3.heap.size, 3, none⟩ = some (.int .i64 0) ∧ w'.cell? ⟨w3.heap.size, 4, none⟩ = some (.int .i64 0) ∧ w'.cell? ⟨w3.heap.size, 5, none⟩ = some (.int .u64 0) ∧ w'.cell? ⟨w4.heap.size, 0, none⟩ = some (.int .i64 0) ∧ w'.cell? ⟨w4.heap.size, 1, none⟩ = some (.int .i64 0) ∧ w'.cell? ⟨w4.heap.size, 2, none⟩ = some (.int .i64 0) ∧ w'.cell? ⟨w4.heap.size, 3, none⟩ = some (.int .i64 0) ∧ w'.cell? ⟨w4.heap.size, 4, none⟩ = some (.int .i64 0) ∧ w'.cell? ⟨w4.heap.size, 5, none⟩ = some (.int .u64 0)) (((repeat' apply And.intro) <;> (first | (go_keep; done) | go_cell)))
      (first
        | (go_at_call 13; refine (limit_is hl _).mono ?_; rintro e v1 ⟨rfl, hv1⟩; have hV1 : Below w.heap.size w v1 := below_thru (by go_grown) hv1; have hs_v1 : w.heap.size ≤ v1.heap.size := hV1.size; have x_l_v1 : Box v1 (w.heap.size) [.int .i64 lb, .int .i64 lr, .int .i64 lp] := (by refine Box.below ?_ hv1; repeat (first | (with_reducible assumption) | (with_reducible refine Box.drew ?_) | (with_reducible refine Box.drewN ?_ _) | ((with_reducible refine Box.new ?_); simp; done) | (with_reducible apply Box.set2) | ((with_reducible apply Box.put); (with_reducible assumption); rfl) | (with_reducible refine Box.alloc ?_ _) | (with_reducible refine Box.other ?_ (by first | (dsimp only; omega) | omega) _))); have z_l_v1 := x_l_v1.lt; have c_l_v1_0 := x_l_v1.c 0 _ rfl; have f_l_v1_0 := x_l_v1.f 0 _ rfl; have c_l_v1_1 := x_l_v1.c 1 _ rfl; have f_l_v1_1 := x_l_v1.f 1 _ rfl; have c_l_v1_2 := x_l_v1.c 2 _ rfl; have f_l_v1_2 := x_l_v1.f 2 _ rfl; have x_x_v1 : Box v1 (w.heap.size + 1) [.int .i64 bu, .int .i64 ra, .int .i64 pe, .int .i64 le, .int .i64 pt, .int .u64 a] := (by refine Box.below ?_ hv1; repeat (first | (with_reducible assumption) | (with_reducible refine Box.drew ?_) | (with_reducible refine Box.drewN ?_ _) | ((with_reducible refine Box.new ?_); simp; done) | (with_reducible apply Box.set2) | ((with_reducible apply Box.put); (with_reducible assumption); rfl) | (with_reducible refine Box.alloc ?_ _) | (with_reducible refine Box.other ?_ (by first | (dsimp only; omega) | omega) _))); have z_x_v1 := x_x_v1.lt; have c_x_v1_0 := x_x_v1.c 0 _ rfl; have f_x_v1_0 := x_x_v1.f 0 _ rfl; have c_x_v1_1 := x_x_v1.c 1 _ rfl; have f_x_v1_1 := x_x_v1.f 1 _ rfl; have c_x_v1_2 := x_x_v1.c 2 _ rfl; have f_x_v1_2 := x_x_v1.f 2 _ rfl; have c_x_v1_3 := x_x_v1.c 3 _ rfl; have f_x_v1_3 := x_x_v1.f 3 _ rfl; have c_x_v1_4 := x_x_v1.c 4 _ rfl; have f_x_v1_4 := x_x_v1.f 4 _ rfl; have c_x_v1_5 := x_x_v1.c 5 _ rfl; have f_x_v1_5 := x_x_v1.f 5 _ rfl; have x_c_v1 : Box v1 (w1.heap.size) [.int .i64 lb, .int .i64 lr, .int .i64 lp, .int .i64 lb, .int .i64 0, .int .u64 t] := (by refine Box.below ?_ hv1; repeat (first | (with_reducible assumption) | (with_reducible refine Box.drew ?_) | (with_reducible refine Box.drewN ?_ _) | ((with_reducible refine Box.new ?_); simp; done) | (with_reducible apply Box.set2) | ((with_reducible apply Box.put); (with_reducible assumption); rfl) | (with_reducible refine Box.alloc ?_ _) | (with_reducible refine Box.other ?_ (by first | (dsimp only; omega) | omega) _))); have z_c_v1 := x_c_v1.lt; have c_c_v1_0 := x_c_v1.c 0 _ rfl; have f_c_v1_0 := x_c_v1.f 0 _ rfl; have c_c_v1_1 := x_c_v1.c 1 _ rfl; have f_c_v1_1 := x_c_v1.f 1 _ rfl; have c_c_v1_2 := x_c_v1.c 2 _ rfl; have f_c_v1_2 := x_c_v1.f 2 _ rfl; have c_c_v1_3 := x_c_v1.c 3 _ rfl; have f_c_v1_3 := x_c_v1.f 3 _ rfl; have c_c_v1_4 := x_c_v1.c 4 _ rfl; have f_c_v1_4 := x_c_v1.f 4 _ rfl; have c_c_v1_5 := x_c_v1.c 5 _ rfl; have f_c_v1_5 := x_c_v1.f 5 _ rfl; have x_d_v1 : Box v1 (w2.heap.size) [.int .i64 lb, .int .i64 lr, .int .i64 lp, .int .i64 lb, .int .i64 0, .int .u64 t] := (by refine Box.below ?_ hv1; repeat (first | (with_reducible assumption) | (with_reducible refine Box.drew ?_) | (with_reducible refine Box.drewN ?_ _) | ((with_reducible refine Box.new ?_); simp; done) | (with_reducible apply Box.set2) | ((with_reducible apply Box.put); (with_reducible assumption); rfl) | (with_reducible refine Box.alloc ?_ _) | (with_reducible refine Box.other ?_ (by first | (dsimp only; omega) | omega) _))); have z_d_v1 := x_d_v1.lt; have c_d_v1_0 := x_d_v1.c 0 _ rfl; have f_d_v1_0 := x_d_v1.f 0 _ rfl; have c_d_v1_1 := x_d_v1.c 1 _ rfl; have f_d_v1_1 := x_d_v1.f 1 _ rfl; have c_d_v1_2 := x_d_v1.c 2 _ rfl; have f_d_v1_2 := x_d_v1.f 2 _ rfl; have c_d_v1_3 := x_d_v1.c 3 _ rfl; have f_d_v1_3 := x_d_v1.f 3 _ rfl; have c_d_v1_4 := x_d_v1.c 4 _ rfl; have f_d_v1_4 := x_d_v1.f 4 _ rfl; have c_d_v1_5 := x_d_v1.c 5 _ rfl; have f_d_v1_5 := x_d_v1.f 5 _ rfl; have x_g_v1 : Box v1 (w3.heap.size) [.int .i64 0, .int .i64 0, .int .i64 0, .int .i64 0, .int .i64 0, .int .u64 0] := (by refine Box.below ?_ hv1; repeat (first | (with_reducible assumption) | (with_reducible refine Box.drew ?_) | (with_reducible refine Box.drewN ?_ _) | ((with_reducible refine Box.new ?_); simp; done) | (with_reducible apply Box.set2) | ((with_reducible apply Box.put); (with_reducible assumption); rfl) | (with_reducible refine Box.alloc ?_ _) | (with_reducible refine Box.other ?_ (by first | (dsimp only; omega) | omega) _))); have z_g_v1 := x_g_v1.lt; have c_g_v1_0 := x_g_v1.c 0 _ rfl; have f_g_v1_0 := x_g_v1.f 0 _ rfl; have c_g_v1_1 := x_g_v1.c 1 _ rfl; have f_g_v1_1 := x_g_v1.f 1 _ rfl; have c_g_v1_2 := x_g_v1.c 2 _ rfl; have f_g_v1_2 := x_g_v1.f 2 _ rfl; have c_g_v1_3 := x_g_v1.c 3 _ rfl; have f_g_v1_3 := x_g_v1.f 3 _ rfl; have c_g_v1_4 := x_g_v1.c 4 _ rfl; have f_g_v1_4 := x_g_v1.f 4 _ rfl; have c_g_v1_5 := x_g_v1.c 5 _ rfl; have f_g_v1_5 := x_g_v1.f 5 _ rfl; have x_i_v1 : Box v1 (w4.heap.size) [.int .i64 0, .int .i64 0, .int .i64 0, .int .i64 0, .int .i64 0, .int .u64 0] := (by refine Box.below ?_ hv1; repeat (first | (with_reducible assumption) | (with_reducible refine Box.drew ?_) | (with_reducible refine Box.drewN ?_ _) | ((with_reducible refine Box.new ?_); simp; done) | (with_reducible apply Box.set2) | ((with_reducible apply Box.put); (with_reducible assumption); rfl) | (with_reducible refine Box.alloc ?_ _) | (with_reducible refine Box.other ?_ (by first | (dsimp only; omega) | omega) _))); have z_i_v1 := x_i_v1.lt; have c_i_v1_0 := x_i_v1.c 0 _ rfl; have f_i_v1_0 := x_i_v1.f 0 _ rfl; have c_i_v1_1 := x_i_v1.c 1 _ rfl; have f_i_v1_1 := x_i_v1.f 1 _ rfl; have c_i_v1_2 := x_i_v1.c 2 _ rfl; have f_i_v1_2 := x_i_v1.f 2 _ rfl; have c_i_v1_3 := x_i_v1.c 3 _ rfl; have f_i_v1_3 := x_i_v1.f 3 _ rfl; have c_i_v1_4 := x_i_v1.c 4 _ rfl; have f_i_v1_4 := x_i_v1.f 4 _ rfl; have c_i_v1_5 := x_i_v1.c 5 _ rfl; have f_i_v1_5 := x_i_v1.f 5 _ rfl)
        | (go_at_call 23; refine (rlimit_is hl _).mono ?_; rintro e v2 ⟨rfl, hv2⟩; have hV2 : Below w.heap.size w v2 := below_thru (by go_grown) hv2; have hs_v2 : w.heap.size ≤ v2.heap.size := hV2.size; have x_l_v2 : Box v2 (w.heap.size) [.int .i64 lb, .int .i64 lr, .int .i64 lp] := (by refine Box.below ?_ hv2; repeat (first | (with_reducible assumption) | (with_reducible refine Box.drew ?_) | (with_reducible refine Box.drewN ?_ _) | ((with_reducible refine Box.new ?_); simp; done) | (with_reducible apply Box.set2) | ((with_reducible apply Box.put); (with_reducible assumption); rfl) | (with_reducible refine Box.alloc ?_ _) | (with_reducible refine Box.other ?_ (by first | (dsimp only; omega) | omega) _))); have z_l_v2 := x_l_v2.lt; have c_l_v2_0 := x_l_v2.c 0 _ rfl; have f_l_v2_0 := x_l_v2.f 0 _ rfl; have c_l_v2_1 := x_l_v2.c 1 _ rfl; have f_l_v2_1 := x_l_v2.f 1 _ rfl; have c_l_v2_2 := x_l_v2.c 2 _ rfl; have f_l_v2_2 := x_l_v2.f 2 _ rfl; have x_x_v2 : Box v2 (w.heap.size + 1) [.int .i64 bu, .int .i64 ra, .int .i64 pe, .int .i64 le, .int .i64 pt, .int .u64 a] := (by refine Box.below ?_ hv2; repeat (first | (with_reducible assumption) | (with_reducible refine Box.drew ?_) | (with_reducible refine Box.drewN ?_ _) | ((with_reducible refine Box.new ?_); simp; done) | (with_reducible apply Box.set2) | ((with_reducible apply Box.put); (with_reducible assumption); rfl) | (with_reducible refine Box.alloc ?_ _) | (with_reducible refine Box.other ?_ (by first | (dsimp only; omega) | omega) _))); have z_x_v2 := x_x_v2.lt; have c_x_v2_0 := x_x_v2.c 0 _ rfl; have f_x_v2_0 := x_x_v2.f 0 _ rfl; have c_x_v2_1 := x_x_v2.c 1 _ rfl; have f_x_v2_1 := x_x_v2.f 1 _ rfl; have c_x_v2_2 := x_x_v2.c 2 _ rfl; have f_x_v2_2 := x_x_v2.f 2 _ rfl; have c_x_v2_3 := x_x_v2.c 3 _ rfl; have f_x_v2_3 := x_x_v2.f 3 _ rfl; have c_x_v2_4 := x_x_v2.c 4 _ rfl; have f_x_v2_4 := x_x_v2.f 4 _ rfl; have c_x_v2_5 := x_x_v2.c 5 _ rfl; have f_x_v2_5 := x_x_v2.f 5 _ rfl; have x_c_v2 : Box v2 (w1.heap.size) [.int .i64 lb, .int .i64 lr, .int .i64 lp, .int .i64 lb, .int .i64 0, .int .u64 t] := (by refine Box.below ?_ hv2; repeat (first | (with_reducible assumption) | (with_reducible refine Box.drew ?_) | (with_reducible refine Box.drewN ?_ _) | ((with_reducible refine Box.new ?_); simp; done) | (with_reducible apply Box.set2) | ((with_reducible apply Box.put); (with_reducible assumption); rfl) | (with_reducible refine Box.alloc ?_ _) | (with_reducible refine Box.other ?_ (by first | (dsimp only; omega) | omega) _))); have z_c_v2 := x_c_v2.lt; have c_c_v2_0 := x_c_v2.c 0 _ rfl; have f_c_v2_0 := x_c_v2.f 0 _ rfl; have c_c_v2_1 := x_c_v2.c 1 _ rfl; have f_c_v2_1 := x_c_v2.f 1 _ rfl; have c_c_v2_2 := x_c_v2.c 2 _ rfl; have f_c_v2_2 := x_c_v2.f 2 _ rfl; have c_c_v2_3 := x_c_v2.c 3 _ rfl; have f_c_v2_3 := x_c_v2.f 3 _ rfl; have c_c_v2_4 := x_c_v2.c 4 _ rfl; have f_c_v2_4 := x_c_v2.f 4 _ rfl; have c_c_v2_5 := x_c_v2.c 5 _ rfl; have f_c_v2_5 := x_c_v2.f 5 _ rfl; have x_d_v2 : Box v2 (w2.heap.size) [.int .i64 lb, .int .i64 lr, .int .i64 lp, .int .i64 lb, .int .i64 0, .int .u64 t] := (by refine Box.below ?_ hv2; repeat (first | (with_reducible assumption) | (with_reducible refine Box.drew ?_) | (with_reducible refine Box.drewN ?_ _) | ((with_reducible refine Box.new ?_); simp; done) | (with_reducible apply Box.set2) | ((with_reducible apply Box.put); (with_reducible assumption); rfl) | (with_reducible refine Box.alloc ?_ _) | (with_reducible refine Box.other ?_ (by first | (dsimp only; omega) | omega) _))); have z_d_v2 := x_d_v2.lt; have c_d_v2_0 := x_d_v2.c 0 _ rfl; have f_d_v2_0 := x_d_v2.f 0 _ rfl; have c_d_v2_1 := x_d_v2.c 1 _ rfl; have f_d_v2_1 := x_d_v2.f 1 _ rfl; have c_d_v2_2 := x_d_v2.c 2 _ rfl; have f_d_v2_2 := x_d_v2.f 2 _ rfl; have c_d_v2_3 := x_d_v2.c 3 _ rfl; have f_d_v2_3 := x_d_v2.f 3 _ rfl; have c_d_v2_4 := x_d_v2.c 4 _ rfl; have f_d_v2_4 := x_d_v2.f 4 _ rfl; have c_d_v2_5 := x_d_v2.c 5 _ rfl; have f_d_v2_5 := x_d_v2.f 5 _ rfl; have x_g_v2 : Box v2 (w3.heap.size) [.int .i64 0, .int .i64 0, .int .i64 0, .int .i64 0, .int .i64 0, .int .u64 0] := (by refine Box.below ?_ hv2; repeat (first | (with_reducible assumption) | (with_reducible refine Box.drew ?_) | (with_reducible refine Box.drewN ?_ _) | ((with_reducible refine Box.new ?_); simp; done) | (with_reducible apply Box.set2) | ((with_reducible apply Box.put); (with_reducible assumption); rfl) | (with_reducible refine Box.alloc ?_ _) | (with_reducible refine Box.other ?_ (by first | (dsimp only; omega) | omega) _))); have z_g_v2 := x_g_v2.lt; have c_g_v2_0 := x_g_v2.c 0 _ rfl; have f_g_v2_0 := x_g_v2.f 0 _ rfl; have c_g_v2_1 := x_g_v2.c 1 _ rfl; have f_g_v2_1 := x_g_v2.f 1 _ rfl; have c_g_v2_2 := x_g_v2.c 2 _ rfl; have f_g_v2_2 := x_g_v2.f 2 _ rfl; have c_g_v2_3 := x_g_v2.c 3 _ rfl; have f_g_v2_3 := x_g_v2.f 3 _ rfl; have c_g_v2_4 := x_g_v2.c 4 _ rfl; have f_g_v2_4 := x_g_v2.f 4 _ rfl; have c_g_v2_5 := x_g_v2.c 5 _ rfl; have f_g_v2_5 := x_g_v2.f 5 _ rfl; have x_i_v2 : Box v2 (w4.heap.size) [.int .i64 0, .int .i64 0, .int .i64 0, .int .i64 0, .int .i64 0, .int .u64 0] := (by refine Box.below ?_ hv2; repeat (first | (with_reducible assumption) | (with_reducible refine Box.drew ?_) | (with_reducible refine Box.drewN ?_ _) | ((with_reducible refine Box.new ?_); simp; done) | (with_reducible apply Box.set2) | ((with_reducible apply Box.put); (with_reducible assumption); rfl) | (with_reducible refine Box.alloc ?_ _) | (with_reducible refine Box.other ?_ (by first | (dsimp only; omega) | omega) _))); have z_i_v2 := x_i_v2.lt; have c_i_v2_0 := x_i_v2.c 0 _ rfl; have f_i_v2_0 := x_i_v2.f 0 _ rfl; have c_i_v2_1 := x_i_v2.c 1 _ rfl; have f_i_v2_1 := x_i_v2.f 1 _ rfl; have c_i_v2_2 := x_i_v2.c 2 _ rfl; have f_i_v2_2 := x_i_v2.f 2 _ rfl; have c_i_v2_3 := x_i_v2.c 3 _ rfl; have f_i_v2_3 := x_i_v2.f 3 _ rfl; have c_i_v2_4 := x_i_v2.c 4 _ rfl; have f_i_v2_4 := x_i_v2.f 4 _ rfl; have c_i_v2_5 := x_i_v2.c 5 _ rfl; have f_i_v2_5 := x_i_v2.f 5 _ rfl)
        | (go_at_call 14; refine (check_is h _).mono ?_; rintro e v3 ⟨rfl, hv3⟩; have hV3 : Below w.heap.size w v3 := below_thru (by go_grown) hv3; have hs_v3 : w.heap.size ≤ v3.heap.size := hV3.size; have x_l_v3 : Box v3 (w.heap.size) [.int .i64 lb, .int .i64 lr, .int .i64 lp] := (by refine Box.below ?_ hv3; repeat (first | (with_reducible assumption) | (with_reducible refine Box.drew ?_) | (with_reducible refine Box.drewN ?_ _) | ((with_reducible refine Box.new ?_); simp; done) | (with_reducible apply Box.set2) | ((with_reducible apply Box.put); (with_reducible assumption); rfl) | (with_reducible refine Box.alloc ?_ _) | (with_reducible refine Box.other ?_ (by first | (dsimp only; omega) | omega) _))); have z_l_v3 := x_l_v3.lt; have c_l_v3_0 := x_l_v3.c 0 _ rfl; have f_l_v3_0 := x_l_v3.f 0 _ rfl; have c_l_v3_1 := x_l_v3.c 1 _ rfl; have f_l_v3_1 := x_l_v3.f 1 _ rfl; have c_l_v3_2 := x_l_v3.c 2 _ rfl; have f_l_v3_2 := x_l_v3.f 2 _ rfl; have x_x_v3 : Box v3 (w.heap.size + 1) [.int .i64 bu, .int .i64 ra, .int .i64 pe, .int .i64 le, .int .i64 pt, .int .u64 a] := (by refine Box.below ?_ hv3; repeat (first | (with_reducible assumption) | (with_reducible refine Box.drew ?_) | (with_reducible refine Box.drewN ?_ _) | ((with_reducible refine Box.new ?_); simp; done) | (with_reducible apply Box.set2) | ((with_reducible apply Box.put); (with_reducible assumption); rfl) | (with_reducible refine Box.alloc ?_ _) | (with_reducible refine Box.other ?_ (by first | (dsimp only; omega) | omega) _))); have z_x_v3 := x_x_v3.lt; have c_x_v3_0 := x_x_v3.c 0 _ rfl; have f_x_v3_0 := x_x_v3.f 0 _ rfl; have c_x_v3_1 := x_x_v3.c 1 _ rfl; have f_x_v3_1 := x_x_v3.f 1 _ rfl; have c_x_v3_2 := x_x_v3.c 2 _ rfl; have f_x_v3_2 := x_x_v3.f 2 _ rfl; have c_x_v3_3 := x_x_v3.c 3 _ rfl; have f_x_v3_3 := x_x_v3.f 3 _ rfl; have c_x_v3_4 := x_x_v3.c 4 _ rfl; have f_x_v3_4 := x_x_v3.f 4 _ rfl; have c_x_v3_5 := x_x_v3.c 5 _ rfl; have f_x_v3_5 := x_x_v3.f 5 _ rfl; have x_c_v3 : Box v3 (w1.heap.size) [.int .i64 lb, .int .i64 lr, .int .i64 lp, .int .i64 lb, .int .i64 0, .int .u64 t] := (by refine Box.below ?_ hv3; repeat (first | (with_reducible assumption) | (with_reducible refine Box.drew ?_) | (with_reducible refine Box.drewN ?_ _) | ((with_reducible refine Box.new ?_); simp; done) | (with_reducible apply Box.set2) | ((with_reducible apply Box.put); (with_reducible assumption); rfl) | (with_reducible refine Box.alloc ?_ _) | (with_reducible refine Box.other ?_ (by first | (dsimp only; omega) | omega) _))); have z_c_v3 := x_c_v3.lt; have c_c_v3_0 := x_c_v3.c 0 _ rfl; have f_c_v3_0 := x_c_v3.f 0 _ rfl; have c_c_v3_1 := x_c_v3.c 1 _ rfl; have f_c_v3_1 := x_c_v3.f 1 _ rfl; have c_c_v3_2 := x_c_v3.c 2 _ rfl; have f_c_v3_2 := x_c_v3.f 2 _ rfl; have c_c_v3_3 := x_c_v3.c 3 _ rfl; have f_c_v3_3 := x_c_v3.f 3 _ rfl; have c_c_v3_4 := x_c_v3.c 4 _ rfl; have f_c_v3_4 := x_c_v3.f 4 _ rfl; have c_c_v3_5 := x_c_v3.c 5 _ rfl; have f_c_v3_5 := x_c_v3.f 5 _ rfl; have x_d_v3 : Box v3 (w2.heap.size) [.int .i64 lb, .int .i64 lr, .int .i64 lp, .int .i64 lb, .int .i64 0, .int .u64 t] := (by refine Box.below ?_ hv3; repeat (first | (with_reducible assumption) | (with_reducible refine Box.drew ?_) | (with_reducible refine Box.drewN ?_ _) | ((with_reducible refine Box.new ?_); simp; done) | (with_reducible apply Box.set2) | ((with_reducible apply Box.put); (with_reducible assumption); rfl) | (with_reducible refine Box.alloc ?_ _) | (with_reducible refine Box.other ?_ (by first | (dsimp only; omega) | omega) _))); have z_d_v3 := x_d_v3.lt; have c_d_v3_0 := x_d_v3.c 0 _ rfl; have f_d_v3_0 := x_d_v3.f 0 _ rfl; have c_d_v3_1 := x_d_v3.c 1 _ rfl; have f_d_v3_1 := x_d_v3.f 1 _ rfl; have c_d_v3_2 := x_d_v3.c 2 _ rfl; have f_d_v3_2 := x_d_v3.f 2 _ rfl; have c_d_v3_3 := x_d_v3.c 3 _ rfl; have f_d_v3_3 := x_d_v3.f 3 _ rfl; have c_d_v3_4 := x_d_v3.c 4 _ rfl; have f_d_v3_4 := x_d_v3.f 4 _ rfl; have c_d_v3_5 := x_d_v3.c 5 _ rfl; have f_d_v3_5 := x_d_v3.f 5 _ rfl; have x_g_v3 : Box v3 (w3.heap.size) [.int .i64 0, .int .i64 0, .int .i64 0, .int .i64 0, .int .i64 0, .int .u64 0] := (by refine Box.below ?_ hv3; repeat (first | (with_reducible assumption) | (with_reducible refine Box.drew ?_) | (with_reducible refine Box.drewN ?_ _) | ((with_reducible refine Box.new ?_); simp; done) | (with_reducible apply Box.set2) | ((with_reducible apply Box.put); (with_reducible assumption); rfl) | (with_reducible refine Box.alloc ?_ _) | (with_reducible refine Box.other ?_ (by first | (dsimp only; omega) | omega) _))); have z_g_v3 := x_g_v3.lt; have c_g_v3_0 := x_g_v3.c 0 _ rfl; have f_g_v3_0 := x_g_v3.f 0 _ rfl; have c_g_v3_1 := x_g_v3.c 1 _ rfl; have f_g_v3_1 := x_g_v3.f 1 _ rfl; have c_g_v3_2 := x_g_v3.c 2 _ rfl; have f_g_v3_2 := x_g_v3.f 2 _ rfl; have c_g_v3_3 := x_g_v3.c 3 _ rfl; have f_g_v3_3 := x_g_v3.f 3 _ rfl; have c_g_v3_4 := x_g_v3.c 4 _ rfl; have f_g_v3_4 := x_g_v3.f 4 _ rfl; have c_g_v3_5 := x_g_v3.c 5 _ rfl; have f_g_v3_5 := x_g_v3.f 5 _ rfl; have x_i_v3 : Box v3 (w4.heap.size) [.int .i64 0, .int .i64 0, .int .i64 0, .int .i64 0, .int .i64 0, .int .u64 0] := (by refine Box.below ?_ hv3; repeat (first | (with_reducible assumption) | (with_reducible refine Box.drew ?_) | (with_reducible refine Box.drewN ?_ _) | ((with_reducible refine Box.new ?_); simp; done) | (with_reducible apply Box.set2) | ((with_reducible apply Box.put); (with_reducible assumption); rfl) | (with_reducible refine Box.alloc ?_ _) | (with_reducible refine Box.other ?_ (by first | (dsimp only; omega) | omega) _))); have z_i_v3 := x_i_v3.lt; have c_i_v3_0 := x_i_v3.c 0 _ rfl; have f_i_v3_0 := x_i_v3.f 0 _ rfl; have c_i_v3_1 := x_i_v3.c 1 _ rfl; have f_i_v3_1 := x_i_v3.f 1 _ rfl; have c_i_v3_2 := x_i_v3.c 2 _ rfl; have f_i_v3_2 := x_i_v3.f 2 _ rfl; have c_i_v3_3 := x_i_v3.c 3 _ rfl; have f_i_v3_3 := x_i_v3.f 3 _ rfl; have c_i_v3_4 := x_i_v3.c 4 _ rfl; have f_i_v3_4 := x_i_v3.f 4 _ rfl; have c_i_v3_5 := x_i_v3.c 5 _ rfl; have f_i_v3_5 := x_i_v3.f 5 _ rfl)
        | (go_at_call 24; refine (rcheck_is h _).mono ?_; rintro e v4 ⟨rfl, hv4⟩; have hV4 : Below w.heap.size w v4 := below_thru (by go_grown) hv4; have hs_v4 : w.heap.size ≤ v4.heap.size := hV4.size; have x_l_v4 : Box v4 (w.heap.size) [.int .i64 lb, .int .i64 lr, .int .i64 lp] := (by refine Box.below ?_ hv4; repeat (first | (with_reducible assumption) | (with_reducible refine Box.drew ?_) | (with_reducible refine Box.drewN ?_ _) | ((with_reducible refine Box.new ?_); simp; done) | (with_reducible apply Box.set2) | ((with_reducible apply Box.put); (with_reducible assumption); rfl) | (with_reducible refine Box.alloc ?_ _) | (with_reducible refine Box.other ?_ (by first | (dsimp only; omega) | omega) _))); have z_l_v4 := x_l_v4.lt; have c_l_v4_0 := x_l_v4.c 0 _ rfl; have f_l_v4_0 := x_l_v4.f 0 _ rfl; have c_l_v4_1 := x_l_v4.c 1 _ rfl; have f_l_v4_1 := x_l_v4.f 1 _ rfl; have c_l_v4_2 := x_l_v4.c 2 _ rfl; have f_l_v4_2 := x_l_v4.f 2 _ rfl; have x_x_v4 : Box v4 (w.heap.size + 1) [.int .i64 bu, .int .i64 ra, .int .i64 pe, .int .i64 le, .int .i64 pt, .int .u64 a] := (by refine Box.below ?_ hv4; repeat (first | (with_reducible assumption) | (with_reducible refine Box.drew ?_) | (with_reducible refine Box.drewN ?_ _) | ((with_reducible refine Box.new ?_); simp; done) | (with_reducible apply Box.set2) | ((with_reducible apply Box.put); (with_reducible assumption); rfl) | (with_reducible refine Box.alloc ?_ _) | (with_reducible refine Box.other ?_ (by first | (dsimp only; omega) | omega) _))); have z_x_v4 := x_x_v4.lt; have c_x_v4_0 := x_x_v4.c 0 _ rfl; have f_x_v4_0 := x_x_v4.f 0 _ rfl; have c_x_v4_1 := x_x_v4.c 1 _ rfl; have f_x_v4_1 := x_x_v4.f 1 _ rfl; have c_x_v4_2 := x_x_v4.c 2 _ rfl; have f_x_v4_2 := x_x_v4.f 2 _ rfl; have c_x_v4_3 := x_x_v4.c 3 _ rfl; have f_x_v4_3 := x_x_v4.f 3 _ rfl; have c_x_v4_4 := x_x_v4.c 4 _ rfl; have f_x_v4_4 := x_x_v4.f 4 _ rfl; have c_x_v4_5 := x_x_v4.c 5 _ rfl; have f_x_v4_5 := x_x_v4.f 5 _ rfl; have x_c_v4 : Box v4 (w1.heap.size) [.int .i64 lb, .int .i64 lr, .int .i64 lp, .int .i64 lb, .int .i64 0, .int .u64 t] := (by refine Box.below ?_ hv4; repeat (first | (with_reducible assumption) | (with_reducible refine Box.drew ?_) | (with_reducible refine Box.drewN ?_ _) | ((with_reducible refine Box.new ?_); simp; done) | (with_reducible apply Box.set2) | ((with_reducible apply Box.put); (with_reducible assumption); rfl) | (with_reducible refine Box.alloc ?_ _) | (with_reducible refine Box.other ?_ (by first | (dsimp only; omega) | omega) _))); have z_c_v4 := x_c_v4.lt; have c_c_v4_0 := x_c_v4.c 0 _ rfl; have f_c_v4_0 := x_c_v4.f 0 _ rfl; have c_c_v4_1 := x_c_v4.c 1 _ rfl; have f_c_v4_1 := x_c_v4.f 1 _ rfl; have c_c_v4_2 := x_c_v4.c 2 _ rfl; have f_c_v4_2 := x_c_v4.f 2 _ rfl; have c_c_v4_3 := x_c_v4.c 3 _ rfl; have f_c_v4_3 := x_c_v4.f 3 _ rfl; have c_c_v4_4 := x_c_v4.c 4 _ rfl; have f_c_v4_4 := x_c_v4.f 4 _ rfl; have c_c_v4_5 := x_c_v4.c 5 _ rfl; have f_c_v4_5 := x_c_v4.f 5 _ rfl; have x_d_v4 : Box v4 (w2.heap.size) [.int .i64 lb, .int .i64 lr, .int .i64 lp, .int .i64 lb, .int .i64 0, .int .u64 t] := (by refine Box.below ?_ hv4; repeat (first | (with_reducible assumption) | (with_reducible refine Box.drew ?_) | (with_reducible refine Box.drewN ?_ _) | ((with_reducible refine Box.new ?_); simp; done) | (with_reducible apply Box.set2) | ((with_reducible apply Box.put); (with_reducible assumption); rfl) | (with_reducible refine Box.alloc ?_ _) | (with_reducible refine Box.other ?_ (by first | (dsimp only; omega) | omega) _))); have z_d_v4 := x_d_v4.lt; have c_d_v4_0 := x_d_v4.c 0 _ rfl; have f_d_v4_0 := x_d_v4.f 0 _ rfl; have c_d_v4_1 := x_d_v4.c 1 _ rfl; have f_d_v4_1 := x_d_v4.f 1 _ rfl; have c_d_v4_2 := x_d_v4.c 2 _ rfl; have f_d_v4_2 := x_d_v4.f 2 _ rfl; have c_d_v4_3 := x_d_v4.c 3 _ rfl; have f_d_v4_3 := x_d_v4.f 3 _ rfl; have c_d_v4_4 := x_d_v4.c 4 _ rfl; have f_d_v4_4 := x_d_v4.f 4 _ rfl; have c_d_v4_5 := x_d_v4.c 5 _ rfl; have f_d_v4_5 := x_d_v4.f 5 _ rfl; have x_g_v4 : Box v4 (w3.heap.size) [.int .i64 0, .int .i64 0, .int .i64 0, .int .i64 0, .int .i64 0, .int .u64 0] := (by refine Box.below ?_ hv4; repeat (first | (with_reducible assumption) | (with_reducible refine Box.drew ?_) | (with_reducible refine Box.drewN ?_ _) | ((with_reducible refine Box.new ?_); simp; done) | (with_reducible apply Box.set2) | ((with_reducible apply Box.put); (with_reducible assumption); rfl) | (with_reducible refine Box.alloc ?_ _) | (with_reducible refine Box.other ?_ (by first | (dsimp only; omega) | omega) _))); have z_g_v4 := x_g_v4.lt; have c_g_v4_0 := x_g_v4.c 0 _ rfl; have f_g_v4_0 := x_g_v4.f 0 _ rfl; have c_g_v4_1 := x_g_v4.c 1 _ rfl; have f_g_v4_1 := x_g_v4.f 1 _ rfl; have c_g_v4_2 := x_g_v4.c 2 _ rfl; have f_g_v4_2 := x_g_v4.f 2 _ rfl; have c_g_v4_3 := x_g_v4.c 3 _ rfl; have f_g_v4_3 := x_g_v4.f 3 _ rfl; have c_g_v4_4 := x_g_v4.c 4 _ rfl; have f_g_v4_4 := x_g_v4.f 4 _ rfl; have c_g_v4_5 := x_g_v4.c 5 _ rfl; have f_g_v4_5 := x_g_v4.f 5 _ rfl; have x_i_v4 : Box v4 (w4.heap.size) [.int .i64 0, .int .i64 0, .int .i64 0, .int .i64 0, .int .i64 0, .int .u64 0] := (by refine Box.below ?_ hv4; repeat (first | (with_reducible assumption) | (with_reducible refine Box.drew ?_) | (with_reducible refine Box.drewN ?_ _) | ((with_reducible refine Box.new ?_); simp; done) | (with_reducible apply Box.set2) | ((with_reducible apply Box.put); (with_reducible assumption); rfl) | (with_reducible refine Box.alloc ?_ _) | (with_reducible refine Box.other ?_ (by first | (dsimp only; omega) | omega) _))); have z_i_v4 := x_i_v4.lt; have c_i_v4_0 := x_i_v4.c 0 _ rfl; have f_i_v4_0 := x_i_v4.f 0 _ rfl; have c_i_v4_1 := x_i_v4.c 1 _ rfl; have f_i_v4_1 := x_i_v4.f 1 _ rfl; have c_i_v4_2 := x_i_v4.c 2 _ rfl; have f_i_v4_2 := x_i_v4.f 2 _ rfl; have c_i_v4_3 := x_i_v4.c 3 _ rfl; have f_i_v4_3 := x_i_v4.f 3 _ rfl; have c_i_v4_4 := x_i_v4.c 4 _ rfl; have f_i_v4_4 := x_i_v4.f 4 _ rfl; have c_i_v4_5 := x_i_v4.c 5 _ rfl; have f_i_v4_5 := x_i_v4.f 5 _ rfl))
    all_goals
      go_wp2_with fail
      go_meet
      refine ⟨rfl, ?_, ?_, ?_, ?_, ?_, ?_, ?_⟩
      all_goals first
        | ((repeat (first | (with_reducible assumption) | (with_reducible refine Box.drew ?_) | (with_reducible refine Box.drewN ?_ _) | ((with_reducible refine Box.new ?_); simp; done) | (with_reducible apply Box.set2) | (with_reducible refine Box.alloc ?_ _) | (with_reducible refine Box.other ?_ (by first | (dsimp only; omega) | omega) _))); done)
        | (go_grown; done)
  case rest =>
    obtain ⟨rfl, x_l5, x_x5, x_c5, x_d5, x_g5, x_i5, hB5⟩ := hcut
    obtain ⟨w5, rfl⟩ : ∃ u : World, u = wc := ⟨_, rfl⟩
    clear hB4 hs4 x_l4 z_l4 c_l4_0 c_l4_1 c_l4_2 f_l4_0 f_l4_1 f_l4_2 x_x4 z_x4 c_x4_0 c_x4_1 c_x4_2 c_x4_3 c_x4_4 c_x4_5 f_x4_0 f_x4_1 f_x4_2 f_x4_3 f_x4_4 f_x4_5 x_c4 z_c4 c_c4_0 c_c4_1 c_c4_2 c_c4_3 c_c4_4 c_c4_5 f_c4_0 f_c4_1 f_c4_2 f_c4_3 f_c4_4 f_c4_5 x_d4 z_d4 c_d4_0 c_d4_1 c_d4_2 c_d4_3 c_d4_4 c_d4_5 f_d4_0 f_d4_1 f_d4_2 f_d4_3 f_d4_4 f_d4_5 x_g4 z_g4 c_g4_0 c_g4_1 c_g4_2 c_g4_3 c_g4_4 c_g4_5 f_g4_0 f_g4_1 f_g4_2 f_g4_3 f_g4_4 f_g4_5
    have hs5 : w.heap.size ≤ w5.heap.size := hB5.size
    have z_l5 := x_l5.lt
    have c_l5_0 := x_l5.c 0 _ rfl; have f_l5_0 := x_l5.f 0 _ rfl
    have c_l5_1 := x_l5.c 1 _ rfl; have f_l5_1 := x_l5.f 1 _ rfl
    have c_l5_2 := x_l5.c 2 _ rfl; have f_l5_2 := x_l5.f 2 _ rfl
    have z_x5 := x_x5.lt
    have c_x5_0 := x_x5.c 0 _ rfl; have f_x5_0 := x_x5.f 0 _ rfl
    have c_x5_1 := x_x5.c 1 _ rfl; have f_x5_1 := x_x5.f 1 _ rfl
    have c_x5_2 := x_x5.c 2 _ rfl; have f_x5_2 := x_x5.f 2 _ rfl
    have c_x5_3 := x_x5.c 3 _ rfl; have f_x5_3 := x_x5.f 3 _ rfl
    have c_x5_4 := x_x5.c 4 _ rfl; have f_x5_4 := x_x5.f 4 _ rfl
    have c_x5_5 := x_x5.c 5 _ rfl; have f_x5_5 := x_x5.f 5 _ rfl
    have z_c5 := x_c5.lt
    have c_c5_0 := x_c5.c 0 _ rfl; have f_c5_0 := x_c5.f 0 _ rfl
    have c_c5_1 := x_c5.c 1 _ rfl; have f_c5_1 := x_c5.f 1 _ rfl
    have c_c5_2 := x_c5.c 2 _ rfl; have f_c5_2 := x_c5.f 2 _ rfl
    have c_c5_3 := x_c5.c 3 _ rfl; have f_c5_3 := x_c5.f 3 _ rfl
    have c_c5_4 := x_c5.c 4 _ rfl; have f_c5_4 := x_c5.f 4 _ rfl
    have c_c5_5 := x_c5.c 5 _ rfl; have f_c5_5 := x_c5.f 5 _ rfl
    have z_d5 := x_d5.lt
    have c_d5_0 := x_d5.c 0 _ rfl; have f_d5_0 := x_d5.f 0 _ rfl
    have c_d5_1 := x_d5.c 1 _ rfl; have f_d5_1 := x_d5.f 1 _ rfl
    have c_d5_2 := x_d5.c 2 _ rfl; have f_d5_2 := x_d5.f 2 _ rfl
    have c_d5_3 := x_d5.c 3 _ rfl; have f_d5_3 := x_d5.f 3 _ rfl
    have c_d5_4 := x_d5.c 4 _ rfl; have f_d5_4 := x_d5.f 4 _ rfl
    have c_d5_5 := x_d5.c 5 _ rfl; have f_d5_5 := x_d5.f 5 _ rfl
    have z_g5 := x_g5.lt
    have c_g5_0 := x_g5.c 0 _ rfl; have f_g5_0 := x_g5.f 0 _ rfl
    have c_g5_1 := x_g5.c 1 _ rfl; have f_g5_1 := x_g5.f 1 _ rfl
    have c_g5_2 := x_g5.c 2 _ rfl; have f_g5_2 := x_g5.f 2 _ rfl
    have c_g5_3 := x_g5.c 3 _ rfl; have f_g5_3 := x_g5.f 3 _ rfl
    have c_g5_4 := x_g5.c 4 _ rfl; have f_g5_4 := x_g5.f 4 _ rfl
    have c_g5_5 := x_g5.c 5 _ rfl; have f_g5_5 := x_g5.f 5 _ rfl
    have z_i5 := x_i5.lt
    have c_i5_0 := x_i5.c 0 _ rfl; have f_i5_0 := x_i5.f 0 _ rfl
    have c_i5_1 := x_i5.c 1 _ rfl; have f_i5_1 := x_i5.f 1 _ rfl
    have c_i5_2 := x_i5.c 2 _ rfl; have f_i5_2 := x_i5.f 2 _ rfl
    have c_i5_3 := x_i5.c 3 _ rfl; have f_i5_3 := x_i5.f 3 _ rfl
    have c_i5_4 := x_i5.c 4 _ rfl; have f_i5_4 := x_i5.f 4 _ rfl
    have c_i5_5 := x_i5.c 5 _ rfl; have f_i5_5 := x_i5.f 5 _ rfl
    go_wp2_with fail
    go_returns
    exact ⟨rfl, hB5⟩

set_option maxRecDepth 100000 in
set_option maxHeartbeats 3200000 in
theorem fills_ny {lb lr lp bu ra pe le pt a t : Int} (hl : Hid (limE lb lr lp = 8)) (hb : Buc bu ra pe le pt a) (ht : isU t) (w : World) :
    Calls Try.prog 4 #[.agg #[.int .i64 lb, .int .i64 lr, .int .i64 lp], .agg #[.int .i64 bu, .int .i64 ra, .int .i64 pe, .int .i64 le, .int .i64 pt, .int .u64 a], .int .u64 t] w fun e w' => e = .returned (.bool true) ∧ Below w.heap.size w w' := by
  obtain ⟨L, e1⟩ : ∃ x, filL bu ra pe le pt a t = x := ⟨_, rfl⟩
  obtain ⟨Q, e2⟩ : ∃ x, filP bu ra pe le pt a t = x := ⟨_, rfl⟩
  obtain ⟨T, e3⟩ : ∃ x, filA a t = x := ⟨_, rfl⟩
  have E1 := Lib.hid e1
  have E2 := Lib.hid e2
  have E3 := Lib.hid e3
  have h := Lib.hid hb.ok
  have HB := Lib.hid hb
  clear e1 e2 e3 hb
  go_enter Try.func4, Try.ntmps4
  go_wp2_with fail
  refine (full_no hl _).mono ?_
  rintro e w1 ⟨rfl, hb⟩
  have hB1 : Below w.heap.size w w1 := below_thru (by go_grown) hb
  have hs1 : w.heap.size ≤ w1.heap.size := hB1.size
  have x_l1 : Box w1 (w.heap.size) [.int .i64 lb, .int .i64 lr, .int .i64 lp] := (by refine Box.below ?_ hb; repeat (first | (with_reducible assumption) | (with_reducible refine Box.drew ?_) | (with_reducible refine Box.drewN ?_ _) | ((with_reducible refine Box.new ?_); simp; done) | (with_reducible apply Box.set2) | ((with_reducible apply Box.put); (with_reducible assumption); rfl) | (with_reducible refine Box.alloc ?_ _) | (with_reducible refine Box.other ?_ (by first | (dsimp only; omega) | omega) _)))
  have z_l1 := x_l1.lt
  have c_l1_0 := x_l1.c 0 _ rfl
  have f_l1_0 := x_l1.f 0 _ rfl
  have c_l1_1 := x_l1.c 1 _ rfl
  have f_l1_1 := x_l1.f 1 _ rfl
  have c_l1_2 := x_l1.c 2 _ rfl
  have f_l1_2 := x_l1.f 2 _ rfl
  have x_x1 : Box w1 (w.heap.size + 1) [.int .i64 bu, .int .i64 ra, .int .i64 pe, .int .i64 le, .int .i64 pt, .int .u64 a] := (by refine Box.below ?_ hb; repeat (first | (with_reducible assumption) | (with_reducible refine Box.drew ?_) | (with_reducible refine Box.drewN ?_ _) | ((with_reducible refine Box.new ?_); simp; done) | (with_reducible apply Box.set2) | ((with_reducible apply Box.put); (with_reducible assumption); rfl) | (with_reducible refine Box.alloc ?_ _) | (with_reducible refine Box.other ?_ (by first | (dsimp only; omega) | omega) _)))
  have z_x1 := x_x1.lt
  have c_x1_0 := x_x1.c 0 _ rfl
  have f_x1_0 := x_x1.f 0 _ rfl
  have c_x1_1 := x_x1.c 1 _ rfl
  have f_x1_1 := x_x1.f 1 _ rfl
  have c_x1_2 := x_x1.c 2 _ rfl
  have f_x1_2 := x_x1.f 2 _ rfl
  have c_x1_3 := x_x1.c 3 _ rfl
  have f_x1_3 := x_x1.f 3 _ rfl
  have c_x1_4 := x_x1.c 4 _ rfl
  have f_x1_4 := x_x1.f 4 _ rfl
  have c_x1_5 := x_x1.c 5 _ rfl
  have f_x1_5 := x_x1.f 5 _ rfl
  have t1 := hb.size
  try simp at t1
  clear hb
  go_wp2_with fail
  refine (rfull_no hl _).mono ?_
  rintro e w2 ⟨rfl, hb⟩
  have hB2 : Below w.heap.size w w2 := below_thru (by go_grown) hb
  have hs2 : w.heap.size ≤ w2.heap.size := hB2.size
  have x_l2 : Box w2 (w.heap.size) [.int .i64 lb, .int .i64 lr, .int .i64 lp] := (by refine Box.below ?_ hb; repeat (first | (with_reducible assumption) | (with_reducible refine Box.drew ?_) | (with_reducible refine Box.drewN ?_ _) | ((with_reducible refine Box.new ?_); simp; done) | (with_reducible apply Box.set2) | ((with_reducible apply Box.put); (with_reducible assumption); rfl) | (with_reducible refine Box.alloc ?_ _) | (with_reducible refine Box.other ?_ (by first | (dsimp only; omega) | omega) _)))
  have z_l2 := x_l2.lt
  have c_l2_0 := x_l2.c 0 _ rfl
  have f_l2_0 := x_l2.f 0 _ rfl
  have c_l2_1 := x_l2.c 1 _ rfl
  have f_l2_1 := x_l2.f 1 _ rfl
  have c_l2_2 := x_l2.c 2 _ rfl
  have f_l2_2 := x_l2.f 2 _ rfl
  have x_x2 : Box w2 (w.heap.size + 1) [.int .i64 bu, .int .i64 ra, .int .i64 pe, .int .i64 le, .int .i64 pt, .int .u64 a] := (by refine Box.below ?_ hb; repeat (first | (with_reducible assumption) | (with_reducible refine Box.drew ?_) | (with_reducible refine Box.drewN ?_ _) | ((with_reducible refine Box.new ?_); simp; done) | (with_reducible apply Box.set2) | ((with_reducible apply Box.put); (with_reducible assumption); rfl) | (with_reducible refine Box.alloc ?_ _) | (with_reducible refine Box.other ?_ (by first | (dsimp only; omega) | omega) _)))
  have z_x2 := x_x2.lt
  have c_x2_0 := x_x2.c 0 _ rfl
  have f_x2_0 := x_x2.f 0 _ rfl
  have c_x2_1 := x_x2.c 1 _ rfl
  have f_x2_1 := x_x2.f 1 _ rfl
  have c_x2_2 := x_x2.c 2 _ rfl
  have f_x2_2 := x_x2.f 2 _ rfl
  have c_x2_3 := x_x2.c 3 _ rfl
  have f_x2_3 := x_x2.f 3 _ rfl
  have c_x2_4 := x_x2.c 4 _ rfl
  have f_x2_4 := x_x2.f 4 _ rfl
  have c_x2_5 := x_x2.c 5 _ rfl
  have f_x2_5 := x_x2.f 5 _ rfl
  have x_c2 : Box w2 (w1.heap.size) [.int .i64 0, .int .i64 0, .int .i64 0, .int .i64 0, .int .i64 0, .int .u64 0] := (by refine Box.below ?_ hb; repeat (first | (with_reducible assumption) | (with_reducible refine Box.drew ?_) | (with_reducible refine Box.drewN ?_ _) | ((with_reducible refine Box.new ?_); simp; done) | (with_reducible apply Box.set2) | ((with_reducible apply Box.put); (with_reducible assumption); rfl) | (with_reducible refine Box.alloc ?_ _) | (with_reducible refine Box.other ?_ (by first | (dsimp only; omega) | omega) _)))
  have z_c2 := x_c2.lt
  have c_c2_0 := x_c2.c 0 _ rfl
  have f_c2_0 := x_c2.f 0 _ rfl
  have c_c2_1 := x_c2.c 1 _ rfl
  have f_c2_1 := x_c2.f 1 _ rfl
  have c_c2_2 := x_c2.c 2 _ rfl
  have f_c2_2 := x_c2.f 2 _ rfl
  have c_c2_3 := x_c2.c 3 _ rfl
  have f_c2_3 := x_c2.f 3 _ rfl
  have c_c2_4 := x_c2.c 4 _ rfl
  have f_c2_4 := x_c2.f 4 _ rfl
  have c_c2_5 := x_c2.c 5 _ rfl
  have f_c2_5 := x_c2.f 5 _ rfl
  have t2 := hb.size
  try simp at t2
  clear hb hB1 hs1 x_l1 z_l1 c_l1_0 c_l1_1 c_l1_2 f_l1_0 f_l1_1 f_l1_2 x_x1 z_x1 c_x1_0 c_x1_1 c_x1_2 c_x1_3 c_x1_4 c_x1_5 f_x1_0 f_x1_1 f_x1_2 f_x1_3 f_x1_4 f_x1_5
  go_wp2_with fail
  refine (refill_ok HB.out ht E1 E2 E3 _).mono ?_
  rintro e w3 ⟨rfl, hb⟩
  have hB3 : Below w.heap.size w w3 := below_thru (by go_grown) hb
  have hs3 : w.heap.size ≤ w3.heap.size := hB3.size
  have x_l3 : Box w3 (w.heap.size) [.int .i64 lb, .int .i64 lr, .int .i64 lp] := (by refine Box.below ?_ hb; repeat (first | (with_reducible assumption) | (with_reducible refine Box.drew ?_) | (with_reducible refine Box.drewN ?_ _) | ((with_reducible refine Box.new ?_); simp; done) | (with_reducible apply Box.set2) | ((with_reducible apply Box.put); (with_reducible assumption); rfl) | (with_reducible refine Box.alloc ?_ _) | (with_reducible refine Box.other ?_ (by first | (dsimp only; omega) | omega) _)))
  have z_l3 := x_l3.lt
  have c_l3_0 := x_l3.c 0 _ rfl
  have f_l3_0 := x_l3.f 0 _ rfl
  have c_l3_1 := x_l3.c 1 _ rfl
  have f_l3_1 := x_l3.f 1 _ rfl
  have c_l3_2 := x_l3.c 2 _ rfl
  have f_l3_2 := x_l3.f 2 _ rfl
  have x_x3 : Box w3 (w.heap.size + 1) [.int .i64 bu, .int .i64 ra, .int .i64 pe, .int .i64 le, .int .i64 pt, .int .u64 a] := (by refine Box.below ?_ hb; repeat (first | (with_reducible assumption) | (with_reducible refine Box.drew ?_) | (with_reducible refine Box.drewN ?_ _) | ((with_reducible refine Box.new ?_); simp; done) | (with_reducible apply Box.set2) | ((with_reducible apply Box.put); (with_reducible assumption); rfl) | (with_reducible refine Box.alloc ?_ _) | (with_reducible refine Box.other ?_ (by first | (dsimp only; omega) | omega) _)))
  have z_x3 := x_x3.lt
  have c_x3_0 := x_x3.c 0 _ rfl
  have f_x3_0 := x_x3.f 0 _ rfl
  have c_x3_1 := x_x3.c 1 _ rfl
  have f_x3_1 := x_x3.f 1 _ rfl
  have c_x3_2 := x_x3.c 2 _ rfl
  have f_x3_2 := x_x3.f 2 _ rfl
  have c_x3_3 := x_x3.c 3 _ rfl
  have f_x3_3 := x_x3.f 3 _ rfl
  have c_x3_4 := x_x3.c 4 _ rfl
  have f_x3_4 := x_x3.f 4 _ rfl
  have c_x3_5 := x_x3.c 5 _ rfl
  have f_x3_5 := x_x3.f 5 _ rfl
  have x_c3 : Box w3 (w1.heap.size) [.int .i64 0, .int .i64 0, .int .i64 0, .int .i64 0, .int .i64 0, .int .u64 0] := (by refine Box.below ?_ hb; repeat (first | (with_reducible assumption) | (with_reducible refine Box.drew ?_) | (with_reducible refine Box.drewN ?_ _) | ((with_reducible refine Box.new ?_); simp; done) | (with_reducible apply Box.set2) | ((with_reducible apply Box.put); (with_reducible assumption); rfl) | (with_reducible refine Box.alloc ?_ _) | (with_reducible refine Box.other ?_ (by first | (dsimp only; omega) | omega) _)))
  have z_c3 := x_c3.lt
  have c_c3_0 := x_c3.c 0 _ rfl
  have f_c3_0 := x_c3.f 0 _ rfl
  have c_c3_1 := x_c3.c 1 _ rfl
  have f_c3_1 := x_c3.f 1 _ rfl
  have c_c3_2 := x_c3.c 2 _ rfl
  have f_c3_2 := x_c3.f 2 _ rfl
  have c_c3_3 := x_c3.c 3 _ rfl
  have f_c3_3 := x_c3.f 3 _ rfl
  have c_c3_4 := x_c3.c 4 _ rfl
  have f_c3_4 := x_c3.f 4 _ rfl
  have c_c3_5 := x_c3.c 5 _ rfl
  have f_c3_5 := x_c3.f 5 _ rfl
  have x_d3 : Box w3 (w2.heap.size) [.int .i64 0, .int .i64 0, .int .i64 0, .int .i64 0, .int .i64 0, .int .u64 0] := (by refine Box.below ?_ hb; repeat (first | (with_reducible assumption) | (with_reducible refine Box.drew ?_) | (with_reducible refine Box.drewN ?_ _) | ((with_reducible refine Box.new ?_); simp; done) | (with_reducible apply Box.set2) | ((with_reducible apply Box.put); (with_reducible assumption); rfl) | (with_reducible refine Box.alloc ?_ _) | (with_reducible refine Box.other ?_ (by first | (dsimp only; omega) | omega) _)))
  have z_d3 := x_d3.lt
  have c_d3_0 := x_d3.c 0 _ rfl
  have f_d3_0 := x_d3.f 0 _ rfl
  have c_d3_1 := x_d3.c 1 _ rfl
  have f_d3_1 := x_d3.f 1 _ rfl
  have c_d3_2 := x_d3.c 2 _ rfl
  have f_d3_2 := x_d3.f 2 _ rfl
  have c_d3_3 := x_d3.c 3 _ rfl
  have f_d3_3 := x_d3.f 3 _ rfl
  have c_d3_4 := x_d3.c 4 _ rfl
  have f_d3_4 := x_d3.f 4 _ rfl
  have c_d3_5 := x_d3.c 5 _ rfl
  have f_d3_5 := x_d3.f 5 _ rfl
  have t3 := hb.size
  try simp at t3
  clear hb hB2 hs2 x_l2 z_l2 c_l2_0 c_l2_1 c_l2_2 f_l2_0 f_l2_1 f_l2_2 x_x2 z_x2 c_x2_0 c_x2_1 c_x2_2 c_x2_3 c_x2_4 c_x2_5 f_x2_0 f_x2_1 f_x2_2 f_x2_3 f_x2_4 f_x2_5 x_c2 z_c2 c_c2_0 c_c2_1 c_c2_2 c_c2_3 c_c2_4 c_c2_5 f_c2_0 f_c2_1 f_c2_2 f_c2_3 f_c2_4 f_c2_5
  go_wp2_with fail
  refine (rrefill_ok HB.out ht E1 E2 E3 _).mono ?_
  rintro e w4 ⟨rfl, hb⟩
  have hB4 : Below w.heap.size w w4 := below_thru (by go_grown) hb
  have hs4 : w.heap.size ≤ w4.heap.size := hB4.size
  have x_l4 : Box w4 (w.heap.size) [.int .i64 lb, .int .i64 lr, .int .i64 lp] := (by refine Box.below ?_ hb; repeat (first | (with_reducible assumption) | (with_reducible refine Box.drew ?_) | (with_reducible refine Box.drewN ?_ _) | ((with_reducible refine Box.new ?_); simp; done) | (with_reducible apply Box.set2) | ((with_reducible apply Box.put); (with_reducible assumption); rfl) | (with_reducible refine Box.alloc ?_ _) | (with_reducible refine Box.other ?_ (by first | (dsimp only; omega) | omega) _)))
  have z_l4 := x_l4.lt
  have c_l4_0 := x_l4.c 0 _ rfl
  have f_l4_0 := x_l4.f 0 _ rfl
  have c_l4_1 := x_l4.c 1 _ rfl
  have f_l4_1 := x_l4.f 1 _ rfl
  have c_l4_2 := x_l4.c 2 _ rfl
  have f_l4_2 := x_l4.f 2 _ rfl
  have x_x4 : Box w4 (w.heap.size + 1) [.int .i64 bu, .int .i64 ra, .int .i64 pe, .int .i64 le, .int .i64 pt, .int .u64 a] := (by refine Box.below ?_ hb; repeat (first | (with_reducible assumption) | (with_reducible refine Box.drew ?_) | (with_reducible refine Box.drewN ?_ _) | ((with_reducible refine Box.new ?_); simp; done) | (with_reducible apply Box.set2) | ((with_reducible apply Box.put); (with_reducible assumption); rfl) | (with_reducible refine Box.alloc ?_ _) | (with_reducible refine Box.other ?_ (by first | (dsimp only; omega) | omega) _)))
  have z_x4 := x_x4.lt
  have c_x4_0 := x_x4.c 0 _ rfl
  have f_x4_0 := x_x4.f 0 _ rfl
  have c_x4_1 := x_x4.c 1 _ rfl
  have f_x4_1 := x_x4.f 1 _ rfl
  have c_x4_2 := x_x4.c 2 _ rfl
  have f_x4_2 := x_x4.f 2 _ rfl
  have c_x4_3 := x_x4.c 3 _ rfl
  have f_x4_3 := x_x4.f 3 _ rfl
  have c_x4_4 := x_x4.c 4 _ rfl
  have f_x4_4 := x_x4.f 4 _ rfl
  have c_x4_5 := x_x4.c 5 _ rfl
  have f_x4_5 := x_x4.f 5 _ rfl
  have x_c4 : Box w4 (w1.heap.size) [.int .i64 0, .int .i64 0, .int .i64 0, .int .i64 0, .int .i64 0, .int .u64 0] := (by refine Box.below ?_ hb; repeat (first | (with_reducible assumption) | (with_reducible refine Box.drew ?_) | (with_reducible refine Box.drewN ?_ _) | ((with_reducible refine Box.new ?_); simp; done) | (with_reducible apply Box.set2) | ((with_reducible apply Box.put); (with_reducible assumption); rfl) | (with_reducible refine Box.alloc ?_ _) | (with_reducible refine Box.other ?_ (by first | (dsimp only; omega) | omega) _)))
  have z_c4 := x_c4.lt
  have c_c4_0 := x_c4.c 0 _ rfl
  have f_c4_0 := x_c4.f 0 _ rfl
  have c_c4_1 := x_c4.c 1 _ rfl
  have f_c4_1 := x_c4.f 1 _ rfl
  have c_c4_2 := x_c4.c 2 _ rfl
  have f_c4_2 := x_c4.f 2 _ rfl
  have c_c4_3 := x_c4.c 3 _ rfl
  have f_c4_3 := x_c4.f 3 _ rfl
  have c_c4_4 := x_c4.c 4 _ rfl
  have f_c4_4 := x_c4.f 4 _ rfl
  have c_c4_5 := x_c4.c 5 _ rfl
  have f_c4_5 := x_c4.f 5 _ rfl
  have x_d4 : Box w4 (w2.heap.size) [.int .i64 0, .int .i64 0, .int .i64 0, .int .i64 0, .int .i64 0, .int .u64 0] := (by refine Box.below ?_ hb; repeat (first | (with_reducible assumption) | (with_reducible refine Box.drew ?_) | (with_reducible refine Box.drewN ?_ _) | ((with_reducible refine Box.new ?_); simp; done) | (with_reducible apply Box.set2) | ((with_reducible apply Box.put); (with_reducible assumption); rfl) | (with_reducible refine Box.alloc ?_ _) | (with_reducible refine Box.other ?_ (by first | (dsimp only; omega) | omega) _)))
  have z_d4 := x_d4.lt
  have c_d4_0 := x_d4.c 0 _ rfl
  have f_d4_0 := x_d4.f 0 _ rfl
  have c_d4_1 := x_d4.c 1 _ rfl
  have f_d4_1 := x_d4.f 1 _ rfl
  have c_d4_2 := x_d4.c 2 _ rfl
  have f_d4_2 := x_d4.f 2 _ rfl
  have c_d4_3 := x_d4.c 3 _ rfl
  have f_d4_3 := x_d4.f 3 _ rfl
  have c_d4_4 := x_d4.c 4 _ rfl
  have f_d4_4 := x_d4.f 4 _ rfl
  have c_d4_5 := x_d4.c 5 _ rfl
  have f_d4_5 := x_d4.f 5 _ rfl
  have x_g4 : Box w4 (w3.heap.size) [.int .i64 bu, .int .i64 ra, .int .i64 pe, .int .i64 L, .int .i64 Q, .int .u64 T] := (by refine Box.below ?_ hb; repeat (first | (with_reducible assumption) | (with_reducible refine Box.drew ?_) | (with_reducible refine Box.drewN ?_ _) | ((with_reducible refine Box.new ?_); simp; done) | (with_reducible apply Box.set2) | ((with_reducible apply Box.put); (with_reducible assumption); rfl) | (with_reducible refine Box.alloc ?_ _) | (with_reducible refine Box.other ?_ (by first | (dsimp only; omega) | omega) _)))
  have z_g4 := x_g4.lt
  have c_g4_0 := x_g4.c 0 _ rfl
  have f_g4_0 := x_g4.f 0 _ rfl
  have c_g4_1 := x_g4.c 1 _ rfl
  have f_g4_1 := x_g4.f 1 _ rfl
  have c_g4_2 := x_g4.c 2 _ rfl
  have f_g4_2 := x_g4.f 2 _ rfl
  have c_g4_3 := x_g4.c 3 _ rfl
  have f_g4_3 := x_g4.f 3 _ rfl
  have c_g4_4 := x_g4.c 4 _ rfl
  have f_g4_4 := x_g4.f 4 _ rfl
  have c_g4_5 := x_g4.c 5 _ rfl
  have f_g4_5 := x_g4.f 5 _ rfl
  have t4 := hb.size
  try simp at t4
  clear hb hB3 hs3 x_l3 z_l3 c_l3_0 c_l3_1 c_l3_2 f_l3_0 f_l3_1 f_l3_2 x_x3 z_x3 c_x3_0 c_x3_1 c_x3_2 c_x3_3 c_x3_4 c_x3_5 f_x3_0 f_x3_1 f_x3_2 f_x3_3 f_x3_4 f_x3_5 x_c3 z_c3 c_c3_0 c_c3_1 c_c3_2 c_c3_3 c_c3_4 c_c3_5 f_c3_0 f_c3_1 f_c3_2 f_c3_3 f_c3_4 f_c3_5 x_d3 z_d3 c_d3_0 c_d3_1 c_d3_2 c_d3_3 c_d3_4 c_d3_5 f_d3_0 f_d3_1 f_d3_2 f_d3_3 f_d3_4 f_d3_5
  go_upto_region 5 with fail
  skip
  go_upto_region 5 with fail
  go_cut [6] (fun q0 wx => q0 = .bool true ∧ Box wx (w.heap.size) [.int .i64 lb, .int .i64 lr, .int .i64 lp] ∧ Box wx (w.heap.size + 1) [.int .i64 bu, .int .i64 ra, .int .i64 pe, .int .i64 le, .int .i64 pt, .int .u64 a] ∧ Box wx (w1.heap.size) [.int .i64 0, .int .i64 0, .int .i64 0, .int .i64 0, .int .i64 0, .int .u64 0] ∧ Box wx (w2.heap.size) [.int .i64 0, .int .i64 0, .int .i64 0, .int .i64 0, .int .i64 0, .int .u64 0] ∧ Box wx (w3.heap.size) [.int .i64 bu, .int .i64 ra, .int .i64 pe, .int .i64 L, .int .i64 Q, .int .u64 T] ∧ Box wx (w4.heap.size) [.int .i64 bu, .int .i64 ra, .int .i64 pe, .int .i64 L, .int .i64 Q, .int .u64 T] ∧ Below w.heap.size w wx)
  case first =>
    go_region_held3 (fun w' => w'.cell? ⟨w.heap.size, 0, none⟩ = some (.int .i64 lb) ∧ w'.cell? ⟨w.heap.size, 1, none⟩ = some (.int .i64 lr) ∧ w'.cell? ⟨w.heap.size, 2, none⟩ = some (.int .i64 lp) ∧ w'.cell? ⟨w.heap.size + 1, 0, none⟩ = some (.int .i64 bu) ∧ w'.cell? ⟨w.heap.size + 1, 1, none⟩ = some (.int .i64 ra) ∧ w'.cell? ⟨w.heap.size + 1, 2, none⟩ = some (.int .i64 pe) ∧ w'.cell? ⟨w.heap.size + 1, 3, none⟩ = some (.int .i64 le) ∧ w'.cell? ⟨w.heap.size + 1, 4, none⟩ = some (.int .i64 pt) ∧ w'.cell? ⟨w.heap.size + 1, 5, none⟩ = some (.int .u64 a) ∧ w'.cell? ⟨w1.heap.size, 0, none⟩ = some (.int .i64 0) ∧ w'.cell? ⟨w1.heap.size, 1, none⟩ = some (.int .i64 0) ∧ w'.cell? ⟨w1.heap.size, 2, none⟩ = some (.int .i64 0) ∧ w'.cell? ⟨w1.heap.size, 3, none⟩ = some (.int .i64 0) ∧ w'.cell? ⟨w1.heap.size, 4, none⟩ = some (.int .i64 0) ∧ w'.cell? ⟨w1.heap.size, 5, none⟩ = some (.int .u64 0) ∧ w'.cell? ⟨w2.heap.size, 0, none⟩ = some (.int .i64 0) ∧ w'.cell? ⟨w2.heap.size, 1, none⟩ = some (.int .i64 0) ∧ w'.cell? ⟨w2.heap.size, 2, none⟩ = some (.int .i64 0) ∧ w'.cell? ⟨w2.heap.size, 3, none⟩ = some (.int .i64 0) ∧ w'.cell? ⟨w2.heap.size, 4, none⟩ = some (.int .i64 0) ∧ w'.cell? ⟨w2.heap.size, 5, none⟩ = some (.int .u64 0) ∧ w'.cell? ⟨w3.heap.size, 0, none⟩ = some (.int .i64 bu) ∧ w'.cell? ⟨w3.heap.size, 1, none⟩ = some (.int .i64 ra) ∧ w'.cell? ⟨w3.heap.size, 2, none⟩ = some (.int .i64 pe) ∧ w'.cell? ⟨w3.heap.size, 3, none⟩ = some (.int .i64 L) ∧ w'.cell? ⟨w3.heap.size, 4, none⟩ = some (.int .i64 Q) ∧ w'.cell? ⟨w3.heap.size, 5, none⟩ = some (.int .u64 T) ∧ w'.cell? ⟨w4.heap.size, 0, none⟩ = some (.int .i64 bu) ∧ w'.cell? ⟨w4.heap.size, 1, none⟩ = some (.int .i64 ra) ∧ w'.cell? ⟨w4.heap.size, 2, none⟩ = some (.int .i64 pe) ∧ w'.cell? ⟨w4.heap.size, 3, none⟩ = some (.int .i64 L) ∧ w'.cell? ⟨w4.heap.size, 4, none⟩ = some (.int .i64 Q) ∧ w'.cell? ⟨w4.heap.size, 5, none⟩ = some (.int .u64 T)) (((repeat' apply And.intro) <;> (first | (go_keep; done) | go_cell)))
      (first
        | (go_at_call 13; refine (limit_is hl _).mono ?_; rintro e v1 ⟨rfl, hv1⟩; have hV1 : Below w.heap.size w v1 := below_thru (by go_grown) hv1; have hs_v1 : w.heap.size ≤ v1.heap.size := hV1.size; have x_l_v1 : Box v1 (w.heap.size) [.int .i64 lb, .int .i64 lr, .int .i64 lp] := (by refine Box.below ?_ hv1; repeat (first | (with_reducible assumption) | (with_reducible refine Box.drew ?_) | (with_reducible refine Box.drewN ?_ _) | ((with_reducible refine Box.new ?_); simp; done) | (with_reducible apply Box.set2) | ((with_reducible apply Box.put); (with_reducible assumption); rfl) | (with_reducible refine Box.alloc ?_ _) | (with_reducible refine Box.other ?_ (by first | (dsimp only; omega) | omega) _))); have z_l_v1 := x_l_v1.lt; have c_l_v1_0 := x_l_v1.c 0 _ rfl; have f_l_v1_0 := x_l_v1.f 0 _ rfl; have c_l_v1_1 := x_l_v1.c 1 _ rfl; have f_l_v1_1 := x_l_v1.f 1 _ rfl; have c_l_v1_2 := x_l_v1.c 2 _ rfl; have f_l_v1_2 := x_l_v1.f 2 _ rfl; have x_x_v1 : Box v1 (w.heap.size + 1) [.int .i64 bu, .int .i64 ra, .int .i64 pe, .int .i64 le, .int .i64 pt, .int .u64 a] := (by refine Box.below ?_ hv1; repeat (first | (with_reducible assumption) | (with_reducible refine Box.drew ?_) | (with_reducible refine Box.drewN ?_ _) | ((with_reducible refine Box.new ?_); simp; done) | (with_reducible apply Box.set2) | ((with_reducible apply Box.put); (with_reducible assumption); rfl) | (with_reducible refine Box.alloc ?_ _) | (with_reducible refine Box.other ?_ (by first | (dsimp only; omega) | omega) _))); have z_x_v1 := x_x_v1.lt; have c_x_v1_0 := x_x_v1.c 0 _ rfl; have f_x_v1_0 := x_x_v1.f 0 _ rfl; have c_x_v1_1 := x_x_v1.c 1 _ rfl; have f_x_v1_1 := x_x_v1.f 1 _ rfl; have c_x_v1_2 := x_x_v1.c 2 _ rfl; have f_x_v1_2 := x_x_v1.f 2 _ rfl; have c_x_v1_3 := x_x_v1.c 3 _ rfl; have f_x_v1_3 := x_x_v1.f 3 _ rfl; have c_x_v1_4 := x_x_v1.c 4 _ rfl; have f_x_v1_4 := x_x_v1.f 4 _ rfl; have c_x_v1_5 := x_x_v1.c 5 _ rfl; have f_x_v1_5 := x_x_v1.f 5 _ rfl; have x_c_v1 : Box v1 (w1.heap.size) [.int .i64 0, .int .i64 0, .int .i64 0, .int .i64 0, .int .i64 0, .int .u64 0] := (by refine Box.below ?_ hv1; repeat (first | (with_reducible assumption) | (with_reducible refine Box.drew ?_) | (with_reducible refine Box.drewN ?_ _) | ((with_reducible refine Box.new ?_); simp; done) | (with_reducible apply Box.set2) | ((with_reducible apply Box.put); (with_reducible assumption); rfl) | (with_reducible refine Box.alloc ?_ _) | (with_reducible refine Box.other ?_ (by first | (dsimp only; omega) | omega) _))); have z_c_v1 := x_c_v1.lt; have c_c_v1_0 := x_c_v1.c 0 _ rfl; have f_c_v1_0 := x_c_v1.f 0 _ rfl; have c_c_v1_1 := x_c_v1.c 1 _ rfl; have f_c_v1_1 := x_c_v1.f 1 _ rfl; have c_c_v1_2 := x_c_v1.c 2 _ rfl; have f_c_v1_2 := x_c_v1.f 2 _ rfl; have c_c_v1_3 := x_c_v1.c 3 _ rfl; have f_c_v1_3 := x_c_v1.f 3 _ rfl; have c_c_v1_4 := x_c_v1.c 4 _ rfl; have f_c_v1_4 := x_c_v1.f 4 _ rfl; have c_c_v1_5 := x_c_v1.c 5 _ rfl; have f_c_v1_5 := x_c_v1.f 5 _ rfl; have x_d_v1 : Box v1 (w2.heap.size) [.int .i64 0, .int .i64 0, .int .i64 0, .int .i64 0, .int .i64 0, .int .u64 0] := (by refine Box.below ?_ hv1; repeat (first | (with_reducible assumption) | (with_reducible refine Box.drew ?_) | (with_reducible refine Box.drewN ?_ _) | ((with_reducible refine Box.new ?_); simp; done) | (with_reducible apply Box.set2) | ((with_reducible apply Box.put); (with_reducible assumption); rfl) | (with_reducible refine Box.alloc ?_ _) | (with_reducible refine Box.other ?_ (by first | (dsimp only; omega) | omega) _))); have z_d_v1 := x_d_v1.lt; have c_d_v1_0 := x_d_v1.c 0 _ rfl; have f_d_v1_0 := x_d_v1.f 0 _ rfl; have c_d_v1_1 := x_d_v1.c 1 _ rfl; have f_d_v1_1 := x_d_v1.f 1 _ rfl; have c_d_v1_2 := x_d_v1.c 2 _ rfl; have f_d_v1_2 := x_d_v1.f 2 _ rfl; have c_d_v1_3 := x_d_v1.c 3 _ rfl; have f_d_v1_3 := x_d_v1.f 3 _ rfl; have c_d_v1_4 := x_d_v1.c 4 _ rfl; have f_d_v1_4 := x_d_v1.f 4 _ rfl; have c_d_v1_5 := x_d_v1.c 5 _ rfl; have f_d_v1_5 := x_d_v1.f 5 _ rfl; have x_g_v1 : Box v1 (w3.heap.size) [.int .i64 bu, .int .i64 ra, .int .i64 pe, .int .i64 L, .int .i64 Q, .int .u64 T] := (by refine Box.below ?_ hv1; repeat (first | (with_reducible assumption) | (with_reducible refine Box.drew ?_) | (with_reducible refine Box.drewN ?_ _) | ((with_reducible refine Box.new ?_); simp; done) | (with_reducible apply Box.set2) | ((with_reducible apply Box.put); (with_reducible assumption); rfl) | (with_reducible refine Box.alloc ?_ _) | (with_reducible refine Box.other ?_ (by first | (dsimp only; omega) | omega) _))); have z_g_v1 := x_g_v1.lt; have c_g_v1_0 := x_g_v1.c 0 _ rfl; have f_g_v1_0 := x_g_v1.f 0 _ rfl; have c_g_v1_1 := x_g_v1.c 1 _ rfl; have f_g_v1_1 := x_g_v1.f 1 _ rfl; have c_g_v1_2 := x_g_v1.c 2 _ rfl; have f_g_v1_2 := x_g_v1.f 2 _ rfl; have c_g_v1_3 := x_g_v1.c 3 _ rfl; have f_g_v1_3 := x_g_v1.f 3 _ rfl; have c_g_v1_4 := x_g_v1.c 4 _ rfl; have f_g_v1_4 := x_g_v1.f 4 _ rfl; have c_g_v1_5 := x_g_v1.c 5 _ rfl; have f_g_v1_5 := x_g_v1.f 5 _ rfl; have x_i_v1 : Box v1 (w4.heap.size) [.int .i64 bu, .int .i64 ra, .int .i64 pe, .int .i64 L, .int .i64 Q, .int .u64 T] := (by refine Box.below ?_ hv1; repeat (first | (with_reducible assumption) | (with_reducible refine Box.drew ?_) | (with_reducible refine Box.drewN ?_ _) | ((with_reducible refine Box.new ?_); simp; done) | (with_reducible apply Box.set2) | ((with_reducible apply Box.put); (with_reducible assumption); rfl) | (with_reducible refine Box.alloc ?_ _) | (with_reducible refine Box.other ?_ (by first | (dsimp only; omega) | omega) _))); have z_i_v1 := x_i_v1.lt; have c_i_v1_0 := x_i_v1.c 0 _ rfl; have f_i_v1_0 := x_i_v1.f 0 _ rfl; have c_i_v1_1 := x_i_v1.c 1 _ rfl; have f_i_v1_1 := x_i_v1.f 1 _ rfl; have c_i_v1_2 := x_i_v1.c 2 _ rfl; have f_i_v1_2 := x_i_v1.f 2 _ rfl; have c_i_v1_3 := x_i_v1.c 3 _ rfl; have f_i_v1_3 := x_i_v1.f 3 _ rfl; have c_i_v1_4 := x_i_v1.c 4 _ rfl; have f_i_v1_4 := x_i_v1.f 4 _ rfl; have c_i_v1_5 := x_i_v1.c 5 _ rfl; have f_i_v1_5 := x_i_v1.f 5 _ rfl)
        | (go_at_call 23; refine (rlimit_is hl _).mono ?_; rintro e v2 ⟨rfl, hv2⟩; have hV2 : Below w.heap.size w v2 := below_thru (by go_grown) hv2; have hs_v2 : w.heap.size ≤ v2.heap.size := hV2.size; have x_l_v2 : Box v2 (w.heap.size) [.int .i64 lb, .int .i64 lr, .int .i64 lp] := (by refine Box.below ?_ hv2; repeat (first | (with_reducible assumption) | (with_reducible refine Box.drew ?_) | (with_reducible refine Box.drewN ?_ _) | ((with_reducible refine Box.new ?_); simp; done) | (with_reducible apply Box.set2) | ((with_reducible apply Box.put); (with_reducible assumption); rfl) | (with_reducible refine Box.alloc ?_ _) | (with_reducible refine Box.other ?_ (by first | (dsimp only; omega) | omega) _))); have z_l_v2 := x_l_v2.lt; have c_l_v2_0 := x_l_v2.c 0 _ rfl; have f_l_v2_0 := x_l_v2.f 0 _ rfl; have c_l_v2_1 := x_l_v2.c 1 _ rfl; have f_l_v2_1 := x_l_v2.f 1 _ rfl; have c_l_v2_2 := x_l_v2.c 2 _ rfl; have f_l_v2_2 := x_l_v2.f 2 _ rfl; have x_x_v2 : Box v2 (w.heap.size + 1) [.int .i64 bu, .int .i64 ra, .int .i64 pe, .int .i64 le, .int .i64 pt, .int .u64 a] := (by refine Box.below ?_ hv2; repeat (first | (with_reducible assumption) | (with_reducible refine Box.drew ?_) | (with_reducible refine Box.drewN ?_ _) | ((with_reducible refine Box.new ?_); simp; done) | (with_reducible apply Box.set2) | ((with_reducible apply Box.put); (with_reducible assumption); rfl) | (with_reducible refine Box.alloc ?_ _) | (with_reducible refine Box.other ?_ (by first | (dsimp only; omega) | omega) _))); have z_x_v2 := x_x_v2.lt; have c_x_v2_0 := x_x_v2.c 0 _ rfl; have f_x_v2_0 := x_x_v2.f 0 _ rfl; have c_x_v2_1 := x_x_v2.c 1 _ rfl; have f_x_v2_1 := x_x_v2.f 1 _ rfl; have c_x_v2_2 := x_x_v2.c 2 _ rfl; have f_x_v2_2 := x_x_v2.f 2 _ rfl; have c_x_v2_3 := x_x_v2.c 3 _ rfl; have f_x_v2_3 := x_x_v2.f 3 _ rfl; have c_x_v2_4 := x_x_v2.c 4 _ rfl; have f_x_v2_4 := x_x_v2.f 4 _ rfl; have c_x_v2_5 := x_x_v2.c 5 _ rfl; have f_x_v2_5 := x_x_v2.f 5 _ rfl; have x_c_v2 : Box v2 (w1.heap.size) [.int .i64 0, .int .i64 0, .int .i64 0, .int .i64 0, .int .i64 0, .int .u64 0] := (by refine Box.below ?_ hv2; repeat (first | (with_reducible assumption) | (with_reducible refine Box.drew ?_) | (with_reducible refine Box.drewN ?_ _) | ((with_reducible refine Box.new ?_); simp; done) | (with_reducible apply Box.set2) | ((with_reducible apply Box.put); (with_reducible assumption); rfl) | (with_reducible refine Box.alloc ?_ _) | (with_reducible refine Box.other ?_ (by first | (dsimp only; omega) | omega) _))); have z_c_v2 := x_c_v2.lt; have c_c_v2_0 := x_c_v2.c 0 _ rfl; have f_c_v2_0 := x_c_v2.f 0 _ rfl; have c_c_v2_1 := x_c_v2.c 1 _ rfl; have f_c_v2_1 := x_c_v2.f 1 _ rfl; have c_c_v2_2 := x_c_v2.c 2 _ rfl; have f_c_v2_2 := x_c_v2.f 2 _ rfl; have c_c_v2_3 := x_c_v2.c 3 _ rfl; have f_c_v2_3 := x_c_v2.f 3 _ rfl; have c_c_v2_4 := x_c_v2.c 4 _ rfl; have f_c_v2_4 := x_c_v2.f 4 _ rfl; have c_c_v2_5 := x_c_v2.c 5 _ rfl; have f_c_v2_5 := x_c_v2.f 5 _ rfl; have x_d_v2 : Box v2 (w2.heap.size) [.int .i64 0, .int .i64 0, .int .i64 0, .int .i64 0, .int .i64 0, .int .u64 0] := (by refine Box.below ?_ hv2; repeat (first | (with_reducible assumption) | (with_reducible refine Box.drew ?_) | (with_reducible refine Box.drewN ?_ _) | ((with_reducible refine Box.new ?_); simp; done) | (with_reducible apply Box.set2) | ((with_reducible apply Box.put); (with_reducible assumption); rfl) | (with_reducible refine Box.alloc ?_ _) | (with_reducible refine Box.other ?_ (by first | (dsimp only; omega) | omega) _))); have z_d_v2 := x_d_v2.lt; have c_d_v2_0 := x_d_v2.c 0 _ rfl; have f_d_v2_0 := x_d_v2.f 0 _ rfl; have c_d_v2_1 := x_d_v2.c 1 _ rfl; have f_d_v2_1 := x_d_v2.f 1 _ rfl; have c_d_v2_2 := x_d_v2.c 2 _ rfl; have f_d_v2_2 := x_d_v2.f 2 _ rfl; have c_d_v2_3 := x_d_v2.c 3 _ rfl; have f_d_v2_3 := x_d_v2.f 3 _ rfl; have c_d_v2_4 := x_d_v2.c 4 _ rfl; have f_d_v2_4 := x_d_v2.f 4 _ rfl; have c_d_v2_5 := x_d_v2.c 5 _ rfl; have f_d_v2_5 := x_d_v2.f 5 _ rfl; have x_g_v2 : Box v2 (w3.heap.size) [.int .i64 bu, .int .i64 ra, .int .i64 pe, .int .i64 L, .int .i64 Q, .int .u64 T] := (by refine Box.below ?_ hv2; repeat (first | (with_reducible assumption) | (with_reducible refine Box.drew ?_) | (with_reducible refine Box.drewN ?_ _) | ((with_reducible refine Box.new ?_); simp; done) | (with_reducible apply Box.set2) | ((with_reducible apply Box.put); (with_reducible assumption); rfl) | (with_reducible refine Box.alloc ?_ _) | (with_reducible refine Box.other ?_ (by first | (dsimp only; omega) | omega) _))); have z_g_v2 := x_g_v2.lt; have c_g_v2_0 := x_g_v2.c 0 _ rfl; have f_g_v2_0 := x_g_v2.f 0 _ rfl; have c_g_v2_1 := x_g_v2.c 1 _ rfl; have f_g_v2_1 := x_g_v2.f 1 _ rfl; have c_g_v2_2 := x_g_v2.c 2 _ rfl; have f_g_v2_2 := x_g_v2.f 2 _ rfl; have c_g_v2_3 := x_g_v2.c 3 _ rfl; have f_g_v2_3 := x_g_v2.f 3 _ rfl; have c_g_v2_4 := x_g_v2.c 4 _ rfl; have f_g_v2_4 := x_g_v2.f 4 _ rfl; have c_g_v2_5 := x_g_v2.c 5 _ rfl; have f_g_v2_5 := x_g_v2.f 5 _ rfl; have x_i_v2 : Box v2 (w4.heap.size) [.int .i64 bu, .int .i64 ra, .int .i64 pe, .int .i64 L, .int .i64 Q, .int .u64 T] := (by refine Box.below ?_ hv2; repeat (first | (with_reducible assumption) | (with_reducible refine Box.drew ?_) | (with_reducible refine Box.drewN ?_ _) | ((with_reducible refine Box.new ?_); simp; done) | (with_reducible apply Box.set2) | ((with_reducible apply Box.put); (with_reducible assumption); rfl) | (with_reducible refine Box.alloc ?_ _) | (with_reducible refine Box.other ?_ (by first | (dsimp only; omega) | omega) _))); have z_i_v2 := x_i_v2.lt; have c_i_v2_0 := x_i_v2.c 0 _ rfl; have f_i_v2_0 := x_i_v2.f 0 _ rfl; have c_i_v2_1 := x_i_v2.c 1 _ rfl; have f_i_v2_1 := x_i_v2.f 1 _ rfl; have c_i_v2_2 := x_i_v2.c 2 _ rfl; have f_i_v2_2 := x_i_v2.f 2 _ rfl; have c_i_v2_3 := x_i_v2.c 3 _ rfl; have f_i_v2_3 := x_i_v2.f 3 _ rfl; have c_i_v2_4 := x_i_v2.c 4 _ rfl; have f_i_v2_4 := x_i_v2.f 4 _ rfl; have c_i_v2_5 := x_i_v2.c 5 _ rfl; have f_i_v2_5 := x_i_v2.f 5 _ rfl)
        | (go_at_call 14; refine (check_is h _).mono ?_; rintro e v3 ⟨rfl, hv3⟩; have hV3 : Below w.heap.size w v3 := below_thru (by go_grown) hv3; have hs_v3 : w.heap.size ≤ v3.heap.size := hV3.size; have x_l_v3 : Box v3 (w.heap.size) [.int .i64 lb, .int .i64 lr, .int .i64 lp] := (by refine Box.below ?_ hv3; repeat (first | (with_reducible assumption) | (with_reducible refine Box.drew ?_) | (with_reducible refine Box.drewN ?_ _) | ((with_reducible refine Box.new ?_); simp; done) | (with_reducible apply Box.set2) | ((with_reducible apply Box.put); (with_reducible assumption); rfl) | (with_reducible refine Box.alloc ?_ _) | (with_reducible refine Box.other ?_ (by first | (dsimp only; omega) | omega) _))); have z_l_v3 := x_l_v3.lt; have c_l_v3_0 := x_l_v3.c 0 _ rfl; have f_l_v3_0 := x_l_v3.f 0 _ rfl; have c_l_v3_1 := x_l_v3.c 1 _ rfl; have f_l_v3_1 := x_l_v3.f 1 _ rfl; have c_l_v3_2 := x_l_v3.c 2 _ rfl; have f_l_v3_2 := x_l_v3.f 2 _ rfl; have x_x_v3 : Box v3 (w.heap.size + 1) [.int .i64 bu, .int .i64 ra, .int .i64 pe, .int .i64 le, .int .i64 pt, .int .u64 a] := (by refine Box.below ?_ hv3; repeat (first | (with_reducible assumption) | (with_reducible refine Box.drew ?_) | (with_reducible refine Box.drewN ?_ _) | ((with_reducible refine Box.new ?_); simp; done) | (with_reducible apply Box.set2) | ((with_reducible apply Box.put); (with_reducible assumption); rfl) | (with_reducible refine Box.alloc ?_ _) | (with_reducible refine Box.other ?_ (by first | (dsimp only; omega) | omega) _))); have z_x_v3 := x_x_v3.lt; have c_x_v3_0 := x_x_v3.c 0 _ rfl; have f_x_v3_0 := x_x_v3.f 0 _ rfl; have c_x_v3_1 := x_x_v3.c 1 _ rfl; have f_x_v3_1 := x_x_v3.f 1 _ rfl; have c_x_v3_2 := x_x_v3.c 2 _ rfl; have f_x_v3_2 := x_x_v3.f 2 _ rfl; have c_x_v3_3 := x_x_v3.c 3 _ rfl; have f_x_v3_3 := x_x_v3.f 3 _ rfl; have c_x_v3_4 := x_x_v3.c 4 _ rfl; have f_x_v3_4 := x_x_v3.f 4 _ rfl; have c_x_v3_5 := x_x_v3.c 5 _ rfl; have f_x_v3_5 := x_x_v3.f 5 _ rfl; have x_c_v3 : Box v3 (w1.heap.size) [.int .i64 0, .int .i64 0, .int .i64 0, .int .i64 0, .int .i64 0, .int .u64 0] := (by refine Box.below ?_ hv3; repeat (first | (with_reducible assumption) | (with_reducible refine Box.drew ?_) | (with_reducible refine Box.drewN ?_ _) | ((with_reducible refine Box.new ?_); simp; done) | (with_reducible apply Box.set2) | ((with_reducible apply Box.put); (with_reducible assumption); rfl) | (with_reducible refine Box.alloc ?_ _) | (with_reducible refine Box.other ?_ (by first | (dsimp only; omega) | omega) _))); have z_c_v3 := x_c_v3.lt; have c_c_v3_0 := x_c_v3.c 0 _ rfl; have f_c_v3_0 := x_c_v3.f 0 _ rfl; have c_c_v3_1 := x_c_v3.c 1 _ rfl; have f_c_v3_1 := x_c_v3.f 1 _ rfl; have c_c_v3_2 := x_c_v3.c 2 _ rfl; have f_c_v3_2 := x_c_v3.f 2 _ rfl; have c_c_v3_3 := x_c_v3.c 3 _ rfl; have f_c_v3_3 := x_c_v3.f 3 _ rfl; have c_c_v3_4 := x_c_v3.c 4 _ rfl; have f_c_v3_4 := x_c_v3.f 4 _ rfl; have c_c_v3_5 := x_c_v3.c 5 _ rfl; have f_c_v3_5 := x_c_v3.f 5 _ rfl; have x_d_v3 : Box v3 (w2.heap.size) [.int .i64 0, .int .i64 0, .int .i64 0, .int .i64 0, .int .i64 0, .int .u64 0] := (by refine Box.below ?_ hv3; repeat (first | (with_reducible assumption) | (with_reducible refine Box.drew ?_) | (with_reducible refine Box.drewN ?_ _) | ((with_reducible refine Box.new ?_); simp; done) | (with_reducible apply Box.set2) | ((with_reducible apply Box.put); (with_reducible assumption); rfl) | (with_reducible refine Box.alloc ?_ _) | (with_reducible refine Box.other ?_ (by first | (dsimp only; omega) | omega) _))); have z_d_v3 := x_d_v3.lt; have c_d_v3_0 := x_d_v3.c 0 _ rfl; have f_d_v3_0 := x_d_v3.f 0 _ rfl; have c_d_v3_1 := x_d_v3.c 1 _ rfl; have f_d_v3_1 := x_d_v3.f 1 _ rfl; have c_d_v3_2 := x_d_v3.c 2 _ rfl; have f_d_v3_2 := x_d_v3.f 2 _ rfl; have c_d_v3_3 := x_d_v3.c 3 _ rfl; have f_d_v3_3 := x_d_v3.f 3 _ rfl; have c_d_v3_4 := x_d_v3.c 4 _ rfl; have f_d_v3_4 := x_d_v3.f 4 _ rfl; have c_d_v3_5 := x_d_v3.c 5 _ rfl; have f_d_v3_5 := x_d_v3.f 5 _ rfl; have x_g_v3 : Box v3 (w3.heap.size) [.int .i64 bu, .int .i64 ra, .int .i64 pe, .int .i64 L, .int .i64 Q, .int .u64 T] := (by refine Box.below ?_ hv3; repeat (first | (with_reducible assumption) | (with_reducible refine Box.drew ?_) | (with_reducible refine Box.drewN ?_ _) | ((with_reducible refine Box.new ?_); simp; done) | (with_reducible apply Box.set2) | ((with_reducible apply Box.put); (with_reducible assumption); rfl) | (with_reducible refine Box.alloc ?_ _) | (with_reducible refine Box.other ?_ (by first | (dsimp only; omega) | omega) _))); have z_g_v3 := x_g_v3.lt; have c_g_v3_0 := x_g_v3.c 0 _ rfl; have f_g_v3_0 := x_g_v3.f 0 _ rfl; have c_g_v3_1 := x_g_v3.c 1 _ rfl; have f_g_v3_1 := x_g_v3.f 1 _ rfl; have c_g_v3_2 := x_g_v3.c 2 _ rfl; have f_g_v3_2 := x_g_v3.f 2 _ rfl; have c_g_v3_3 := x_g_v3.c 3 _ rfl; have f_g_v3_3 := x_g_v3.f 3 _ rfl; have c_g_v3_4 := x_g_v3.c 4 _ rfl; have f_g_v3_4 := x_g_v3.f 4 _ rfl; have c_g_v3_5 := x_g_v3.c 5 _ rfl; have f_g_v3_5 := x_g_v3.f 5 _ rfl; have x_i_v3 : Box v3 (w4.heap.size) [.int .i64 bu, .int .i64 ra, .int .i64 pe, .int .i64 L, .int .i64 Q, .int .u64 T] := (by refine Box.below ?_ hv3; repeat (first | (with_reducible assumption) | (with_reducible refine Box.drew ?_) | (with_reducible refine Box.drewN ?_ _) | ((with_reducible refine Box.new ?_); simp; done) | (with_reducible apply Box.set2) | ((with_reducible apply Box.put); (with_reducible assumption); rfl) | (with_reducible refine Box.alloc ?_ _) | (with_reducible refine Box.other ?_ (by first | (dsimp only; omega) | omega) _))); have z_i_v3 := x_i_v3.lt; have c_i_v3_0 := x_i_v3.c 0 _ rfl; have f_i_v3_0 := x_i_v3.f 0 _ rfl; have c_i_v3_1 := x_i_v3.c 1 _ rfl; have f_i_v3_1 := x_i_v3.f 1 _ rfl; have c_i_v3_2 := x_i_v3.c 2 _ rfl; have f_i_v3_2 := x_i_v3.f 2 _ rfl; have c_i_v3_3 := x_i_v3.c 3 _ rfl; have f_i_v3_3 := x_i_v3.f 3 _ rfl; have c_i_v3_4 := x_i_v3.c 4 _ rfl; have f_i_v3_4 := x_i_v3.f 4 _ rfl; have c_i_v3_5 := x_i_v3.c 5 _ rfl; have f_i_v3_5 := x_i_v3.f 5 _ rfl)
        | (go_at_call 24; refine (rcheck_is h _).mono ?_; rintro e v4 ⟨rfl, hv4⟩; have hV4 : Below w.heap.size w v4 := below_thru (by go_grown) hv4; have hs_v4 : w.heap.size ≤ v4.heap.size := hV4.size; have x_l_v4 : Box v4 (w.heap.size) [.int .i64 lb, .int .i64 lr, .int .i64 lp] := (by refine Box.below ?_ hv4; repeat (first | (with_reducible assumption) | (with_reducible refine Box.drew ?_) | (with_reducible refine Box.drewN ?_ _) | ((with_reducible refine Box.new ?_); simp; done) | (with_reducible apply Box.set2) | ((with_reducible apply Box.put); (with_reducible assumption); rfl) | (with_reducible refine Box.alloc ?_ _) | (with_reducible refine Box.other ?_ (by first | (dsimp only; omega) | omega) _))); have z_l_v4 := x_l_v4.lt; have c_l_v4_0 := x_l_v4.c 0 _ rfl; have f_l_v4_0 := x_l_v4.f 0 _ rfl; have c_l_v4_1 := x_l_v4.c 1 _ rfl; have f_l_v4_1 := x_l_v4.f 1 _ rfl; have c_l_v4_2 := x_l_v4.c 2 _ rfl; have f_l_v4_2 := x_l_v4.f 2 _ rfl; have x_x_v4 : Box v4 (w.heap.size + 1) [.int .i64 bu, .int .i64 ra, .int .i64 pe, .int .i64 le, .int .i64 pt, .int .u64 a] := (by refine Box.below ?_ hv4; repeat (first | (with_reducible assumption) | (with_reducible refine Box.drew ?_) | (with_reducible refine Box.drewN ?_ _) | ((with_reducible refine Box.new ?_); simp; done) | (with_reducible apply Box.set2) | ((with_reducible apply Box.put); (with_reducible assumption); rfl) | (with_reducible refine Box.alloc ?_ _) | (with_reducible refine Box.other ?_ (by first | (dsimp only; omega) | omega) _))); have z_x_v4 := x_x_v4.lt; have c_x_v4_0 := x_x_v4.c 0 _ rfl; have f_x_v4_0 := x_x_v4.f 0 _ rfl; have c_x_v4_1 := x_x_v4.c 1 _ rfl; have f_x_v4_1 := x_x_v4.f 1 _ rfl; have c_x_v4_2 := x_x_v4.c 2 _ rfl; have f_x_v4_2 := x_x_v4.f 2 _ rfl; have c_x_v4_3 := x_x_v4.c 3 _ rfl; have f_x_v4_3 := x_x_v4.f 3 _ rfl; have c_x_v4_4 := x_x_v4.c 4 _ rfl; have f_x_v4_4 := x_x_v4.f 4 _ rfl; have c_x_v4_5 := x_x_v4.c 5 _ rfl; have f_x_v4_5 := x_x_v4.f 5 _ rfl; have x_c_v4 : Box v4 (w1.heap.size) [.int .i64 0, .int .i64 0, .int .i64 0, .int .i64 0, .int .i64 0, .int .u64 0] := (by refine Box.below ?_ hv4; repeat (first | (with_reducible assumption) | (with_reducible refine Box.drew ?_) | (with_reducible refine Box.drewN ?_ _) | ((with_reducible refine Box.new ?_); simp; done) | (with_reducible apply Box.set2) | ((with_reducible apply Box.put); (with_reducible assumption); rfl) | (with_reducible refine Box.alloc ?_ _) | (with_reducible refine Box.other ?_ (by first | (dsimp only; omega) | omega) _))); have z_c_v4 := x_c_v4.lt; have c_c_v4_0 := x_c_v4.c 0 _ rfl; have f_c_v4_0 := x_c_v4.f 0 _ rfl; have c_c_v4_1 := x_c_v4.c 1 _ rfl; have f_c_v4_1 := x_c_v4.f 1 _ rfl; have c_c_v4_2 := x_c_v4.c 2 _ rfl; have f_c_v4_2 := x_c_v4.f 2 _ rfl; have c_c_v4_3 := x_c_v4.c 3 _ rfl; have f_c_v4_3 := x_c_v4.f 3 _ rfl; have c_c_v4_4 := x_c_v4.c 4 _ rfl; have f_c_v4_4 := x_c_v4.f 4 _ rfl; have c_c_v4_5 := x_c_v4.c 5 _ rfl; have f_c_v4_5 := x_c_v4.f 5 _ rfl; have x_d_v4 : Box v4 (w2.heap.size) [.int .i64 0, .int .i64 0, .int .i64 0, .int .i64 0, .int .i64 0, .int .u64 0] := (by refine Box.below ?_ hv4; repeat (first | (with_reducible assumption) | (with_reducible refine Box.drew ?_) | (with_reducible refine Box.drewN ?_ _) | ((with_reducible refine Box.new ?_); simp; done) | (with_reducible apply Box.set2) | ((with_reducible apply Box.put); (with_reducible assumption); rfl) | (with_reducible refine Box.alloc ?_ _) | (with_reducible refine Box.other ?_ (by first | (dsimp only; omega) | omega) _))); have z_d_v4 := x_d_v4.lt; have c_d_v4_0 := x_d_v4.c 0 _ rfl; have f_d_v4_0 := x_d_v4.f 0 _ rfl; have c_d_v4_1 := x_d_v4.c 1 _ rfl; have f_d_v4_1 := x_d_v4.f 1 _ rfl; have c_d_v4_2 := x_d_v4.c 2 _ rfl; have f_d_v4_2 := x_d_v4.f 2 _ rfl; have c_d_v4_3 := x_d_v4.c 3 _ rfl; have f_d_v4_3 := x_d_v4.f 3 _ rfl; have c_d_v4_4 := x_d_v4.c 4 _ rfl; have f_d_v4_4 := x_d_v4.f 4 _ rfl; have c_d_v4_5 := x_d_v4.c 5 _ rfl; have f_d_v4_5 := x_d_v4.f 5 _ rfl; have x_g_v4 : Box v4 (w3.heap.size) [.int .i64 bu, .int .i64 ra, .int .i64 pe, .int .i64 L, .int .i64 Q, .int .u64 T] := (by refine Box.below ?_ hv4; repeat (first | (with_reducible assumption) | (with_reducible refine Box.drew ?_) | (with_reducible refine Box.drewN ?_ _) | ((with_reducible refine Box.new ?_); simp; done) | (with_reducible apply Box.set2) | ((with_reducible apply Box.put); (with_reducible assumption); rfl) | (with_reducible refine Box.alloc ?_ _) | (with_reducible refine Box.other ?_ (by first | (dsimp only; omega) | omega) _))); have z_g_v4 := x_g_v4.lt; have c_g_v4_0 := x_g_v4.c 0 _ rfl; have f_g_v4_0 := x_g_v4.f 0 _ rfl; have c_g_v4_1 := x_g_v4.c 1 _ rfl; have f_g_v4_1 := x_g_v4.f 1 _ rfl; have c_g_v4_2 := x_g_v4.c 2 _ rfl; have f_g_v4_2 := x_g_v4.f 2 _ rfl; have c_g_v4_3 := x_g_v4.c 3 _ rfl; have f_g_v4_3 := x_g_v4.f 3 _ rfl; have c_g_v4_4 := x_g_v4.c 4 _ rfl; have f_g_v4_4 := x_g_v4.f 4 _ rfl; have c_g_v4_5 := x_g_v4.c 5 _ rfl; have f_g_v4_5 := x_g_v4.f 5 _ rfl; have x_i_v4 : Box v4 (w4.heap.size) [.int .i64 bu, .int .i64 ra, .int .i64 pe, .int .i64 L, .int .i64 Q, .int .u64 T] := (by refine Box.below ?_ hv4; repeat (first | (with_reducible assumption) | (with_reducible refine Box.drew ?_) | (with_reducible refine Box.drewN ?_ _) | ((with_reducible refine Box.new ?_); simp; done) | (with_reducible apply Box.set2) | ((with_reducible apply Box.put); (with_reducible assumption); rfl) | (with_reducible refine Box.alloc ?_ _) | (with_reducible refine Box.other ?_ (by first | (dsimp only; omega) | omega) _))); have z_i_v4 := x_i_v4.lt; have c_i_v4_0 := x_i_v4.c 0 _ rfl; have f_i_v4_0 := x_i_v4.f 0 _ rfl; have c_i_v4_1 := x_i_v4.c 1 _ rfl; have f_i_v4_1 := x_i_v4.f 1 _ rfl; have c_i_v4_2 := x_i_v4.c 2 _ rfl; have f_i_v4_2 := x_i_v4.f 2 _ rfl; have c_i_v4_3 := x_i_v4.c 3 _ rfl; have f_i_v4_3 := x_i_v4.f 3 _ rfl; have c_i_v4_4 := x_i_v4.c 4 _ rfl; have f_i_v4_4 := x_i_v4.f 4 _ rfl; have c_i_v4_5 := x_i_v4.c 5 _ rfl; have f_i_v4_5 := x_i_v4.f 5 _ rfl))
    all_goals
      go_wp2_with fail
      go_meet
      refine ⟨rfl, ?_, ?_, ?_, ?_, ?_, ?_, ?_⟩
      all_goals first
        | ((repeat (first | (with_reducible assumption) | (with_reducible refine Box.drew ?_) | (with_reducible refine Box.drewN ?_ _) | ((with_reducible refine Box.new ?_); simp; done) | (with_reducible apply Box.set2) | (with_reducible refine Box.alloc ?_ _) | (with_reducible refine Box.other ?_ (by first | (dsimp only; omega) | omega) _))); done)
        | (go_grown; done)
  case rest =>
    obtain ⟨rfl, x_l5, x_x5, x_c5, x_d5, x_g5, x_i5, hB5⟩ := hcut
    obtain ⟨w5, rfl⟩ : ∃ u : World, u = wc := ⟨_, rfl⟩
    clear hB4 hs4 x_l4 z_l4 c_l4_0 c_l4_1 c_l4_2 f_l4_0 f_l4_1 f_l4_2 x_x4 z_x4 c_x4_0 c_x4_1 c_x4_2 c_x4_3 c_x4_4 c_x4_5 f_x4_0 f_x4_1 f_x4_2 f_x4_3 f_x4_4 f_x4_5 x_c4 z_c4 c_c4_0 c_c4_1 c_c4_2 c_c4_3 c_c4_4 c_c4_5 f_c4_0 f_c4_1 f_c4_2 f_c4_3 f_c4_4 f_c4_5 x_d4 z_d4 c_d4_0 c_d4_1 c_d4_2 c_d4_3 c_d4_4 c_d4_5 f_d4_0 f_d4_1 f_d4_2 f_d4_3 f_d4_4 f_d4_5 x_g4 z_g4 c_g4_0 c_g4_1 c_g4_2 c_g4_3 c_g4_4 c_g4_5 f_g4_0 f_g4_1 f_g4_2 f_g4_3 f_g4_4 f_g4_5
    have hs5 : w.heap.size ≤ w5.heap.size := hB5.size
    have z_l5 := x_l5.lt
    have c_l5_0 := x_l5.c 0 _ rfl; have f_l5_0 := x_l5.f 0 _ rfl
    have c_l5_1 := x_l5.c 1 _ rfl; have f_l5_1 := x_l5.f 1 _ rfl
    have c_l5_2 := x_l5.c 2 _ rfl; have f_l5_2 := x_l5.f 2 _ rfl
    have z_x5 := x_x5.lt
    have c_x5_0 := x_x5.c 0 _ rfl; have f_x5_0 := x_x5.f 0 _ rfl
    have c_x5_1 := x_x5.c 1 _ rfl; have f_x5_1 := x_x5.f 1 _ rfl
    have c_x5_2 := x_x5.c 2 _ rfl; have f_x5_2 := x_x5.f 2 _ rfl
    have c_x5_3 := x_x5.c 3 _ rfl; have f_x5_3 := x_x5.f 3 _ rfl
    have c_x5_4 := x_x5.c 4 _ rfl; have f_x5_4 := x_x5.f 4 _ rfl
    have c_x5_5 := x_x5.c 5 _ rfl; have f_x5_5 := x_x5.f 5 _ rfl
    have z_c5 := x_c5.lt
    have c_c5_0 := x_c5.c 0 _ rfl; have f_c5_0 := x_c5.f 0 _ rfl
    have c_c5_1 := x_c5.c 1 _ rfl; have f_c5_1 := x_c5.f 1 _ rfl
    have c_c5_2 := x_c5.c 2 _ rfl; have f_c5_2 := x_c5.f 2 _ rfl
    have c_c5_3 := x_c5.c 3 _ rfl; have f_c5_3 := x_c5.f 3 _ rfl
    have c_c5_4 := x_c5.c 4 _ rfl; have f_c5_4 := x_c5.f 4 _ rfl
    have c_c5_5 := x_c5.c 5 _ rfl; have f_c5_5 := x_c5.f 5 _ rfl
    have z_d5 := x_d5.lt
    have c_d5_0 := x_d5.c 0 _ rfl; have f_d5_0 := x_d5.f 0 _ rfl
    have c_d5_1 := x_d5.c 1 _ rfl; have f_d5_1 := x_d5.f 1 _ rfl
    have c_d5_2 := x_d5.c 2 _ rfl; have f_d5_2 := x_d5.f 2 _ rfl
    have c_d5_3 := x_d5.c 3 _ rfl; have f_d5_3 := x_d5.f 3 _ rfl
    have c_d5_4 := x_d5.c 4 _ rfl; have f_d5_4 := x_d5.f 4 _ rfl
    have c_d5_5 := x_d5.c 5 _ rfl; have f_d5_5 := x_d5.f 5 _ rfl
    have z_g5 := x_g5.lt
    have c_g5_0 := x_g5.c 0 _ rfl; have f_g5_0 := x_g5.f 0 _ rfl
    have c_g5_1 := x_g5.c 1 _ rfl; have f_g5_1 := x_g5.f 1 _ rfl
    have c_g5_2 := x_g5.c 2 _ rfl; have f_g5_2 := x_g5.f 2 _ rfl
    have c_g5_3 := x_g5.c 3 _ rfl; have f_g5_3 := x_g5.f 3 _ rfl
    have c_g5_4 := x_g5.c 4 _ rfl; have f_g5_4 := x_g5.f 4 _ rfl
    have c_g5_5 := x_g5.c 5 _ rfl; have f_g5_5 := x_g5.f 5 _ rfl
    have z_i5 := x_i5.lt
    have c_i5_0 := x_i5.c 0 _ rfl; have f_i5_0 := x_i5.f 0 _ rfl
    have c_i5_1 := x_i5.c 1 _ rfl; have f_i5_1 := x_i5.f 1 _ rfl
    have c_i5_2 := x_i5.c 2 _ rfl; have f_i5_2 := x_i5.f 2 _ rfl
    have c_i5_3 := x_i5.c 3 _ rfl; have f_i5_3 := x_i5.f 3 _ rfl
    have c_i5_4 := x_i5.c 4 _ rfl; have f_i5_4 := x_i5.f 4 _ rfl
    have c_i5_5 := x_i5.c 5 _ rfl; have f_i5_5 := x_i5.f 5 _ rfl
    go_wp2_with fail
    go_returns
    exact ⟨rfl, hB5⟩

set_option maxRecDepth 100000 in
set_option maxHeartbeats 3200000 in
theorem fills_nn {lb lr lp bu ra pe le pt a t : Int} (hl : Hid (limE lb lr lp = 8)) (h : Hid (bucE bu ra pe le pt = 8)) (w : World) :
    Calls Try.prog 4 #[.agg #[.int .i64 lb, .int .i64 lr, .int .i64 lp], .agg #[.int .i64 bu, .int .i64 ra, .int .i64 pe, .int .i64 le, .int .i64 pt, .int .u64 a], .int .u64 t] w fun e w' => e = .returned (.bool true) ∧ Below w.heap.size w w' := by
  go_enter Try.func4, Try.ntmps4
  go_wp2_with fail
  refine (full_no hl _).mono ?_
  rintro e w1 ⟨rfl, hb⟩
  have hB1 : Below w.heap.size w w1 := below_thru (by go_grown) hb
  have hs1 : w.heap.size ≤ w1.heap.size := hB1.size
  have x_l1 : Box w1 (w.heap.size) [.int .i64 lb, .int .i64 lr, .int .i64 lp] := (by refine Box.below ?_ hb; repeat (first | (with_reducible assumption) | (with_reducible refine Box.drew ?_) | (with_reducible refine Box.drewN ?_ _) | ((with_reducible refine Box.new ?_); simp; done) | (with_reducible apply Box.set2) | ((with_reducible apply Box.put); (with_reducible assumption); rfl) | (with_reducible refine Box.alloc ?_ _) | (with_reducible refine Box.other ?_ (by first | (dsimp only; omega) | omega) _)))
  have z_l1 := x_l1.lt
  have c_l1_0 := x_l1.c 0 _ rfl
  have f_l1_0 := x_l1.f 0 _ rfl
  have c_l1_1 := x_l1.c 1 _ rfl
  have f_l1_1 := x_l1.f 1 _ rfl
  have c_l1_2 := x_l1.c 2 _ rfl
  have f_l1_2 := x_l1.f 2 _ rfl
  have x_x1 : Box w1 (w.heap.size + 1) [.int .i64 bu, .int .i64 ra, .int .i64 pe, .int .i64 le, .int .i64 pt, .int .u64 a] := (by refine Box.below ?_ hb; repeat (first | (with_reducible assumption) | (with_reducible refine Box.drew ?_) | (with_reducible refine Box.drewN ?_ _) | ((with_reducible refine Box.new ?_); simp; done) | (with_reducible apply Box.set2) | ((with_reducible apply Box.put); (with_reducible assumption); rfl) | (with_reducible refine Box.alloc ?_ _) | (with_reducible refine Box.other ?_ (by first | (dsimp only; omega) | omega) _)))
  have z_x1 := x_x1.lt
  have c_x1_0 := x_x1.c 0 _ rfl
  have f_x1_0 := x_x1.f 0 _ rfl
  have c_x1_1 := x_x1.c 1 _ rfl
  have f_x1_1 := x_x1.f 1 _ rfl
  have c_x1_2 := x_x1.c 2 _ rfl
  have f_x1_2 := x_x1.f 2 _ rfl
  have c_x1_3 := x_x1.c 3 _ rfl
  have f_x1_3 := x_x1.f 3 _ rfl
  have c_x1_4 := x_x1.c 4 _ rfl
  have f_x1_4 := x_x1.f 4 _ rfl
  have c_x1_5 := x_x1.c 5 _ rfl
  have f_x1_5 := x_x1.f 5 _ rfl
  have t1 := hb.size
  try simp at t1
  clear hb
  go_wp2_with fail
  refine (rfull_no hl _).mono ?_
  rintro e w2 ⟨rfl, hb⟩
  have hB2 : Below w.heap.size w w2 := below_thru (by go_grown) hb
  have hs2 : w.heap.size ≤ w2.heap.size := hB2.size
  have x_l2 : Box w2 (w.heap.size) [.int .i64 lb, .int .i64 lr, .int .i64 lp] := (by refine Box.below ?_ hb; repeat (first | (with_reducible assumption) | (with_reducible refine Box.drew ?_) | (with_reducible refine Box.drewN ?_ _) | ((with_reducible refine Box.new ?_); simp; done) | (with_reducible apply Box.set2) | ((with_reducible apply Box.put); (with_reducible assumption); rfl) | (with_reducible refine Box.alloc ?_ _) | (with_reducible refine Box.other ?_ (by first | (dsimp only; omega) | omega) _)))
  have z_l2 := x_l2.lt
  have c_l2_0 := x_l2.c 0 _ rfl
  have f_l2_0 := x_l2.f 0 _ rfl
  have c_l2_1 := x_l2.c 1 _ rfl
  have f_l2_1 := x_l2.f 1 _ rfl
  have c_l2_2 := x_l2.c 2 _ rfl
  have f_l2_2 := x_l2.f 2 _ rfl
  have x_x2 : Box w2 (w.heap.size + 1) [.int .i64 bu, .int .i64 ra, .int .i64 pe, .int .i64 le, .int .i64 pt, .int .u64 a] := (by refine Box.below ?_ hb; repeat (first | (with_reducible assumption) | (with_reducible refine Box.drew ?_) | (with_reducible refine Box.drewN ?_ _) | ((with_reducible refine Box.new ?_); simp; done) | (with_reducible apply Box.set2) | ((with_reducible apply Box.put); (with_reducible assumption); rfl) | (with_reducible refine Box.alloc ?_ _) | (with_reducible refine Box.other ?_ (by first | (dsimp only; omega) | omega) _)))
  have z_x2 := x_x2.lt
  have c_x2_0 := x_x2.c 0 _ rfl
  have f_x2_0 := x_x2.f 0 _ rfl
  have c_x2_1 := x_x2.c 1 _ rfl
  have f_x2_1 := x_x2.f 1 _ rfl
  have c_x2_2 := x_x2.c 2 _ rfl
  have f_x2_2 := x_x2.f 2 _ rfl
  have c_x2_3 := x_x2.c 3 _ rfl
  have f_x2_3 := x_x2.f 3 _ rfl
  have c_x2_4 := x_x2.c 4 _ rfl
  have f_x2_4 := x_x2.f 4 _ rfl
  have c_x2_5 := x_x2.c 5 _ rfl
  have f_x2_5 := x_x2.f 5 _ rfl
  have x_c2 : Box w2 (w1.heap.size) [.int .i64 0, .int .i64 0, .int .i64 0, .int .i64 0, .int .i64 0, .int .u64 0] := (by refine Box.below ?_ hb; repeat (first | (with_reducible assumption) | (with_reducible refine Box.drew ?_) | (with_reducible refine Box.drewN ?_ _) | ((with_reducible refine Box.new ?_); simp; done) | (with_reducible apply Box.set2) | ((with_reducible apply Box.put); (with_reducible assumption); rfl) | (with_reducible refine Box.alloc ?_ _) | (with_reducible refine Box.other ?_ (by first | (dsimp only; omega) | omega) _)))
  have z_c2 := x_c2.lt
  have c_c2_0 := x_c2.c 0 _ rfl
  have f_c2_0 := x_c2.f 0 _ rfl
  have c_c2_1 := x_c2.c 1 _ rfl
  have f_c2_1 := x_c2.f 1 _ rfl
  have c_c2_2 := x_c2.c 2 _ rfl
  have f_c2_2 := x_c2.f 2 _ rfl
  have c_c2_3 := x_c2.c 3 _ rfl
  have f_c2_3 := x_c2.f 3 _ rfl
  have c_c2_4 := x_c2.c 4 _ rfl
  have f_c2_4 := x_c2.f 4 _ rfl
  have c_c2_5 := x_c2.c 5 _ rfl
  have f_c2_5 := x_c2.f 5 _ rfl
  have t2 := hb.size
  try simp at t2
  clear hb hB1 hs1 x_l1 z_l1 c_l1_0 c_l1_1 c_l1_2 f_l1_0 f_l1_1 f_l1_2 x_x1 z_x1 c_x1_0 c_x1_1 c_x1_2 c_x1_3 c_x1_4 c_x1_5 f_x1_0 f_x1_1 f_x1_2 f_x1_3 f_x1_4 f_x1_5
  go_wp2_with fail
  refine (refill_bad h _).mono ?_
  rintro e w3 ⟨rfl, hb⟩
  have hB3 : Below w.heap.size w w3 := below_thru (by go_grown) hb
  have hs3 : w.heap.size ≤ w3.heap.size := hB3.size
  have x_l3 : Box w3 (w.heap.size) [.int .i64 lb, .int .i64 lr, .int .i64 lp] := (by refine Box.below ?_ hb; repeat (first | (with_reducible assumption) | (with_reducible refine Box.drew ?_) | (with_reducible refine Box.drewN ?_ _) | ((with_reducible refine Box.new ?_); simp; done) | (with_reducible apply Box.set2) | ((with_reducible apply Box.put); (with_reducible assumption); rfl) | (with_reducible refine Box.alloc ?_ _) | (with_reducible refine Box.other ?_ (by first | (dsimp only; omega) | omega) _)))
  have z_l3 := x_l3.lt
  have c_l3_0 := x_l3.c 0 _ rfl
  have f_l3_0 := x_l3.f 0 _ rfl
  have c_l3_1 := x_l3.c 1 _ rfl
  have f_l3_1 := x_l3.f 1 _ rfl
  have c_l3_2 := x_l3.c 2 _ rfl
  have f_l3_2 := x_l3.f 2 _ rfl
  have x_x3 : Box w3 (w.heap.size + 1) [.int .i64 bu, .int .i64 ra, .int .i64 pe, .int .i64 le, .int .i64 pt, .int .u64 a] := (by refine Box.below ?_ hb; repeat (first | (with_reducible assumption) | (with_reducible refine Box.drew ?_) | (with_reducible refine Box.drewN ?_ _) | ((with_reducible refine Box.new ?_); simp; done) | (with_reducible apply Box.set2) | ((with_reducible apply Box.put); (with_reducible assumption); rfl) | (with_reducible refine Box.alloc ?_ _) | (with_reducible refine Box.other ?_ (by first | (dsimp only; omega) | omega) _)))
  have z_x3 := x_x3.lt
  have c_x3_0 := x_x3.c 0 _ rfl
  have f_x3_0 := x_x3.f 0 _ rfl
  have c_x3_1 := x_x3.c 1 _ rfl
  have f_x3_1 := x_x3.f 1 _ rfl
  have c_x3_2 := x_x3.c 2 _ rfl
  have f_x3_2 := x_x3.f 2 _ rfl
  have c_x3_3 := x_x3.c 3 _ rfl
  have f_x3_3 := x_x3.f 3 _ rfl
  have c_x3_4 := x_x3.c 4 _ rfl
  have f_x3_4 := x_x3.f 4 _ rfl
  have c_x3_5 := x_x3.c 5 _ rfl
  have f_x3_5 := x_x3.f 5 _ rfl
  have x_c3 : Box w3 (w1.heap.size) [.int .i64 0, .int .i64 0, .int .i64 0, .int .i64 0, .int .i64 0, .int .u64 0] := (by refine Box.below ?_ hb; repeat (first | (with_reducible assumption) | (with_reducible refine Box.drew ?_) | (with_reducible refine Box.drewN ?_ _) | ((with_reducible refine Box.new ?_); simp; done) | (with_reducible apply Box.set2) | ((with_reducible apply Box.put); (with_reducible assumption); rfl) | (with_reducible refine Box.alloc ?_ _) | (with_reducible refine Box.other ?_ (by first | (dsimp only; omega) | omega) _)))
  have z_c3 := x_c3.lt
  have c_c3_0 := x_c3.c 0 _ rfl
  have f_c3_0 := x_c3.f 0 _ rfl
  have c_c3_1 := x_c3.c 1 _ rfl
  have f_c3_1 := x_c3.f 1 _ rfl
  have c_c3_2 := x_c3.c 2 _ rfl
  have f_c3_2 := x_c3.f 2 _ rfl
  have c_c3_3 := x_c3.c 3 _ rfl
  have f_c3_3 := x_c3.f 3 _ rfl
  have c_c3_4 := x_c3.c 4 _ rfl
  have f_c3_4 := x_c3.f 4 _ rfl
  have c_c3_5 := x_c3.c 5 _ rfl
  have f_c3_5 := x_c3.f 5 _ rfl
  have x_d3 : Box w3 (w2.heap.size) [.int .i64 0, .int .i64 0, .int .i64 0, .int .i64 0, .int .i64 0, .int .u64 0] := (by refine Box.below ?_ hb; repeat (first | (with_reducible assumption) | (with_reducible refine Box.drew ?_) | (with_reducible refine Box.drewN ?_ _) | ((with_reducible refine Box.new ?_); simp; done) | (with_reducible apply Box.set2) | ((with_reducible apply Box.put); (with_reducible assumption); rfl) | (with_reducible refine Box.alloc ?_ _) | (with_reducible refine Box.other ?_ (by first | (dsimp only; omega) | omega) _)))
  have z_d3 := x_d3.lt
  have c_d3_0 := x_d3.c 0 _ rfl
  have f_d3_0 := x_d3.f 0 _ rfl
  have c_d3_1 := x_d3.c 1 _ rfl
  have f_d3_1 := x_d3.f 1 _ rfl
  have c_d3_2 := x_d3.c 2 _ rfl
  have f_d3_2 := x_d3.f 2 _ rfl
  have c_d3_3 := x_d3.c 3 _ rfl
  have f_d3_3 := x_d3.f 3 _ rfl
  have c_d3_4 := x_d3.c 4 _ rfl
  have f_d3_4 := x_d3.f 4 _ rfl
  have c_d3_5 := x_d3.c 5 _ rfl
  have f_d3_5 := x_d3.f 5 _ rfl
  have t3 := hb.size
  try simp at t3
  clear hb hB2 hs2 x_l2 z_l2 c_l2_0 c_l2_1 c_l2_2 f_l2_0 f_l2_1 f_l2_2 x_x2 z_x2 c_x2_0 c_x2_1 c_x2_2 c_x2_3 c_x2_4 c_x2_5 f_x2_0 f_x2_1 f_x2_2 f_x2_3 f_x2_4 f_x2_5 x_c2 z_c2 c_c2_0 c_c2_1 c_c2_2 c_c2_3 c_c2_4 c_c2_5 f_c2_0 f_c2_1 f_c2_2 f_c2_3 f_c2_4 f_c2_5
  go_wp2_with fail
  refine (rrefill_bad h _).mono ?_
  rintro e w4 ⟨rfl, hb⟩
  have hB4 : Below w.heap.size w w4 := below_thru (by go_grown) hb
  have hs4 : w.heap.size ≤ w4.heap.size := hB4.size
  have x_l4 : Box w4 (w.heap.size) [.int .i64 lb, .int .i64 lr, .int .i64 lp] := (by refine Box.below ?_ hb; repeat (first | (with_reducible assumption) | (with_reducible refine Box.drew ?_) | (with_reducible refine Box.drewN ?_ _) | ((with_reducible refine Box.new ?_); simp; done) | (with_reducible apply Box.set2) | ((with_reducible apply Box.put); (with_reducible assumption); rfl) | (with_reducible refine Box.alloc ?_ _) | (with_reducible refine Box.other ?_ (by first | (dsimp only; omega) | omega) _)))
  have z_l4 := x_l4.lt
  have c_l4_0 := x_l4.c 0 _ rfl
  have f_l4_0 := x_l4.f 0 _ rfl
  have c_l4_1 := x_l4.c 1 _ rfl
  have f_l4_1 := x_l4.f 1 _ rfl
  have c_l4_2 := x_l4.c 2 _ rfl
  have f_l4_2 := x_l4.f 2 _ rfl
  have x_x4 : Box w4 (w.heap.size + 1) [.int .i64 bu, .int .i64 ra, .int .i64 pe, .int .i64 le, .int .i64 pt, .int .u64 a] := (by refine Box.below ?_ hb; repeat (first | (with_reducible assumption) | (with_reducible refine Box.drew ?_) | (with_reducible refine Box.drewN ?_ _) | ((with_reducible refine Box.new ?_); simp; done) | (with_reducible apply Box.set2) | ((with_reducible apply Box.put); (with_reducible assumption); rfl) | (with_reducible refine Box.alloc ?_ _) | (with_reducible refine Box.other ?_ (by first | (dsimp only; omega) | omega) _)))
  have z_x4 := x_x4.lt
  have c_x4_0 := x_x4.c 0 _ rfl
  have f_x4_0 := x_x4.f 0 _ rfl
  have c_x4_1 := x_x4.c 1 _ rfl
  have f_x4_1 := x_x4.f 1 _ rfl
  have c_x4_2 := x_x4.c 2 _ rfl
  have f_x4_2 := x_x4.f 2 _ rfl
  have c_x4_3 := x_x4.c 3 _ rfl
  have f_x4_3 := x_x4.f 3 _ rfl
  have c_x4_4 := x_x4.c 4 _ rfl
  have f_x4_4 := x_x4.f 4 _ rfl
  have c_x4_5 := x_x4.c 5 _ rfl
  have f_x4_5 := x_x4.f 5 _ rfl
  have x_c4 : Box w4 (w1.heap.size) [.int .i64 0, .int .i64 0, .int .i64 0, .int .i64 0, .int .i64 0, .int .u64 0] := (by refine Box.below ?_ hb; repeat (first | (with_reducible assumption) | (with_reducible refine Box.drew ?_) | (with_reducible refine Box.drewN ?_ _) | ((with_reducible refine Box.new ?_); simp; done) | (with_reducible apply Box.set2) | ((with_reducible apply Box.put); (with_reducible assumption); rfl) | (with_reducible refine Box.alloc ?_ _) | (with_reducible refine Box.other ?_ (by first | (dsimp only; omega) | omega) _)))
  have z_c4 := x_c4.lt
  have c_c4_0 := x_c4.c 0 _ rfl
  have f_c4_0 := x_c4.f 0 _ rfl
  have c_c4_1 := x_c4.c 1 _ rfl
  have f_c4_1 := x_c4.f 1 _ rfl
  have c_c4_2 := x_c4.c 2 _ rfl
  have f_c4_2 := x_c4.f 2 _ rfl
  have c_c4_3 := x_c4.c 3 _ rfl
  have f_c4_3 := x_c4.f 3 _ rfl
  have c_c4_4 := x_c4.c 4 _ rfl
  have f_c4_4 := x_c4.f 4 _ rfl
  have c_c4_5 := x_c4.c 5 _ rfl
  have f_c4_5 := x_c4.f 5 _ rfl
  have x_d4 : Box w4 (w2.heap.size) [.int .i64 0, .int .i64 0, .int .i64 0, .int .i64 0, .int .i64 0, .int .u64 0] := (by refine Box.below ?_ hb; repeat (first | (with_reducible assumption) | (with_reducible refine Box.drew ?_) | (with_reducible refine Box.drewN ?_ _) | ((with_reducible refine Box.new ?_); simp; done) | (with_reducible apply Box.set2) | ((with_reducible apply Box.put); (with_reducible assumption); rfl) | (with_reducible refine Box.alloc ?_ _) | (with_reducible refine Box.other ?_ (by first | (dsimp only; omega) | omega) _)))
  have z_d4 := x_d4.lt
  have c_d4_0 := x_d4.c 0 _ rfl
  have f_d4_0 := x_d4.f 0 _ rfl
  have c_d4_1 := x_d4.c 1 _ rfl
  have f_d4_1 := x_d4.f 1 _ rfl
  have c_d4_2 := x_d4.c 2 _ rfl
  have f_d4_2 := x_d4.f 2 _ rfl
  have c_d4_3 := x_d4.c 3 _ rfl
  have f_d4_3 := x_d4.f 3 _ rfl
  have c_d4_4 := x_d4.c 4 _ rfl
  have f_d4_4 := x_d4.f 4 _ rfl
  have c_d4_5 := x_d4.c 5 _ rfl
  have f_d4_5 := x_d4.f 5 _ rfl
  have x_g4 : Box w4 (w3.heap.size) [.int .i64 0, .int .i64 0, .int .i64 0, .int .i64 0, .int .i64 0, .int .u64 0] := (by refine Box.below ?_ hb; repeat (first | (with_reducible assumption) | (with_reducible refine Box.drew ?_) | (with_reducible refine Box.drewN ?_ _) | ((with_reducible refine Box.new ?_); simp; done) | (with_reducible apply Box.set2) | ((with_reducible apply Box.put); (with_reducible assumption); rfl) | (with_reducible refine Box.alloc ?_ _) | (with_reducible refine Box.other ?_ (by first | (dsimp only; omega) | omega) _)))
  have z_g4 := x_g4.lt
  have c_g4_0 := x_g4.c 0 _ rfl
  have f_g4_0 := x_g4.f 0 _ rfl
  have c_g4_1 := x_g4.c 1 _ rfl
  have f_g4_1 := x_g4.f 1 _ rfl
  have c_g4_2 := x_g4.c 2 _ rfl
  have f_g4_2 := x_g4.f 2 _ rfl
  have c_g4_3 := x_g4.c 3 _ rfl
  have f_g4_3 := x_g4.f 3 _ rfl
  have c_g4_4 := x_g4.c 4 _ rfl
  have f_g4_4 := x_g4.f 4 _ rfl
  have c_g4_5 := x_g4.c 5 _ rfl
  have f_g4_5 := x_g4.f 5 _ rfl
  have t4 := hb.size
  try simp at t4
  clear hb hB3 hs3 x_l3 z_l3 c_l3_0 c_l3_1 c_l3_2 f_l3_0 f_l3_1 f_l3_2 x_x3 z_x3 c_x3_0 c_x3_1 c_x3_2 c_x3_3 c_x3_4 c_x3_5 f_x3_0 f_x3_1 f_x3_2 f_x3_3 f_x3_4 f_x3_5 x_c3 z_c3 c_c3_0 c_c3_1 c_c3_2 c_c3_3 c_c3_4 c_c3_5 f_c3_0 f_c3_1 f_c3_2 f_c3_3 f_c3_4 f_c3_5 x_d3 z_d3 c_d3_0 c_d3_1 c_d3_2 c_d3_3 c_d3_4 c_d3_5 f_d3_0 f_d3_1 f_d3_2 f_d3_3 f_d3_4 f_d3_5
  go_upto_region 5 with fail
  skip
  go_upto_region 5 with fail
  go_cut [6] (fun q0 wx => q0 = .bool true ∧ Box wx (w.heap.size) [.int .i64 lb, .int .i64 lr, .int .i64 lp] ∧ Box wx (w.heap.size + 1) [.int .i64 bu, .int .i64 ra, .int .i64 pe, .int .i64 le, .int .i64 pt, .int .u64 a] ∧ Box wx (w1.heap.size) [.int .i64 0, .int .i64 0, .int .i64 0, .int .i64 0, .int .i64 0, .int .u64 0] ∧ Box wx (w2.heap.size) [.int .i64 0, .int .i64 0, .int .i64 0, .int .i64 0, .int .i64 0, .int .u64 0] ∧ Box wx (w3.heap.size) [.int .i64 0, .int .i64 0, .int .i64 0, .int .i64 0, .int .i64 0, .int .u64 0] ∧ Box wx (w4.heap.size) [.int .i64 0, .int .i64 0, .int .i64 0, .int .i64 0, .int .i64 0, .int .u64 0] ∧ Below w.heap.size w wx)
  case first =>
    go_region_held3 (fun w' => w'.cell? ⟨w.heap.size, 0, none⟩ = some (.int .i64 lb) ∧ w'.cell? ⟨w.heap.size, 1, none⟩ = some (.int .i64 lr) ∧ w'.cell? ⟨w.heap.size, 2, none⟩ = some (.int .i64 lp) ∧ w'.cell? ⟨w.heap.size + 1, 0, none⟩ = some (.int .i64 bu) ∧ w'.cell? ⟨w.heap.size + 1, 1, none⟩ = some (.int .i64 ra) ∧ w'.cell? ⟨w.heap.size + 1, 2, none⟩ = some (.int .i64 pe) ∧ w'.cell? ⟨w.heap.size + 1, 3, none⟩ = some (.int .i64 le) ∧ w'.cell? ⟨w.heap.size + 1, 4, none⟩ = some (.int .i64 pt) ∧ w'.cell? ⟨w.heap.size + 1, 5, none⟩ = some (.int .u64 a) ∧ w'.cell? ⟨w1.heap.size, 0, none⟩ = some (.int .i64 0) ∧ w'.cell? ⟨w1.heap.size, 1, none⟩ = some (.int .i64 0) ∧ w'.cell? ⟨w1.heap.size, 2, none⟩ = some (.int .i64 0) ∧ w'.cell? ⟨w1.heap.size, 3, none⟩ = some (.int .i64 0) ∧ w'.cell? ⟨w1.heap.size, 4, none⟩ = some (.int .i64 0) ∧ w'.cell? ⟨w1.heap.size, 5, none⟩ = some (.int .u64 0) ∧ w'.cell? ⟨w2.heap.size, 0, none⟩ = some (.int .i64 0) ∧ w'.cell? ⟨w2.heap.size, 1, none⟩ = some (.int .i64 0) ∧ w'.cell? ⟨w2.heap.size, 2, none⟩ = some (.int .i64 0) ∧ w'.cell? ⟨w2.heap.size, 3, none⟩ = some (.int .i64 0) ∧ w'.cell? ⟨w2.heap.size, 4, none⟩ = some (.int .i64 0) ∧ w'.cell? ⟨w2.heap.size, 5, none⟩ = some (.int .u64 0) ∧ w'.cell? ⟨w3.heap.size, 0, none⟩ = some (.int .i64 0) ∧ w'.cell? ⟨w3.heap.size, 1, none⟩ = some (.int .i64 0) ∧ w'.cell? ⟨w3.heap.size, 2, none⟩ = some (.int .i64 0) ∧ w'.cell? ⟨w3.heap.size, 3, none⟩ = some (.int .i64 0) ∧ w'.cell? ⟨w3.heap.size, 4, none⟩ = some (.int .i64 0) ∧ w'.cell? ⟨w3.heap.size, 5, none⟩ = some (.int .u64 0) ∧ w'.cell? ⟨w4.heap.size, 0, none⟩ = some (.int .i64 0) ∧ w'.cell? ⟨w4.heap.size, 1, none⟩ = some (.int .i64 0) ∧ w'.cell? ⟨w4.heap.size, 2, none⟩ = some (.int .i64 0) ∧ w'.cell? ⟨w4.heap.size, 3, none⟩ = some (.int .i64 0) ∧ w'.cell? ⟨w4.heap.size, 4, none⟩ = some (.int .i64 0) ∧ w'.cell? ⟨w4.heap.size, 5, none⟩ = some (.int .u64 0)) (((repeat' apply And.intro) <;> (first | (go_keep; done) | go_cell)))
      (first
        | (go_at_call 13; refine (limit_is hl _).mono ?_; rintro e v1 ⟨rfl, hv1⟩; have hV1 : Below w.heap.size w v1 := below_thru (by go_grown) hv1; have hs_v1 : w.heap.size ≤ v1.heap.size := hV1.size; have x_l_v1 : Box v1 (w.heap.size) [.int .i64 lb, .int .i64 lr, .int .i64 lp] := (by refine Box.below ?_ hv1; repeat (first | (with_reducible assumption) | (with_reducible refine Box.drew ?_) | (with_reducible refine Box.drewN ?_ _) | ((with_reducible refine Box.new ?_); simp; done) | (with_reducible apply Box.set2) | ((with_reducible apply Box.put); (with_reducible assumption); rfl) | (with_reducible refine Box.alloc ?_ _) | (with_reducible refine Box.other ?_ (by first | (dsimp only; omega) | omega) _))); have z_l_v1 := x_l_v1.lt; have c_l_v1_0 := x_l_v1.c 0 _ rfl; have f_l_v1_0 := x_l_v1.f 0 _ rfl; have c_l_v1_1 := x_l_v1.c 1 _ rfl; have f_l_v1_1 := x_l_v1.f 1 _ rfl; have c_l_v1_2 := x_l_v1.c 2 _ rfl; have f_l_v1_2 := x_l_v1.f 2 _ rfl; have x_x_v1 : Box v1 (w.heap.size + 1) [.int .i64 bu, .int .i64 ra, .int .i64 pe, .int .i64 le, .int .i64 pt, .int .u64 a] := (by refine Box.below ?_ hv1; repeat (first | (with_reducible assumption) | (with_reducible refine Box.drew ?_) | (with_reducible refine Box.drewN ?_ _) | ((with_reducible refine Box.new ?_); simp; done) | (with_reducible apply Box.set2) | ((with_reducible apply Box.put); (with_reducible assumption); rfl) | (with_reducible refine Box.alloc ?_ _) | (with_reducible refine Box.other ?_ (by first | (dsimp only; omega) | omega) _))); have z_x_v1 := x_x_v1.lt; have c_x_v1_0 := x_x_v1.c 0 _ rfl; have f_x_v1_0 := x_x_v1.f 0 _ rfl; have c_x_v1_1 := x_x_v1.c 1 _ rfl; have f_x_v1_1 := x_x_v1.f 1 _ rfl; have c_x_v1_2 := x_x_v1.c 2 _ rfl; have f_x_v1_2 := x_x_v1.f 2 _ rfl; have c_x_v1_3 := x_x_v1.c 3 _ rfl; have f_x_v1_3 := x_x_v1.f 3 _ rfl; have c_x_v1_4 := x_x_v1.c 4 _ rfl; have f_x_v1_4 := x_x_v1.f 4 _ rfl; have c_x_v1_5 := x_x_v1.c 5 _ rfl; have f_x_v1_5 := x_x_v1.f 5 _ rfl; have x_c_v1 : Box v1 (w1.heap.size) [.int .i64 0, .int .i64 0, .int .i64 0, .int .i64 0, .int .i64 0, .int .u64 0] := (by refine Box.below ?_ hv1; repeat (first | (with_reducible assumption) | (with_reducible refine Box.drew ?_) | (with_reducible refine Box.drewN ?_ _) | ((with_reducible refine Box.new ?_); simp; done) | (with_reducible apply Box.set2) | ((with_reducible apply Box.put); (with_reducible assumption); rfl) | (with_reducible refine Box.alloc ?_ _) | (with_reducible refine Box.other ?_ (by first | (dsimp only; omega) | omega) _))); have z_c_v1 := x_c_v1.lt; have c_c_v1_0 := x_c_v1.c 0 _ rfl; have f_c_v1_0 := x_c_v1.f 0 _ rfl; have c_c_v1_1 := x_c_v1.c 1 _ rfl; have f_c_v1_1 := x_c_v1.f 1 _ rfl; have c_c_v1_2 := x_c_v1.c 2 _ rfl; have f_c_v1_2 := x_c_v1.f 2 _ rfl; have c_c_v1_3 := x_c_v1.c 3 _ rfl; have f_c_v1_3 := x_c_v1.f 3 _ rfl; have c_c_v1_4 := x_c_v1.c 4 _ rfl; have f_c_v1_4 := x_c_v1.f 4 _ rfl; have c_c_v1_5 := x_c_v1.c 5 _ rfl; have f_c_v1_5 := x_c_v1.f 5 _ rfl; have x_d_v1 : Box v1 (w2.heap.size) [.int .i64 0, .int .i64 0, .int .i64 0, .int .i64 0, .int .i64 0, .int .u64 0] := (by refine Box.below ?_ hv1; repeat (first | (with_reducible assumption) | (with_reducible refine Box.drew ?_) | (with_reducible refine Box.drewN ?_ _) | ((with_reducible refine Box.new ?_); simp; done) | (with_reducible apply Box.set2) | ((with_reducible apply Box.put); (with_reducible assumption); rfl) | (with_reducible refine Box.alloc ?_ _) | (with_reducible refine Box.other ?_ (by first | (dsimp only; omega) | omega) _))); have z_d_v1 := x_d_v1.lt; have c_d_v1_0 := x_d_v1.c 0 _ rfl; have f_d_v1_0 := x_d_v1.f 0 _ rfl; have c_d_v1_1 := x_d_v1.c 1 _ rfl; have f_d_v1_1 := x_d_v1.f 1 _ rfl; have c_d_v1_2 := x_d_v1.c 2 _ rfl; have f_d_v1_2 := x_d_v1.f 2 _ rfl; have c_d_v1_3 := x_d_v1.c 3 _ rfl; have f_d_v1_3 := x_d_v1.f 3 _ rfl; have c_d_v1_4 := x_d_v1.c 4 _ rfl; have f_d_v1_4 := x_d_v1.f 4 _ rfl; have c_d_v1_5 := x_d_v1.c 5 _ rfl; have f_d_v1_5 := x_d_v1.f 5 _ rfl; have x_g_v1 : Box v1 (w3.heap.size) [.int .i64 0, .int .i64 0, .int .i64 0, .int .i64 0, .int .i64 0, .int .u64 0] := (by refine Box.below ?_ hv1; repeat (first | (with_reducible assumption) | (with_reducible refine Box.drew ?_) | (with_reducible refine Box.drewN ?_ _) | ((with_reducible refine Box.new ?_); simp; done) | (with_reducible apply Box.set2) | ((with_reducible apply Box.put); (with_reducible assumption); rfl) | (with_reducible refine Box.alloc ?_ _) | (with_reducible refine Box.other ?_ (by first | (dsimp only; omega) | omega) _))); have z_g_v1 := x_g_v1.lt; have c_g_v1_0 := x_g_v1.c 0 _ rfl; have f_g_v1_0 := x_g_v1.f 0 _ rfl; have c_g_v1_1 := x_g_v1.c 1 _ rfl; have f_g_v1_1 := x_g_v1.f 1 _ rfl; have c_g_v1_2 := x_g_v1.c 2 _ rfl; have f_g_v1_2 := x_g_v1.f 2 _ rfl; have c_g_v1_3 := x_g_v1.c 3 _ rfl; have f_g_v1_3 := x_g_v1.f 3 _ rfl; have c_g_v1_4 := x_g_v1.c 4 _ rfl; have f_g_v1_4 := x_g_v1.f 4 _ rfl; have c_g_v1_5 := x_g_v1.c 5 _ rfl; have f_g_v1_5 := x_g_v1.f 5 _ rfl; have x_i_v1 : Box v1 (w4.heap.size) [.int .i64 0, .int .i64 0, .int .i64 0, .int .i64 0, .int .i64 0, .int .u64 0] := (by refine Box.below ?_ hv1; repeat (first | (with_reducible assumption) | (with_reducible refine Box.drew ?_) | (with_reducible refine Box.drewN ?_ _) | ((with_reducible refine Box.new ?_); simp; done) | (with_reducible apply Box.set2) | ((with_reducible apply Box.put); (with_reducible assumption); rfl) | (with_reducible refine Box.alloc ?_ _) | (with_reducible refine Box.other ?_ (by first | (dsimp only; omega) | omega) _))); have z_i_v1 := x_i_v1.lt; have c_i_v1_0 := x_i_v1.c 0 _ rfl; have f_i_v1_0 := x_i_v1.f 0 _ rfl; have c_i_v1_1 := x_i_v1.c 1 _ rfl; have f_i_v1_1 := x_i_v1.f 1 _ rfl; have c_i_v1_2 := x_i_v1.c 2 _ rfl; have f_i_v1_2 := x_i_v1.f 2 _ rfl; have c_i_v1_3 := x_i_v1.c 3 _ rfl; have f_i_v1_3 := x_i_v1.f 3 _ rfl; have c_i_v1_4 := x_i_v1.c 4 _ rfl; have f_i_v1_4 := x_i_v1.f 4 _ rfl; have c_i_v1_5 := x_i_v1.c 5 _ rfl; have f_i_v1_5 := x_i_v1.f 5 _ rfl)
        | (go_at_call 23; refine (rlimit_is hl _).mono ?_; rintro e v2 ⟨rfl, hv2⟩; have hV2 : Below w.heap.size w v2 := below_thru (by go_grown) hv2; have hs_v2 : w.heap.size ≤ v2.heap.size := hV2.size; have x_l_v2 : Box v2 (w.heap.size) [.int .i64 lb, .int .i64 lr, .int .i64 lp] := (by refine Box.below ?_ hv2; repeat (first | (with_reducible assumption) | (with_reducible refine Box.drew ?_) | (with_reducible refine Box.drewN ?_ _) | ((with_reducible refine Box.new ?_); simp; done) | (with_reducible apply Box.set2) | ((with_reducible apply Box.put); (with_reducible assumption); rfl) | (with_reducible refine Box.alloc ?_ _) | (with_reducible refine Box.other ?_ (by first | (dsimp only; omega) | omega) _))); have z_l_v2 := x_l_v2.lt; have c_l_v2_0 := x_l_v2.c 0 _ rfl; have f_l_v2_0 := x_l_v2.f 0 _ rfl; have c_l_v2_1 := x_l_v2.c 1 _ rfl; have f_l_v2_1 := x_l_v2.f 1 _ rfl; have c_l_v2_2 := x_l_v2.c 2 _ rfl; have f_l_v2_2 := x_l_v2.f 2 _ rfl; have x_x_v2 : Box v2 (w.heap.size + 1) [.int .i64 bu, .int .i64 ra, .int .i64 pe, .int .i64 le, .int .i64 pt, .int .u64 a] := (by refine Box.below ?_ hv2; repeat (first | (with_reducible assumption) | (with_reducible refine Box.drew ?_) | (with_reducible refine Box.drewN ?_ _) | ((with_reducible refine Box.new ?_); simp; done) | (with_reducible apply Box.set2) | ((with_reducible apply Box.put); (with_reducible assumption); rfl) | (with_reducible refine Box.alloc ?_ _) | (with_reducible refine Box.other ?_ (by first | (dsimp only; omega) | omega) _))); have z_x_v2 := x_x_v2.lt; have c_x_v2_0 := x_x_v2.c 0 _ rfl; have f_x_v2_0 := x_x_v2.f 0 _ rfl; have c_x_v2_1 := x_x_v2.c 1 _ rfl; have f_x_v2_1 := x_x_v2.f 1 _ rfl; have c_x_v2_2 := x_x_v2.c 2 _ rfl; have f_x_v2_2 := x_x_v2.f 2 _ rfl; have c_x_v2_3 := x_x_v2.c 3 _ rfl; have f_x_v2_3 := x_x_v2.f 3 _ rfl; have c_x_v2_4 := x_x_v2.c 4 _ rfl; have f_x_v2_4 := x_x_v2.f 4 _ rfl; have c_x_v2_5 := x_x_v2.c 5 _ rfl; have f_x_v2_5 := x_x_v2.f 5 _ rfl; have x_c_v2 : Box v2 (w1.heap.size) [.int .i64 0, .int .i64 0, .int .i64 0, .int .i64 0, .int .i64 0, .int .u64 0] := (by refine Box.below ?_ hv2; repeat (first | (with_reducible assumption) | (with_reducible refine Box.drew ?_) | (with_reducible refine Box.drewN ?_ _) | ((with_reducible refine Box.new ?_); simp; done) | (with_reducible apply Box.set2) | ((with_reducible apply Box.put); (with_reducible assumption); rfl) | (with_reducible refine Box.alloc ?_ _) | (with_reducible refine Box.other ?_ (by first | (dsimp only; omega) | omega) _))); have z_c_v2 := x_c_v2.lt; have c_c_v2_0 := x_c_v2.c 0 _ rfl; have f_c_v2_0 := x_c_v2.f 0 _ rfl; have c_c_v2_1 := x_c_v2.c 1 _ rfl; have f_c_v2_1 := x_c_v2.f 1 _ rfl; have c_c_v2_2 := x_c_v2.c 2 _ rfl; have f_c_v2_2 := x_c_v2.f 2 _ rfl; have c_c_v2_3 := x_c_v2.c 3 _ rfl; have f_c_v2_3 := x_c_v2.f 3 _ rfl; have c_c_v2_4 := x_c_v2.c 4 _ rfl; have f_c_v2_4 := x_c_v2.f 4 _ rfl; have c_c_v2_5 := x_c_v2.c 5 _ rfl; have f_c_v2_5 := x_c_v2.f 5 _ rfl; have x_d_v2 : Box v2 (w2.heap.size) [.int .i64 0, .int .i64 0, .int .i64 0, .int .i64 0, .int .i64 0, .int .u64 0] := (by refine Box.below ?_ hv2; repeat (first | (with_reducible assumption) | (with_reducible refine Box.drew ?_) | (with_reducible refine Box.drewN ?_ _) | ((with_reducible refine Box.new ?_); simp; done) | (with_reducible apply Box.set2) | ((with_reducible apply Box.put); (with_reducible assumption); rfl) | (with_reducible refine Box.alloc ?_ _) | (with_reducible refine Box.other ?_ (by first | (dsimp only; omega) | omega) _))); have z_d_v2 := x_d_v2.lt; have c_d_v2_0 := x_d_v2.c 0 _ rfl; have f_d_v2_0 := x_d_v2.f 0 _ rfl; have c_d_v2_1 := x_d_v2.c 1 _ rfl; have f_d_v2_1 := x_d_v2.f 1 _ rfl; have c_d_v2_2 := x_d_v2.c 2 _ rfl; have f_d_v2_2 := x_d_v2.f 2 _ rfl; have c_d_v2_3 := x_d_v2.c 3 _ rfl; have f_d_v2_3 := x_d_v2.f 3 _ rfl; have c_d_v2_4 := x_d_v2.c 4 _ rfl; have f_d_v2_4 := x_d_v2.f 4 _ rfl; have c_d_v2_5 := x_d_v2.c 5 _ rfl; have f_d_v2_5 := x_d_v2.f 5 _ rfl; have x_g_v2 : Box v2 (w3.heap.size) [.int .i64 0, .int .i64 0, .int .i64 0, .int .i64 0, .int .i64 0, .int .u64 0] := (by refine Box.below ?_ hv2; repeat (first | (with_reducible assumption) | (with_reducible refine Box.drew ?_) | (with_reducible refine Box.drewN ?_ _) | ((with_reducible refine Box.new ?_); simp; done) | (with_reducible apply Box.set2) | ((with_reducible apply Box.put); (with_reducible assumption); rfl) | (with_reducible refine Box.alloc ?_ _) | (with_reducible refine Box.other ?_ (by first | (dsimp only; omega) | omega) _))); have z_g_v2 := x_g_v2.lt; have c_g_v2_0 := x_g_v2.c 0 _ rfl; have f_g_v2_0 := x_g_v2.f 0 _ rfl; have c_g_v2_1 := x_g_v2.c 1 _ rfl; have f_g_v2_1 := x_g_v2.f 1 _ rfl; have c_g_v2_2 := x_g_v2.c 2 _ rfl; have f_g_v2_2 := x_g_v2.f 2 _ rfl; have c_g_v2_3 := x_g_v2.c 3 _ rfl; have f_g_v2_3 := x_g_v2.f 3 _ rfl; have c_g_v2_4 := x_g_v2.c 4 _ rfl; have f_g_v2_4 := x_g_v2.f 4 _ rfl; have c_g_v2_5 := x_g_v2.c 5 _ rfl; have f_g_v2_5 := x_g_v2.f 5 _ rfl; have x_i_v2 : Box v2 (w4.heap.size) [.int .i64 0, .int .i64 0, .int .i64 0, .int .i64 0, .int .i64 0, .int .u64 0] := (by refine Box.below ?_ hv2; repeat (first | (with_reducible assumption) | (with_reducible refine Box.drew ?_) | (with_reducible refine Box.drewN ?_ _) | ((with_reducible refine Box.new ?_); simp; done) | (with_reducible apply Box.set2) | ((with_reducible apply Box.put); (with_reducible assumption); rfl) | (with_reducible refine Box.alloc ?_ _) | (with_reducible refine Box.other ?_ (by first | (dsimp only; omega) | omega) _))); have z_i_v2 := x_i_v2.lt; have c_i_v2_0 := x_i_v2.c 0 _ rfl; have f_i_v2_0 := x_i_v2.f 0 _ rfl; have c_i_v2_1 := x_i_v2.c 1 _ rfl; have f_i_v2_1 := x_i_v2.f 1 _ rfl; have c_i_v2_2 := x_i_v2.c 2 _ rfl; have f_i_v2_2 := x_i_v2.f 2 _ rfl; have c_i_v2_3 := x_i_v2.c 3 _ rfl; have f_i_v2_3 := x_i_v2.f 3 _ rfl; have c_i_v2_4 := x_i_v2.c 4 _ rfl; have f_i_v2_4 := x_i_v2.f 4 _ rfl; have c_i_v2_5 := x_i_v2.c 5 _ rfl; have f_i_v2_5 := x_i_v2.f 5 _ rfl)
        | (go_at_call 14; refine (check_is h _).mono ?_; rintro e v3 ⟨rfl, hv3⟩; have hV3 : Below w.heap.size w v3 := below_thru (by go_grown) hv3; have hs_v3 : w.heap.size ≤ v3.heap.size := hV3.size; have x_l_v3 : Box v3 (w.heap.size) [.int .i64 lb, .int .i64 lr, .int .i64 lp] := (by refine Box.below ?_ hv3; repeat (first | (with_reducible assumption) | (with_reducible refine Box.drew ?_) | (with_reducible refine Box.drewN ?_ _) | ((with_reducible refine Box.new ?_); simp; done) | (with_reducible apply Box.set2) | ((with_reducible apply Box.put); (with_reducible assumption); rfl) | (with_reducible refine Box.alloc ?_ _) | (with_reducible refine Box.other ?_ (by first | (dsimp only; omega) | omega) _))); have z_l_v3 := x_l_v3.lt; have c_l_v3_0 := x_l_v3.c 0 _ rfl; have f_l_v3_0 := x_l_v3.f 0 _ rfl; have c_l_v3_1 := x_l_v3.c 1 _ rfl; have f_l_v3_1 := x_l_v3.f 1 _ rfl; have c_l_v3_2 := x_l_v3.c 2 _ rfl; have f_l_v3_2 := x_l_v3.f 2 _ rfl; have x_x_v3 : Box v3 (w.heap.size + 1) [.int .i64 bu, .int .i64 ra, .int .i64 pe, .int .i64 le, .int .i64 pt, .int .u64 a] := (by refine Box.below ?_ hv3; repeat (first | (with_reducible assumption) | (with_reducible refine Box.drew ?_) | (with_reducible refine Box.drewN ?_ _) | ((with_reducible refine Box.new ?_); simp; done) | (with_reducible apply Box.set2) | ((with_reducible apply Box.put); (with_reducible assumption); rfl) | (with_reducible refine Box.alloc ?_ _) | (with_reducible refine Box.other ?_ (by first | (dsimp only; omega) | omega) _))); have z_x_v3 := x_x_v3.lt; have c_x_v3_0 := x_x_v3.c 0 _ rfl; have f_x_v3_0 := x_x_v3.f 0 _ rfl; have c_x_v3_1 := x_x_v3.c 1 _ rfl; have f_x_v3_1 := x_x_v3.f 1 _ rfl; have c_x_v3_2 := x_x_v3.c 2 _ rfl; have f_x_v3_2 := x_x_v3.f 2 _ rfl; have c_x_v3_3 := x_x_v3.c 3 _ rfl; have f_x_v3_3 := x_x_v3.f 3 _ rfl; have c_x_v3_4 := x_x_v3.c 4 _ rfl; have f_x_v3_4 := x_x_v3.f 4 _ rfl; have c_x_v3_5 := x_x_v3.c 5 _ rfl; have f_x_v3_5 := x_x_v3.f 5 _ rfl; have x_c_v3 : Box v3 (w1.heap.size) [.int .i64 0, .int .i64 0, .int .i64 0, .int .i64 0, .int .i64 0, .int .u64 0] := (by refine Box.below ?_ hv3; repeat (first | (with_reducible assumption) | (with_reducible refine Box.drew ?_) | (with_reducible refine Box.drewN ?_ _) | ((with_reducible refine Box.new ?_); simp; done) | (with_reducible apply Box.set2) | ((with_reducible apply Box.put); (with_reducible assumption); rfl) | (with_reducible refine Box.alloc ?_ _) | (with_reducible refine Box.other ?_ (by first | (dsimp only; omega) | omega) _))); have z_c_v3 := x_c_v3.lt; have c_c_v3_0 := x_c_v3.c 0 _ rfl; have f_c_v3_0 := x_c_v3.f 0 _ rfl; have c_c_v3_1 := x_c_v3.c 1 _ rfl; have f_c_v3_1 := x_c_v3.f 1 _ rfl; have c_c_v3_2 := x_c_v3.c 2 _ rfl; have f_c_v3_2 := x_c_v3.f 2 _ rfl; have c_c_v3_3 := x_c_v3.c 3 _ rfl; have f_c_v3_3 := x_c_v3.f 3 _ rfl; have c_c_v3_4 := x_c_v3.c 4 _ rfl; have f_c_v3_4 := x_c_v3.f 4 _ rfl; have c_c_v3_5 := x_c_v3.c 5 _ rfl; have f_c_v3_5 := x_c_v3.f 5 _ rfl; have x_d_v3 : Box v3 (w2.heap.size) [.int .i64 0, .int .i64 0, .int .i64 0, .int .i64 0, .int .i64 0, .int .u64 0] := (by refine Box.below ?_ hv3; repeat (first | (with_reducible assumption) | (with_reducible refine Box.drew ?_) | (with_reducible refine Box.drewN ?_ _) | ((with_reducible refine Box.new ?_); simp; done) | (with_reducible apply Box.set2) | ((with_reducible apply Box.put); (with_reducible assumption); rfl) | (with_reducible refine Box.alloc ?_ _) | (with_reducible refine Box.other ?_ (by first | (dsimp only; omega) | omega) _))); have z_d_v3 := x_d_v3.lt; have c_d_v3_0 := x_d_v3.c 0 _ rfl; have f_d_v3_0 := x_d_v3.f 0 _ rfl; have c_d_v3_1 := x_d_v3.c 1 _ rfl; have f_d_v3_1 := x_d_v3.f 1 _ rfl; have c_d_v3_2 := x_d_v3.c 2 _ rfl; have f_d_v3_2 := x_d_v3.f 2 _ rfl; have c_d_v3_3 := x_d_v3.c 3 _ rfl; have f_d_v3_3 := x_d_v3.f 3 _ rfl; have c_d_v3_4 := x_d_v3.c 4 _ rfl; have f_d_v3_4 := x_d_v3.f 4 _ rfl; have c_d_v3_5 := x_d_v3.c 5 _ rfl; have f_d_v3_5 := x_d_v3.f 5 _ rfl; have x_g_v3 : Box v3 (w3.heap.size) [.int .i64 0, .int .i64 0, .int .i64 0, .int .i64 0, .int .i64 0, .int .u64 0] := (by refine Box.below ?_ hv3; repeat (first | (with_reducible assumption) | (with_reducible refine Box.drew ?_) | (with_reducible refine Box.drewN ?_ _) | ((with_reducible refine Box.new ?_); simp; done) | (with_reducible apply Box.set2) | ((with_reducible apply Box.put); (with_reducible assumption); rfl) | (with_reducible refine Box.alloc ?_ _) | (with_reducible refine Box.other ?_ (by first | (dsimp only; omega) | omega) _))); have z_g_v3 := x_g_v3.lt; have c_g_v3_0 := x_g_v3.c 0 _ rfl; have f_g_v3_0 := x_g_v3.f 0 _ rfl; have c_g_v3_1 := x_g_v3.c 1 _ rfl; have f_g_v3_1 := x_g_v3.f 1 _ rfl; have c_g_v3_2 := x_g_v3.c 2 _ rfl; have f_g_v3_2 := x_g_v3.f 2 _ rfl; have c_g_v3_3 := x_g_v3.c 3 _ rfl; have f_g_v3_3 := x_g_v3.f 3 _ rfl; have c_g_v3_4 := x_g_v3.c 4 _ rfl; have f_g_v3_4 := x_g_v3.f 4 _ rfl; have c_g_v3_5 := x_g_v3.c 5 _ rfl; have f_g_v3_5 := x_g_v3.f 5 _ rfl; have x_i_v3 : Box v3 (w4.heap.size) [.int .i64 0, .int .i64 0, .int .i64 0, .int .i64 0, .int .i64 0, .int .u64 0] := (by refine Box.below ?_ hv3; repeat (first | (with_reducible assumption) | (with_reducible refine Box.drew ?_) | (with_reducible refine Box.drewN ?_ _) | ((with_reducible refine Box.new ?_); simp; done) | (with_reducible apply Box.set2) | ((with_reducible apply Box.put); (with_reducible assumption); rfl) | (with_reducible refine Box.alloc ?_ _) | (with_reducible refine Box.other ?_ (by first | (dsimp only; omega) | omega) _))); have z_i_v3 := x_i_v3.lt; have c_i_v3_0 := x_i_v3.c 0 _ rfl; have f_i_v3_0 := x_i_v3.f 0 _ rfl; have c_i_v3_1 := x_i_v3.c 1 _ rfl; have f_i_v3_1 := x_i_v3.f 1 _ rfl; have c_i_v3_2 := x_i_v3.c 2 _ rfl; have f_i_v3_2 := x_i_v3.f 2 _ rfl; have c_i_v3_3 := x_i_v3.c 3 _ rfl; have f_i_v3_3 := x_i_v3.f 3 _ rfl; have c_i_v3_4 := x_i_v3.c 4 _ rfl; have f_i_v3_4 := x_i_v3.f 4 _ rfl; have c_i_v3_5 := x_i_v3.c 5 _ rfl; have f_i_v3_5 := x_i_v3.f 5 _ rfl)
        | (go_at_call 24; refine (rcheck_is h _).mono ?_; rintro e v4 ⟨rfl, hv4⟩; have hV4 : Below w.heap.size w v4 := below_thru (by go_grown) hv4; have hs_v4 : w.heap.size ≤ v4.heap.size := hV4.size; have x_l_v4 : Box v4 (w.heap.size) [.int .i64 lb, .int .i64 lr, .int .i64 lp] := (by refine Box.below ?_ hv4; repeat (first | (with_reducible assumption) | (with_reducible refine Box.drew ?_) | (with_reducible refine Box.drewN ?_ _) | ((with_reducible refine Box.new ?_); simp; done) | (with_reducible apply Box.set2) | ((with_reducible apply Box.put); (with_reducible assumption); rfl) | (with_reducible refine Box.alloc ?_ _) | (with_reducible refine Box.other ?_ (by first | (dsimp only; omega) | omega) _))); have z_l_v4 := x_l_v4.lt; have c_l_v4_0 := x_l_v4.c 0 _ rfl; have f_l_v4_0 := x_l_v4.f 0 _ rfl; have c_l_v4_1 := x_l_v4.c 1 _ rfl; have f_l_v4_1 := x_l_v4.f 1 _ rfl; have c_l_v4_2 := x_l_v4.c 2 _ rfl; have f_l_v4_2 := x_l_v4.f 2 _ rfl; have x_x_v4 : Box v4 (w.heap.size + 1) [.int .i64 bu, .int .i64 ra, .int .i64 pe, .int .i64 le, .int .i64 pt, .int .u64 a] := (by refine Box.below ?_ hv4; repeat (first | (with_reducible assumption) | (with_reducible refine Box.drew ?_) | (with_reducible refine Box.drewN ?_ _) | ((with_reducible refine Box.new ?_); simp; done) | (with_reducible apply Box.set2) | ((with_reducible apply Box.put); (with_reducible assumption); rfl) | (with_reducible refine Box.alloc ?_ _) | (with_reducible refine Box.other ?_ (by first | (dsimp only; omega) | omega) _))); have z_x_v4 := x_x_v4.lt; have c_x_v4_0 := x_x_v4.c 0 _ rfl; have f_x_v4_0 := x_x_v4.f 0 _ rfl; have c_x_v4_1 := x_x_v4.c 1 _ rfl; have f_x_v4_1 := x_x_v4.f 1 _ rfl; have c_x_v4_2 := x_x_v4.c 2 _ rfl; have f_x_v4_2 := x_x_v4.f 2 _ rfl; have c_x_v4_3 := x_x_v4.c 3 _ rfl; have f_x_v4_3 := x_x_v4.f 3 _ rfl; have c_x_v4_4 := x_x_v4.c 4 _ rfl; have f_x_v4_4 := x_x_v4.f 4 _ rfl; have c_x_v4_5 := x_x_v4.c 5 _ rfl; have f_x_v4_5 := x_x_v4.f 5 _ rfl; have x_c_v4 : Box v4 (w1.heap.size) [.int .i64 0, .int .i64 0, .int .i64 0, .int .i64 0, .int .i64 0, .int .u64 0] := (by refine Box.below ?_ hv4; repeat (first | (with_reducible assumption) | (with_reducible refine Box.drew ?_) | (with_reducible refine Box.drewN ?_ _) | ((with_reducible refine Box.new ?_); simp; done) | (with_reducible apply Box.set2) | ((with_reducible apply Box.put); (with_reducible assumption); rfl) | (with_reducible refine Box.alloc ?_ _) | (with_reducible refine Box.other ?_ (by first | (dsimp only; omega) | omega) _))); have z_c_v4 := x_c_v4.lt; have c_c_v4_0 := x_c_v4.c 0 _ rfl; have f_c_v4_0 := x_c_v4.f 0 _ rfl; have c_c_v4_1 := x_c_v4.c 1 _ rfl; have f_c_v4_1 := x_c_v4.f 1 _ rfl; have c_c_v4_2 := x_c_v4.c 2 _ rfl; have f_c_v4_2 := x_c_v4.f 2 _ rfl; have c_c_v4_3 := x_c_v4.c 3 _ rfl; have f_c_v4_3 := x_c_v4.f 3 _ rfl; have c_c_v4_4 := x_c_v4.c 4 _ rfl; have f_c_v4_4 := x_c_v4.f 4 _ rfl; have c_c_v4_5 := x_c_v4.c 5 _ rfl; have f_c_v4_5 := x_c_v4.f 5 _ rfl; have x_d_v4 : Box v4 (w2.heap.size) [.int .i64 0, .int .i64 0, .int .i64 0, .int .i64 0, .int .i64 0, .int .u64 0] := (by refine Box.below ?_ hv4; repeat (first | (with_reducible assumption) | (with_reducible refine Box.drew ?_) | (with_reducible refine Box.drewN ?_ _) | ((with_reducible refine Box.new ?_); simp; done) | (with_reducible apply Box.set2) | ((with_reducible apply Box.put); (with_reducible assumption); rfl) | (with_reducible refine Box.alloc ?_ _) | (with_reducible refine Box.other ?_ (by first | (dsimp only; omega) | omega) _))); have z_d_v4 := x_d_v4.lt; have c_d_v4_0 := x_d_v4.c 0 _ rfl; have f_d_v4_0 := x_d_v4.f 0 _ rfl; have c_d_v4_1 := x_d_v4.c 1 _ rfl; have f_d_v4_1 := x_d_v4.f 1 _ rfl; have c_d_v4_2 := x_d_v4.c 2 _ rfl; have f_d_v4_2 := x_d_v4.f 2 _ rfl; have c_d_v4_3 := x_d_v4.c 3 _ rfl; have f_d_v4_3 := x_d_v4.f 3 _ rfl; have c_d_v4_4 := x_d_v4.c 4 _ rfl; have f_d_v4_4 := x_d_v4.f 4 _ rfl; have c_d_v4_5 := x_d_v4.c 5 _ rfl; have f_d_v4_5 := x_d_v4.f 5 _ rfl; have x_g_v4 : Box v4 (w3.heap.size) [.int .i64 0, .int .i64 0, .int .i64 0, .int .i64 0, .int .i64 0, .int .u64 0] := (by refine Box.below ?_ hv4; repeat (first | (with_reducible assumption) | (with_reducible refine Box.drew ?_) | (with_reducible refine Box.drewN ?_ _) | ((with_reducible refine Box.new ?_); simp; done) | (with_reducible apply Box.set2) | ((with_reducible apply Box.put); (with_reducible assumption); rfl) | (with_reducible refine Box.alloc ?_ _) | (with_reducible refine Box.other ?_ (by first | (dsimp only; omega) | omega) _))); have z_g_v4 := x_g_v4.lt; have c_g_v4_0 := x_g_v4.c 0 _ rfl; have f_g_v4_0 := x_g_v4.f 0 _ rfl; have c_g_v4_1 := x_g_v4.c 1 _ rfl; have f_g_v4_1 := x_g_v4.f 1 _ rfl; have c_g_v4_2 := x_g_v4.c 2 _ rfl; have f_g_v4_2 := x_g_v4.f 2 _ rfl; have c_g_v4_3 := x_g_v4.c 3 _ rfl; have f_g_v4_3 := x_g_v4.f 3 _ rfl; have c_g_v4_4 := x_g_v4.c 4 _ rfl; have f_g_v4_4 := x_g_v4.f 4 _ rfl; have c_g_v4_5 := x_g_v4.c 5 _ rfl; have f_g_v4_5 := x_g_v4.f 5 _ rfl; have x_i_v4 : Box v4 (w4.heap.size) [.int .i64 0, .int .i64 0, .int .i64 0, .int .i64 0, .int .i64 0, .int .u64 0] := (by refine Box.below ?_ hv4; repeat (first | (with_reducible assumption) | (with_reducible refine Box.drew ?_) | (with_reducible refine Box.drewN ?_ _) | ((with_reducible refine Box.new ?_); simp; done) | (with_reducible apply Box.set2) | ((with_reducible apply Box.put); (with_reducible assumption); rfl) | (with_reducible refine Box.alloc ?_ _) | (with_reducible refine Box.other ?_ (by first | (dsimp only; omega) | omega) _))); have z_i_v4 := x_i_v4.lt; have c_i_v4_0 := x_i_v4.c 0 _ rfl; have f_i_v4_0 := x_i_v4.f 0 _ rfl; have c_i_v4_1 := x_i_v4.c 1 _ rfl; have f_i_v4_1 := x_i_v4.f 1 _ rfl; have c_i_v4_2 := x_i_v4.c 2 _ rfl; have f_i_v4_2 := x_i_v4.f 2 _ rfl; have c_i_v4_3 := x_i_v4.c 3 _ rfl; have f_i_v4_3 := x_i_v4.f 3 _ rfl; have c_i_v4_4 := x_i_v4.c 4 _ rfl; have f_i_v4_4 := x_i_v4.f 4 _ rfl; have c_i_v4_5 := x_i_v4.c 5 _ rfl; have f_i_v4_5 := x_i_v4.f 5 _ rfl))
    all_goals
      go_wp2_with fail
      go_meet
      refine ⟨rfl, ?_, ?_, ?_, ?_, ?_, ?_, ?_⟩
      all_goals first
        | ((repeat (first | (with_reducible assumption) | (with_reducible refine Box.drew ?_) | (with_reducible refine Box.drewN ?_ _) | ((with_reducible refine Box.new ?_); simp; done) | (with_reducible apply Box.set2) | (with_reducible refine Box.alloc ?_ _) | (with_reducible refine Box.other ?_ (by first | (dsimp only; omega) | omega) _))); done)
        | (go_grown; done)
  case rest =>
    obtain ⟨rfl, x_l5, x_x5, x_c5, x_d5, x_g5, x_i5, hB5⟩ := hcut
    obtain ⟨w5, rfl⟩ : ∃ u : World, u = wc := ⟨_, rfl⟩
    clear hB4 hs4 x_l4 z_l4 c_l4_0 c_l4_1 c_l4_2 f_l4_0 f_l4_1 f_l4_2 x_x4 z_x4 c_x4_0 c_x4_1 c_x4_2 c_x4_3 c_x4_4 c_x4_5 f_x4_0 f_x4_1 f_x4_2 f_x4_3 f_x4_4 f_x4_5 x_c4 z_c4 c_c4_0 c_c4_1 c_c4_2 c_c4_3 c_c4_4 c_c4_5 f_c4_0 f_c4_1 f_c4_2 f_c4_3 f_c4_4 f_c4_5 x_d4 z_d4 c_d4_0 c_d4_1 c_d4_2 c_d4_3 c_d4_4 c_d4_5 f_d4_0 f_d4_1 f_d4_2 f_d4_3 f_d4_4 f_d4_5 x_g4 z_g4 c_g4_0 c_g4_1 c_g4_2 c_g4_3 c_g4_4 c_g4_5 f_g4_0 f_g4_1 f_g4_2 f_g4_3 f_g4_4 f_g4_5
    have hs5 : w.heap.size ≤ w5.heap.size := hB5.size
    have z_l5 := x_l5.lt
    have c_l5_0 := x_l5.c 0 _ rfl; have f_l5_0 := x_l5.f 0 _ rfl
    have c_l5_1 := x_l5.c 1 _ rfl; have f_l5_1 := x_l5.f 1 _ rfl
    have c_l5_2 := x_l5.c 2 _ rfl; have f_l5_2 := x_l5.f 2 _ rfl
    have z_x5 := x_x5.lt
    have c_x5_0 := x_x5.c 0 _ rfl; have f_x5_0 := x_x5.f 0 _ rfl
    have c_x5_1 := x_x5.c 1 _ rfl; have f_x5_1 := x_x5.f 1 _ rfl
    have c_x5_2 := x_x5.c 2 _ rfl; have f_x5_2 := x_x5.f 2 _ rfl
    have c_x5_3 := x_x5.c 3 _ rfl; have f_x5_3 := x_x5.f 3 _ rfl
    have c_x5_4 := x_x5.c 4 _ rfl; have f_x5_4 := x_x5.f 4 _ rfl
    have c_x5_5 := x_x5.c 5 _ rfl; have f_x5_5 := x_x5.f 5 _ rfl
    have z_c5 := x_c5.lt
    have c_c5_0 := x_c5.c 0 _ rfl; have f_c5_0 := x_c5.f 0 _ rfl
    have c_c5_1 := x_c5.c 1 _ rfl; have f_c5_1 := x_c5.f 1 _ rfl
    have c_c5_2 := x_c5.c 2 _ rfl; have f_c5_2 := x_c5.f 2 _ rfl
    have c_c5_3 := x_c5.c 3 _ rfl; have f_c5_3 := x_c5.f 3 _ rfl
    have c_c5_4 := x_c5.c 4 _ rfl; have f_c5_4 := x_c5.f 4 _ rfl
    have c_c5_5 := x_c5.c 5 _ rfl; have f_c5_5 := x_c5.f 5 _ rfl
    have z_d5 := x_d5.lt
    have c_d5_0 := x_d5.c 0 _ rfl; have f_d5_0 := x_d5.f 0 _ rfl
    have c_d5_1 := x_d5.c 1 _ rfl; have f_d5_1 := x_d5.f 1 _ rfl
    have c_d5_2 := x_d5.c 2 _ rfl; have f_d5_2 := x_d5.f 2 _ rfl
    have c_d5_3 := x_d5.c 3 _ rfl; have f_d5_3 := x_d5.f 3 _ rfl
    have c_d5_4 := x_d5.c 4 _ rfl; have f_d5_4 := x_d5.f 4 _ rfl
    have c_d5_5 := x_d5.c 5 _ rfl; have f_d5_5 := x_d5.f 5 _ rfl
    have z_g5 := x_g5.lt
    have c_g5_0 := x_g5.c 0 _ rfl; have f_g5_0 := x_g5.f 0 _ rfl
    have c_g5_1 := x_g5.c 1 _ rfl; have f_g5_1 := x_g5.f 1 _ rfl
    have c_g5_2 := x_g5.c 2 _ rfl; have f_g5_2 := x_g5.f 2 _ rfl
    have c_g5_3 := x_g5.c 3 _ rfl; have f_g5_3 := x_g5.f 3 _ rfl
    have c_g5_4 := x_g5.c 4 _ rfl; have f_g5_4 := x_g5.f 4 _ rfl
    have c_g5_5 := x_g5.c 5 _ rfl; have f_g5_5 := x_g5.f 5 _ rfl
    have z_i5 := x_i5.lt
    have c_i5_0 := x_i5.c 0 _ rfl; have f_i5_0 := x_i5.f 0 _ rfl
    have c_i5_1 := x_i5.c 1 _ rfl; have f_i5_1 := x_i5.f 1 _ rfl
    have c_i5_2 := x_i5.c 2 _ rfl; have f_i5_2 := x_i5.f 2 _ rfl
    have c_i5_3 := x_i5.c 3 _ rfl; have f_i5_3 := x_i5.f 3 _ rfl
    have c_i5_4 := x_i5.c 4 _ rfl; have f_i5_4 := x_i5.f 4 _ rfl
    have c_i5_5 := x_i5.c 5 _ rfl; have f_i5_5 := x_i5.f 5 _ rfl
    go_wp2_with fail
    go_returns
    exact ⟨rfl, hB5⟩

end Go.Proofs.Ytikhdfmdbpcajaa
