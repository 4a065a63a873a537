/-
  BucketCharges, walked over the contracts of package bucket and of the reference: it returns true.
-/
import Derived.Test.YtikhdfmdbpcajaaLawKit03
namespace Go.Proofs.Ytikhdfmdbpcajaa
open Go.RowKit

theorem rcharge_is {b r p l q a c m : Int} (h : Hid (bucE b r p l q = 0)) (hc : 0 ≤ c) (hl : c ≤ l) (hm : l ≤ 1000000000) (e : Hid (l - c = m)) (w : World) :
    Calls Try.prog 25 #[.agg #[.int .i64 b, .int .i64 r, .int .i64 p, .int .i64 l, .int .i64 q, .int .u64 a], .int .i64 c] w fun e w' =>
      e = .returned (.tuple #[.agg #[.int .i64 b, .int .i64 r, .int .i64 p, .int .i64 m, .int .i64 q, .int .u64 a], .int .i64 0]) ∧ Below w.heap.size w w' := by
  rw [← e.out]
  exact rcharge_ok h hc hl hm w
theorem rchange_is {bu ra pe le pt a bu2 ra2 pe2 t L P T M : Int} (hb : Buc bu ra pe le pt a) (ht : isU t) (h2 : Hid (limE bu2 ra2 pe2 = 0)) (e1 : Hid (filL bu ra pe le pt a t = L)) (e2 : Hid (filP bu ra pe le pt a t = P)) (e3 : Hid (filA a t = T)) (hm : Hid (min L bu2 = M)) (w : World) :
    Calls Try.prog 27 #[.agg #[.int .i64 bu, .int .i64 ra, .int .i64 pe, .int .i64 le, .int .i64 pt, .int .u64 a], .agg #[.int .i64 bu2, .int .i64 ra2, .int .i64 pe2], .int .u64 t] w fun e w' =>
      e = .returned (.tuple #[.agg #[.int .i64 bu2, .int .i64 ra2, .int .i64 pe2, .int .i64 M, .int .i64 0, .int .u64 T], .int .i64 0]) ∧ Below w.heap.size w w' := by
  rw [← hm.out]
  exact rchange_ok hb ht h2 e1 e2 e3 w

set_option maxRecDepth 100000 in
set_option maxHeartbeats 3200000 in
theorem charges_bad {lb lr lp bu ra pe le pt a c t : Int} (h : Hid (bucE bu ra pe le pt = 8)) (w : World) :
    Calls Try.prog 5 #[.agg #[.int .i64 bu, .int .i64 ra, .int .i64 pe, .int .i64 le, .int .i64 pt, .int .u64 a], .int .i64 c, .agg #[.int .i64 lb, .int .i64 lr, .int .i64 lp], .int .u64 t] w fun e w' => e = .returned (.bool true) ∧ Below w.heap.size w w' := by
  go_enter Try.func5, Try.ntmps5
  go_wp2_with fail
  refine (charge_bad h _).mono ?_
  rintro e w1 ⟨rfl, hb⟩
  have hB1 : Below w.heap.size w w1 := below_thru (by go_grown) hb
  have hs1 : w.heap.size ≤ w1.heap.size := hB1.size
  have x_x1 : Box w1 (w.heap.size) [.int .i64 bu, .int .i64 ra, .int .i64 pe, .int .i64 le, .int .i64 pt, .int .u64 a] := (by refine Box.below ?_ hb; repeat (first | (with_reducible assumption) | (with_reducible refine Box.drew ?_) | (with_reducible refine Box.drewN ?_ _) | ((with_reducible refine Box.new ?_); simp; done) | (with_reducible apply Box.set2) | ((with_reducible apply Box.put); (with_reducible assumption); rfl) | (with_reducible refine Box.alloc ?_ _) | (with_reducible refine Box.other ?_ (by first | (dsimp only; omega) | omega) _)))
  have z_x1 := x_x1.lt
  have c_x1_0 := x_x1.c 0 _ rfl
  have f_x1_0 := x_x1.f 0 _ rfl
  have c_x1_1 := x_x1.c 1 _ rfl
  have f_x1_1 := x_x1.f 1 _ rfl
  have c_x1_2 := x_x1.c 2 _ rfl
  have f_x1_2 := x_x1.f 2 _ rfl
  have c_x1_3 := x_x1.c 3 _ rfl
  have f_x1_3 := x_x1.f 3 _ rfl
  have c_x1_4 := x_x1.c 4 _ rfl
  have f_x1_4 := x_x1.f 4 _ rfl
  have c_x1_5 := x_x1.c 5 _ rfl
  have f_x1_5 := x_x1.f 5 _ rfl
  have x_l1 : Box w1 (w.heap.size + 1) [.int .i64 lb, .int .i64 lr, .int .i64 lp] := (by refine Box.below ?_ hb; repeat (first | (with_reducible assumption) | (with_reducible refine Box.drew ?_) | (with_reducible refine Box.drewN ?_ _) | ((with_reducible refine Box.new ?_); simp; done) | (with_reducible apply Box.set2) | ((with_reducible apply Box.put); (with_reducible assumption); rfl) | (with_reducible refine Box.alloc ?_ _) | (with_reducible refine Box.other ?_ (by first | (dsimp only; omega) | omega) _)))
  have z_l1 := x_l1.lt
  have c_l1_0 := x_l1.c 0 _ rfl
  have f_l1_0 := x_l1.f 0 _ rfl
  have c_l1_1 := x_l1.c 1 _ rfl
  have f_l1_1 := x_l1.f 1 _ rfl
  have c_l1_2 := x_l1.c 2 _ rfl
  have f_l1_2 := x_l1.f 2 _ rfl
  have t1 := hb.size
  try simp at t1
  clear hb
  go_wp2_with fail
  refine (rcharge_bad h _).mono ?_
  rintro e w2 ⟨rfl, hb⟩
  have hB2 : Below w.heap.size w w2 := below_thru (by go_grown) hb
  have hs2 : w.heap.size ≤ w2.heap.size := hB2.size
  have x_x2 : Box w2 (w.heap.size) [.int .i64 bu, .int .i64 ra, .int .i64 pe, .int .i64 le, .int .i64 pt, .int .u64 a] := (by refine Box.below ?_ hb; repeat (first | (with_reducible assumption) | (with_reducible refine Box.drew ?_) | (with_reducible refine Box.drewN ?_ _) | ((with_reducible refine Box.new ?_); simp; done) | (with_reducible apply Box.set2) | ((with_reducible apply Box.put); (with_reducible assumption); rfl) | (with_reducible refine Box.alloc ?_ _) | (with_reducible refine Box.other ?_ (by first | (dsimp only; omega) | omega) _)))
  have z_x2 := x_x2.lt
  have c_x2_0 := x_x2.c 0 _ rfl
  have f_x2_0 := x_x2.f 0 _ rfl
  have c_x2_1 := x_x2.c 1 _ rfl
  have f_x2_1 := x_x2.f 1 _ rfl
  have c_x2_2 := x_x2.c 2 _ rfl
  have f_x2_2 := x_x2.f 2 _ rfl
  have c_x2_3 := x_x2.c 3 _ rfl
  have f_x2_3 := x_x2.f 3 _ rfl
  have c_x2_4 := x_x2.c 4 _ rfl
  have f_x2_4 := x_x2.f 4 _ rfl
  have c_x2_5 := x_x2.c 5 _ rfl
  have f_x2_5 := x_x2.f 5 _ rfl
  have x_l2 : Box w2 (w.heap.size + 1) [.int .i64 lb, .int .i64 lr, .int .i64 lp] := (by refine Box.below ?_ hb; repeat (first | (with_reducible assumption) | (with_reducible refine Box.drew ?_) | (with_reducible refine Box.drewN ?_ _) | ((with_reducible refine Box.new ?_); simp; done) | (with_reducible apply Box.set2) | ((with_reducible apply Box.put); (with_reducible assumption); rfl) | (with_reducible refine Box.alloc ?_ _) | (with_reducible refine Box.other ?_ (by first | (dsimp only; omega) | omega) _)))
  have z_l2 := x_l2.lt
  have c_l2_0 := x_l2.c 0 _ rfl
  have f_l2_0 := x_l2.f 0 _ rfl
  have c_l2_1 := x_l2.c 1 _ rfl
  have f_l2_1 := x_l2.f 1 _ rfl
  have c_l2_2 := x_l2.c 2 _ rfl
  have f_l2_2 := x_l2.f 2 _ rfl
  have x_c2 : Box w2 (w1.heap.size) [.int .i64 0, .int .i64 0, .int .i64 0, .int .i64 0, .int .i64 0, .int .u64 0] := (by refine Box.below ?_ hb; repeat (first | (with_reducible assumption) | (with_reducible refine Box.drew ?_) | (with_reducible refine Box.drewN ?_ _) | ((with_reducible refine Box.new ?_); simp; done) | (with_reducible apply Box.set2) | ((with_reducible apply Box.put); (with_reducible assumption); rfl) | (with_reducible refine Box.alloc ?_ _) | (with_reducible refine Box.other ?_ (by first | (dsimp only; omega) | omega) _)))
  have z_c2 := x_c2.lt
  have c_c2_0 := x_c2.c 0 _ rfl
  have f_c2_0 := x_c2.f 0 _ rfl
  have c_c2_1 := x_c2.c 1 _ rfl
  have f_c2_1 := x_c2.f 1 _ rfl
  have c_c2_2 := x_c2.c 2 _ rfl
  have f_c2_2 := x_c2.f 2 _ rfl
  have c_c2_3 := x_c2.c 3 _ rfl
  have f_c2_3 := x_c2.f 3 _ rfl
  have c_c2_4 := x_c2.c 4 _ rfl
  have f_c2_4 := x_c2.f 4 _ rfl
  have c_c2_5 := x_c2.c 5 _ rfl
  have f_c2_5 := x_c2.f 5 _ rfl
  have t2 := hb.size
  try simp at t2
  clear hb hB1 hs1 x_x1 z_x1 c_x1_0 c_x1_1 c_x1_2 c_x1_3 c_x1_4 c_x1_5 f_x1_0 f_x1_1 f_x1_2 f_x1_3 f_x1_4 f_x1_5 x_l1 z_l1 c_l1_0 c_l1_1 c_l1_2 f_l1_0 f_l1_1 f_l1_2
  go_wp2_with fail
  refine (wait_bad h _).mono ?_
  rintro e w3 ⟨rfl, hb⟩
  have hB3 : Below w.heap.size w w3 := below_thru (by go_grown) hb
  have hs3 : w.heap.size ≤ w3.heap.size := hB3.size
  have x_x3 : Box w3 (w.heap.size) [.int .i64 bu, .int .i64 ra, .int .i64 pe, .int .i64 le, .int .i64 pt, .int .u64 a] := (by refine Box.below ?_ hb; repeat (first | (with_reducible assumption) | (with_reducible refine Box.drew ?_) | (with_reducible refine Box.drewN ?_ _) | ((with_reducible refine Box.new ?_); simp; done) | (with_reducible apply Box.set2) | ((with_reducible apply Box.put); (with_reducible assumption); rfl) | (with_reducible refine Box.alloc ?_ _) | (with_reducible refine Box.other ?_ (by first | (dsimp only; omega) | omega) _)))
  have z_x3 := x_x3.lt
  have c_x3_0 := x_x3.c 0 _ rfl
  have f_x3_0 := x_x3.f 0 _ rfl
  have c_x3_1 := x_x3.c 1 _ rfl
  have f_x3_1 := x_x3.f 1 _ rfl
  have c_x3_2 := x_x3.c 2 _ rfl
  have f_x3_2 := x_x3.f 2 _ rfl
  have c_x3_3 := x_x3.c 3 _ rfl
  have f_x3_3 := x_x3.f 3 _ rfl
  have c_x3_4 := x_x3.c 4 _ rfl
  have f_x3_4 := x_x3.f 4 _ rfl
  have c_x3_5 := x_x3.c 5 _ rfl
  have f_x3_5 := x_x3.f 5 _ rfl
  have x_l3 : Box w3 (w.heap.size + 1) [.int .i64 lb, .int .i64 lr, .int .i64 lp] := (by refine Box.below ?_ hb; repeat (first | (with_reducible assumption) | (with_reducible refine Box.drew ?_) | (with_reducible refine Box.drewN ?_ _) | ((with_reducible refine Box.new ?_); simp; done) | (with_reducible apply Box.set2) | ((with_reducible apply Box.put); (with_reducible assumption); rfl) | (with_reducible refine Box.alloc ?_ _) | (with_reducible refine Box.other ?_ (by first | (dsimp only; omega) | omega) _)))
  have z_l3 := x_l3.lt
  have c_l3_0 := x_l3.c 0 _ rfl
  have f_l3_0 := x_l3.f 0 _ rfl
  have c_l3_1 := x_l3.c 1 _ rfl
  have f_l3_1 := x_l3.f 1 _ rfl
  have c_l3_2 := x_l3.c 2 _ rfl
  have f_l3_2 := x_l3.f 2 _ rfl
  have x_c3 : Box w3 (w1.heap.size) [.int .i64 0, .int .i64 0, .int .i64 0, .int .i64 0, .int .i64 0, .int .u64 0] := (by refine Box.below ?_ hb; repeat (first | (with_reducible assumption) | (with_reducible refine Box.drew ?_) | (with_reducible refine Box.drewN ?_ _) | ((with_reducible refine Box.new ?_); simp; done) | (with_reducible apply Box.set2) | ((with_reducible apply Box.put); (with_reducible assumption); rfl) | (with_reducible refine Box.alloc ?_ _) | (with_reducible refine Box.other ?_ (by first | (dsimp only; omega) | omega) _)))
  have z_c3 := x_c3.lt
  have c_c3_0 := x_c3.c 0 _ rfl
  have f_c3_0 := x_c3.f 0 _ rfl
  have c_c3_1 := x_c3.c 1 _ rfl
  have f_c3_1 := x_c3.f 1 _ rfl
  have c_c3_2 := x_c3.c 2 _ rfl
  have f_c3_2 := x_c3.f 2 _ rfl
  have c_c3_3 := x_c3.c 3 _ rfl
  have f_c3_3 := x_c3.f 3 _ rfl
  have c_c3_4 := x_c3.c 4 _ rfl
  have f_c3_4 := x_c3.f 4 _ rfl
  have c_c3_5 := x_c3.c 5 _ rfl
  have f_c3_5 := x_c3.f 5 _ rfl
  have x_d3 : Box w3 (w2.heap.size) [.int .i64 0, .int .i64 0, .int .i64 0, .int .i64 0, .int .i64 0, .int .u64 0] := (by refine Box.below ?_ hb; repeat (first | (with_reducible assumption) | (with_reducible refine Box.drew ?_) | (with_reducible refine Box.drewN ?_ _) | ((with_reducible refine Box.new ?_); simp; done) | (with_reducible apply Box.set2) | ((with_reducible apply Box.put); (with_reducible assumption); rfl) | (with_reducible refine Box.alloc ?_ _) | (with_reducible refine Box.other ?_ (by first | (dsimp only; omega) | omega) _)))
  have z_d3 := x_d3.lt
  have c_d3_0 := x_d3.c 0 _ rfl
  have f_d3_0 := x_d3.f 0 _ rfl
  have c_d3_1 := x_d3.c 1 _ rfl
  have f_d3_1 := x_d3.f 1 _ rfl
  have c_d3_2 := x_d3.c 2 _ rfl
  have f_d3_2 := x_d3.f 2 _ rfl
  have c_d3_3 := x_d3.c 3 _ rfl
  have f_d3_3 := x_d3.f 3 _ rfl
  have c_d3_4 := x_d3.c 4 _ rfl
  have f_d3_4 := x_d3.f 4 _ rfl
  have c_d3_5 := x_d3.c 5 _ rfl
  have f_d3_5 := x_d3.f 5 _ rfl
  have t3 := hb.size
  try simp at t3
  clear hb hB2 hs2 x_x2 z_x2 c_x2_0 c_x2_1 c_x2_2 c_x2_3 c_x2_4 c_x2_5 f_x2_0 f_x2_1 f_x2_2 f_x2_3 f_x2_4 f_x2_5 x_l2 z_l2 c_l2_0 c_l2_1 c_l2_2 f_l2_0 f_l2_1 f_l2_2 x_c2 z_c2 c_c2_0 c_c2_1 c_c2_2 c_c2_3 c_c2_4 c_c2_5 f_c2_0 f_c2_1 f_c2_2 f_c2_3 f_c2_4 f_c2_5
  go_wp2_with fail
  refine (rwait_bad h _).mono ?_
  rintro e w4 ⟨rfl, hb⟩
  have hB4 : Below w.heap.size w w4 := below_thru (by go_grown) hb
  have hs4 : w.heap.size ≤ w4.heap.size := hB4.size
  have x_x4 : Box w4 (w.heap.size) [.int .i64 bu, .int .i64 ra, .int .i64 pe, .int .i64 le, .int .i64 pt, .int .u64 a] := (by refine Box.below ?_ hb; repeat (first | (with_reducible assumption) | (with_reducible refine Box.drew ?_) | (with_reducible refine Box.drewN ?_ _) | ((with_reducible refine Box.new ?_); simp; done) | (with_reducible apply Box.set2) | ((with_reducible apply Box.put); (with_reducible assumption); rfl) | (with_reducible refine Box.alloc ?_ _) | (with_reducible refine Box.other ?_ (by first | (dsimp only; omega) | omega) _)))
  have z_x4 := x_x4.lt
  have c_x4_0 := x_x4.c 0 _ rfl
  have f_x4_0 := x_x4.f 0 _ rfl
  have c_x4_1 := x_x4.c 1 _ rfl
  have f_x4_1 := x_x4.f 1 _ rfl
  have c_x4_2 := x_x4.c 2 _ rfl
  have f_x4_2 := x_x4.f 2 _ rfl
  have c_x4_3 := x_x4.c 3 _ rfl
  have f_x4_3 := x_x4.f 3 _ rfl
  have c_x4_4 := x_x4.c 4 _ rfl
  have f_x4_4 := x_x4.f 4 _ rfl
  have c_x4_5 := x_x4.c 5 _ rfl
  have f_x4_5 := x_x4.f 5 _ rfl
  have x_l4 : Box w4 (w.heap.size + 1) [.int .i64 lb, .int .i64 lr, .int .i64 lp] := (by refine Box.below ?_ hb; repeat (first | (with_reducible assumption) | (with_reducible refine Box.drew ?_) | (with_reducible refine Box.drewN ?_ _) | ((with_reducible refine Box.new ?_); simp; done) | (with_reducible apply Box.set2) | ((with_reducible apply Box.put); (with_reducible assumption); rfl) | (with_reducible refine Box.alloc ?_ _) | (with_reducible refine Box.other ?_ (by first | (dsimp only; omega) | omega) _)))
  have z_l4 := x_l4.lt
  have c_l4_0 := x_l4.c 0 _ rfl
  have f_l4_0 := x_l4.f 0 _ rfl
  have c_l4_1 := x_l4.c 1 _ rfl
  have f_l4_1 := x_l4.f 1 _ rfl
  have c_l4_2 := x_l4.c 2 _ rfl
  have f_l4_2 := x_l4.f 2 _ rfl
  have x_c4 : Box w4 (w1.heap.size) [.int .i64 0, .int .i64 0, .int .i64 0, .int .i64 0, .int .i64 0, .int .u64 0] := (by refine Box.below ?_ hb; repeat (first | (with_reducible assumption) | (with_reducible refine Box.drew ?_) | (with_reducible refine Box.drewN ?_ _) | ((with_reducible refine Box.new ?_); simp; done) | (with_reducible apply Box.set2) | ((with_reducible apply Box.put); (with_reducible assumption); rfl) | (with_reducible refine Box.alloc ?_ _) | (with_reducible refine Box.other ?_ (by first | (dsimp only; omega) | omega) _)))
  have z_c4 := x_c4.lt
  have c_c4_0 := x_c4.c 0 _ rfl
  have f_c4_0 := x_c4.f 0 _ rfl
  have c_c4_1 := x_c4.c 1 _ rfl
  have f_c4_1 := x_c4.f 1 _ rfl
  have c_c4_2 := x_c4.c 2 _ rfl
  have f_c4_2 := x_c4.f 2 _ rfl
  have c_c4_3 := x_c4.c 3 _ rfl
  have f_c4_3 := x_c4.f 3 _ rfl
  have c_c4_4 := x_c4.c 4 _ rfl
  have f_c4_4 := x_c4.f 4 _ rfl
  have c_c4_5 := x_c4.c 5 _ rfl
  have f_c4_5 := x_c4.f 5 _ rfl
  have x_d4 : Box w4 (w2.heap.size) [.int .i64 0, .int .i64 0, .int .i64 0, .int .i64 0, .int .i64 0, .int .u64 0] := (by refine Box.below ?_ hb; repeat (first | (with_reducible assumption) | (with_reducible refine Box.drew ?_) | (with_reducible refine Box.drewN ?_ _) | ((with_reducible refine Box.new ?_); simp; done) | (with_reducible apply Box.set2) | ((with_reducible apply Box.put); (with_reducible assumption); rfl) | (with_reducible refine Box.alloc ?_ _) | (with_reducible refine Box.other ?_ (by first | (dsimp only; omega) | omega) _)))
  have z_d4 := x_d4.lt
  have c_d4_0 := x_d4.c 0 _ rfl
  have f_d4_0 := x_d4.f 0 _ rfl
  have c_d4_1 := x_d4.c 1 _ rfl
  have f_d4_1 := x_d4.f 1 _ rfl
  have c_d4_2 := x_d4.c 2 _ rfl
  have f_d4_2 := x_d4.f 2 _ rfl
  have c_d4_3 := x_d4.c 3 _ rfl
  have f_d4_3 := x_d4.f 3 _ rfl
  have c_d4_4 := x_d4.c 4 _ rfl
  have f_d4_4 := x_d4.f 4 _ rfl
  have c_d4_5 := x_d4.c 5 _ rfl
  have f_d4_5 := x_d4.f 5 _ rfl
  have t4 := hb.size
  try simp at t4
  clear hb hB3 hs3 x_x3 z_x3 c_x3_0 c_x3_1 c_x3_2 c_x3_3 c_x3_4 c_x3_5 f_x3_0 f_x3_1 f_x3_2 f_x3_3 f_x3_4 f_x3_5 x_l3 z_l3 c_l3_0 c_l3_1 c_l3_2 f_l3_0 f_l3_1 f_l3_2 x_c3 z_c3 c_c3_0 c_c3_1 c_c3_2 c_c3_3 c_c3_4 c_c3_5 f_c3_0 f_c3_1 f_c3_2 f_c3_3 f_c3_4 f_c3_5 x_d3 z_d3 c_d3_0 c_d3_1 c_d3_2 c_d3_3 c_d3_4 c_d3_5 f_d3_0 f_d3_1 f_d3_2 f_d3_3 f_d3_4 f_d3_5
  go_wp2_with fail
  refine (change_bad h _).mono ?_
  rintro e w5 ⟨rfl, hb⟩
  have hB5 : Below w.heap.size w w5 := below_thru (by go_grown) hb
  have hs5 : w.heap.size ≤ w5.heap.size := hB5.size
  have x_x5 : Box w5 (w.heap.size) [.int .i64 bu, .int .i64 ra, .int .i64 pe, .int .i64 le, .int .i64 pt, .int .u64 a] := (by refine Box.below ?_ hb; repeat (first | (with_reducible assumption) | (with_reducible refine Box.drew ?_) | (with_reducible refine Box.drewN ?_ _) | ((with_reducible refine Box.new ?_); simp; done) | (with_reducible apply Box.set2) | ((with_reducible apply Box.put); (with_reducible assumption); rfl) | (with_reducible refine Box.alloc ?_ _) | (with_reducible refine Box.other ?_ (by first | (dsimp only; omega) | omega) _)))
  have z_x5 := x_x5.lt
  have c_x5_0 := x_x5.c 0 _ rfl
  have f_x5_0 := x_x5.f 0 _ rfl
  have c_x5_1 := x_x5.c 1 _ rfl
  have f_x5_1 := x_x5.f 1 _ rfl
  have c_x5_2 := x_x5.c 2 _ rfl
  have f_x5_2 := x_x5.f 2 _ rfl
  have c_x5_3 := x_x5.c 3 _ rfl
  have f_x5_3 := x_x5.f 3 _ rfl
  have c_x5_4 := x_x5.c 4 _ rfl
  have f_x5_4 := x_x5.f 4 _ rfl
  have c_x5_5 := x_x5.c 5 _ rfl
  have f_x5_5 := x_x5.f 5 _ rfl
  have x_l5 : Box w5 (w.heap.size + 1) [.int .i64 lb, .int .i64 lr, .int .i64 lp] := (by refine Box.below ?_ hb; repeat (first | (with_reducible assumption) | (with_reducible refine Box.drew ?_) | (with_reducible refine Box.drewN ?_ _) | ((with_reducible refine Box.new ?_); simp; done) | (with_reducible apply Box.set2) | ((with_reducible apply Box.put); (with_reducible assumption); rfl) | (with_reducible refine Box.alloc ?_ _) | (with_reducible refine Box.other ?_ (by first | (dsimp only; omega) | omega) _)))
  have z_l5 := x_l5.lt
  have c_l5_0 := x_l5.c 0 _ rfl
  have f_l5_0 := x_l5.f 0 _ rfl
  have c_l5_1 := x_l5.c 1 _ rfl
  have f_l5_1 := x_l5.f 1 _ rfl
  have c_l5_2 := x_l5.c 2 _ rfl
  have f_l5_2 := x_l5.f 2 _ rfl
  have x_c5 : Box w5 (w1.heap.size) [.int .i64 0, .int .i64 0, .int .i64 0, .int .i64 0, .int .i64 0, .int .u64 0] := (by refine Box.below ?_ hb; repeat (first | (with_reducible assumption) | (with_reducible refine Box.drew ?_) | (with_reducible refine Box.drewN ?_ _) | ((with_reducible refine Box.new ?_); simp; done) | (with_reducible apply Box.set2) | ((with_reducible apply Box.put); (with_reducible assumption); rfl) | (with_reducible refine Box.alloc ?_ _) | (with_reducible refine Box.other ?_ (by first | (dsimp only; omega) | omega) _)))
  have z_c5 := x_c5.lt
  have c_c5_0 := x_c5.c 0 _ rfl
  have f_c5_0 := x_c5.f 0 _ rfl
  have c_c5_1 := x_c5.c 1 _ rfl
  have f_c5_1 := x_c5.f 1 _ rfl
  have c_c5_2 := x_c5.c 2 _ rfl
  have f_c5_2 := x_c5.f 2 _ rfl
  have c_c5_3 := x_c5.c 3 _ rfl
  have f_c5_3 := x_c5.f 3 _ rfl
  have c_c5_4 := x_c5.c 4 _ rfl
  have f_c5_4 := x_c5.f 4 _ rfl
  have c_c5_5 := x_c5.c 5 _ rfl
  have f_c5_5 := x_c5.f 5 _ rfl
  have x_d5 : Box w5 (w2.heap.size) [.int .i64 0, .int .i64 0, .int .i64 0, .int .i64 0, .int .i64 0, .int .u64 0] := (by refine Box.below ?_ hb; repeat (first | (with_reducible assumption) | (with_reducible refine Box.drew ?_) | (with_reducible refine Box.drewN ?_ _) | ((with_reducible refine Box.new ?_); simp; done) | (with_reducible apply Box.set2) | ((with_reducible apply Box.put); (with_reducible assumption); rfl) | (with_reducible refine Box.alloc ?_ _) | (with_reducible refine Box.other ?_ (by first | (dsimp only; omega) | omega) _)))
  have z_d5 := x_d5.lt
  have c_d5_0 := x_d5.c 0 _ rfl
  have f_d5_0 := x_d5.f 0 _ rfl
  have c_d5_1 := x_d5.c 1 _ rfl
  have f_d5_1 := x_d5.f 1 _ rfl
  have c_d5_2 := x_d5.c 2 _ rfl
  have f_d5_2 := x_d5.f 2 _ rfl
  have c_d5_3 := x_d5.c 3 _ rfl
  have f_d5_3 := x_d5.f 3 _ rfl
  have c_d5_4 := x_d5.c 4 _ rfl
  have f_d5_4 := x_d5.f 4 _ rfl
  have c_d5_5 := x_d5.c 5 _ rfl
  have f_d5_5 := x_d5.f 5 _ rfl
  have t5 := hb.size
  try simp at t5
  clear hb hB4 hs4 x_x4 z_x4 c_x4_0 c_x4_1 c_x4_2 c_x4_3 c_x4_4 c_x4_5 f_x4_0 f_x4_1 f_x4_2 f_x4_3 f_x4_4 f_x4_5 x_l4 z_l4 c_l4_0 c_l4_1 c_l4_2 f_l4_0 f_l4_1 f_l4_2 x_c4 z_c4 c_c4_0 c_c4_1 c_c4_2 c_c4_3 c_c4_4 c_c4_5 f_c4_0 f_c4_1 f_c4_2 f_c4_3 f_c4_4 f_c4_5 x_d4 z_d4 c_d4_0 c_d4_1 c_d4_2 c_d4_3 c_d4_4 c_d4_5 f_d4_0 f_d4_1 f_d4_2 f_d4_3 f_d4_4 f_d4_5
  go_wp2_with fail
  refine (rchange_bad h _).mono ?_
  rintro e w6 ⟨rfl, hb⟩
  have hB6 : Below w.heap.size w w6 := below_thru (by go_grown) hb
  have hs6 : w.heap.size ≤ w6.heap.size := hB6.size
  have x_x6 : Box w6 (w.heap.size) [.int .i64 bu, .int .i64 ra, .int .i64 pe, .int .i64 le, .int .i64 pt, .int .u64 a] := (by refine Box.below ?_ hb; repeat (first | (with_reducible assumption) | (with_reducible refine Box.drew ?_) | (with_reducible refine Box.drewN ?_ _) | ((with_reducible refine Box.new ?_); simp; done) | (with_reducible apply Box.set2) | ((with_reducible apply Box.put); (with_reducible assumption); rfl) | (with_reducible refine Box.alloc ?_ _) | (with_reducible refine Box.other ?_ (by first | (dsimp only; omega) | omega) _)))
  have z_x6 := x_x6.lt
  have c_x6_0 := x_x6.c 0 _ rfl
  have f_x6_0 := x_x6.f 0 _ rfl
  have c_x6_1 := x_x6.c 1 _ rfl
  have f_x6_1 := x_x6.f 1 _ rfl
  have c_x6_2 := x_x6.c 2 _ rfl
  have f_x6_2 := x_x6.f 2 _ rfl
  have c_x6_3 := x_x6.c 3 _ rfl
  have f_x6_3 := x_x6.f 3 _ rfl
  have c_x6_4 := x_x6.c 4 _ rfl
  have f_x6_4 := x_x6.f 4 _ rfl
  have c_x6_5 := x_x6.c 5 _ rfl
  have f_x6_5 := x_x6.f 5 _ rfl
  have x_l6 : Box w6 (w.heap.size + 1) [.int .i64 lb, .int .i64 lr, .int .i64 lp] := (by refine Box.below ?_ hb; repeat (first | (with_reducible assumption) | (with_reducible refine Box.drew ?_) | (with_reducible refine Box.drewN ?_ _) | ((with_reducible refine Box.new ?_); simp; done) | (with_reducible apply Box.set2) | ((with_reducible apply Box.put); (with_reducible assumption); rfl) | (with_reducible refine Box.alloc ?_ _) | (with_reducible refine Box.other ?_ (by first | (dsimp only; omega) | omega) _)))
  have z_l6 := x_l6.lt
  have c_l6_0 := x_l6.c 0 _ rfl
  have f_l6_0 := x_l6.f 0 _ rfl
  have c_l6_1 := x_l6.c 1 _ rfl
  have f_l6_1 := x_l6.f 1 _ rfl
  have c_l6_2 := x_l6.c 2 _ rfl
  have f_l6_2 := x_l6.f 2 _ rfl
  have x_c6 : Box w6 (w1.heap.size) [.int .i64 0, .int .i64 0, .int .i64 0, .int .i64 0, .int .i64 0, .int .u64 0] := (by refine Box.below ?_ hb; repeat (first | (with_reducible assumption) | (with_reducible refine Box.drew ?_) | (with_reducible refine Box.drewN ?_ _) | ((with_reducible refine Box.new ?_); simp; done) | (with_reducible apply Box.set2) | ((with_reducible apply Box.put); (with_reducible assumption); rfl) | (with_reducible refine Box.alloc ?_ _) | (with_reducible refine Box.other ?_ (by first | (dsimp only; omega) | omega) _)))
  have z_c6 := x_c6.lt
  have c_c6_0 := x_c6.c 0 _ rfl
  have f_c6_0 := x_c6.f 0 _ rfl
  have c_c6_1 := x_c6.c 1 _ rfl
  have f_c6_1 := x_c6.f 1 _ rfl
  have c_c6_2 := x_c6.c 2 _ rfl
  have f_c6_2 := x_c6.f 2 _ rfl
  have c_c6_3 := x_c6.c 3 _ rfl
  have f_c6_3 := x_c6.f 3 _ rfl
  have c_c6_4 := x_c6.c 4 _ rfl
  have f_c6_4 := x_c6.f 4 _ rfl
  have c_c6_5 := x_c6.c 5 _ rfl
  have f_c6_5 := x_c6.f 5 _ rfl
  have x_d6 : Box w6 (w2.heap.size) [.int .i64 0, .int .i64 0, .int .i64 0, .int .i64 0, .int .i64 0, .int .u64 0] := (by refine Box.below ?_ hb; repeat (first | (with_reducible assumption) | (with_reducible refine Box.drew ?_) | (with_reducible refine Box.drewN ?_ _) | ((with_reducible refine Box.new ?_); simp; done) | (with_reducible apply Box.set2) | ((with_reducible apply Box.put); (with_reducible assumption); rfl) | (with_reducible refine Box.alloc ?_ _) | (with_reducible refine Box.other ?_ (by first | (dsimp only; omega) | omega) _)))
  have z_d6 := x_d6.lt
  have c_d6_0 := x_d6.c 0 _ rfl
  have f_d6_0 := x_d6.f 0 _ rfl
  have c_d6_1 := x_d6.c 1 _ rfl
  have f_d6_1 := x_d6.f 1 _ rfl
  have c_d6_2 := x_d6.c 2 _ rfl
  have f_d6_2 := x_d6.f 2 _ rfl
  have c_d6_3 := x_d6.c 3 _ rfl
  have f_d6_3 := x_d6.f 3 _ rfl
  have c_d6_4 := x_d6.c 4 _ rfl
  have f_d6_4 := x_d6.f 4 _ rfl
  have c_d6_5 := x_d6.c 5 _ rfl
  have f_d6_5 := x_d6.f 5 _ rfl
  have x_k6 : Box w6 (w5.heap.size) [.int .i64 0, .int .i64 0, .int .i64 0, .int .i64 0, .int .i64 0, .int .u64 0] := (by refine Box.below ?_ hb; repeat (first | (with_reducible assumption) | (with_reducible refine Box.drew ?_) | (with_reducible refine Box.drewN ?_ _) | ((with_reducible refine Box.new ?_); simp; done) | (with_reducible apply Box.set2) | ((with_reducible apply Box.put); (with_reducible assumption); rfl) | (with_reducible refine Box.alloc ?_ _) | (with_reducible refine Box.other ?_ (by first | (dsimp only; omega) | omega) _)))
  have z_k6 := x_k6.lt
  have c_k6_0 := x_k6.c 0 _ rfl
  have f_k6_0 := x_k6.f 0 _ rfl
  have c_k6_1 := x_k6.c 1 _ rfl
  have f_k6_1 := x_k6.f 1 _ rfl
  have c_k6_2 := x_k6.c 2 _ rfl
  have f_k6_2 := x_k6.f 2 _ rfl
  have c_k6_3 := x_k6.c 3 _ rfl
  have f_k6_3 := x_k6.f 3 _ rfl
  have c_k6_4 := x_k6.c 4 _ rfl
  have f_k6_4 := x_k6.f 4 _ rfl
  have c_k6_5 := x_k6.c 5 _ rfl
  have f_k6_5 := x_k6.f 5 _ rfl
  have t6 := hb.size
  try simp at t6
  clear hb hB5 hs5 x_x5 z_x5 c_x5_0 c_x5_1 c_x5_2 c_x5_3 c_x5_4 c_x5_5 f_x5_0 f_x5_1 f_x5_2 f_x5_3 f_x5_4 f_x5_5 x_l5 z_l5 c_l5_0 c_l5_1 c_l5_2 f_l5_0 f_l5_1 f_l5_2 x_c5 z_c5 c_c5_0 c_c5_1 c_c5_2 c_c5_3 c_c5_4 c_c5_5 f_c5_0 f_c5_1 f_c5_2 f_c5_3 f_c5_4 f_c5_5 x_d5 z_d5 c_d5_0 c_d5_1 c_d5_2 c_d5_3 c_d5_4 c_d5_5 f_d5_0 f_d5_1 f_d5_2 f_d5_3 f_d5_4 f_d5_5
  go_wp2_with fail
  go_returns
  exact ⟨rfl, by go_grown⟩

set_option maxRecDepth 100000 in
set_option maxHeartbeats 3200000 in
theorem charges_arg_y {lb lr lp bu ra pe le pt a c t : Int} (hb : Buc bu ra pe le pt a) (ht : isU t) (hl : Hid (limE lb lr lp = 0)) (hc : c < 0) (w : World) :
    Calls Try.prog 5 #[.agg #[.int .i64 bu, .int .i64 ra, .int .i64 pe, .int .i64 le, .int .i64 pt, .int .u64 a], .int .i64 c, .agg #[.int .i64 lb, .int .i64 lr, .int .i64 lp], .int .u64 t] w fun e w' => e = .returned (.bool true) ∧ Below w.heap.size w w' := by
  obtain ⟨L, e1⟩ : ∃ x, filL bu ra pe le pt a t = x := ⟨_, rfl⟩
  obtain ⟨Q, e2⟩ : ∃ x, filP bu ra pe le pt a t = x := ⟨_, rfl⟩
  obtain ⟨T, e3⟩ : ∃ x, filA a t = x := ⟨_, rfl⟩
  obtain ⟨M, e4⟩ : ∃ x, min L lb = x := ⟨_, rfl⟩
  obtain ⟨D, e5⟩ : ∃ x, le - c = x := ⟨_, rfl⟩
  have E1 := Lib.hid e1
  have E2 := Lib.hid e2
  have E3 := Lib.hid e3
  have E4 := Lib.hid e4
  have E5 := Lib.hid e5
  have h := Lib.hid hb.ok
  have HB := Lib.hid hb
  have hle : le ≤ 1000000000 := by have := hb.l1; have := hb.nums; omega
  clear e1 e2 e3 e4 e5 hb
  go_enter Try.func5, Try.ntmps5
  go_wp2_with fail
  refine (charge_arg h hc _).mono ?_
  rintro e w1 ⟨rfl, hb⟩
  have hB1 : Below w.heap.size w w1 := below_thru (by go_grown) hb
  have hs1 : w.heap.size ≤ w1.heap.size := hB1.size
  have x_x1 : Box w1 (w.heap.size) [.int .i64 bu, .int .i64 ra, .int .i64 pe, .int .i64 le, .int .i64 pt, .int .u64 a] := (by refine Box.below ?_ hb; repeat (first | (with_reducible assumption) | (with_reducible refine Box.drew ?_) | (with_reducible refine Box.drewN ?_ _) | ((with_reducible refine Box.new ?_); simp; done) | (with_reducible apply Box.set2) | ((with_reducible apply Box.put); (with_reducible assumption); rfl) | (with_reducible refine Box.alloc ?_ _) | (with_reducible refine Box.other ?_ (by first | (dsimp only; omega) | omega) _)))
  have z_x1 := x_x1.lt
  have c_x1_0 := x_x1.c 0 _ rfl
  have f_x1_0 := x_x1.f 0 _ rfl
  have c_x1_1 := x_x1.c 1 _ rfl
  have f_x1_1 := x_x1.f 1 _ rfl
  have c_x1_2 := x_x1.c 2 _ rfl
  have f_x1_2 := x_x1.f 2 _ rfl
  have c_x1_3 := x_x1.c 3 _ rfl
  have f_x1_3 := x_x1.f 3 _ rfl
  have c_x1_4 := x_x1.c 4 _ rfl
  have f_x1_4 := x_x1.f 4 _ rfl
  have c_x1_5 := x_x1.c 5 _ rfl
  have f_x1_5 := x_x1.f 5 _ rfl
  have x_l1 : Box w1 (w.heap.size + 1) [.int .i64 lb, .int .i64 lr, .int .i64 lp] := (by refine Box.below ?_ hb; repeat (first | (with_reducible assumption) | (with_reducible refine Box.drew ?_) | (with_reducible refine Box.drewN ?_ _) | ((with_reducible refine Box.new ?_); simp; done) | (with_reducible apply Box.set2) | ((with_reducible apply Box.put); (with_reducible assumption); rfl) | (with_reducible refine Box.alloc ?_ _) | (with_reducible refine Box.other ?_ (by first | (dsimp only; omega) | omega) _)))
  have z_l1 := x_l1.lt
  have c_l1_0 := x_l1.c 0 _ rfl
  have f_l1_0 := x_l1.f 0 _ rfl
  have c_l1_1 := x_l1.c 1 _ rfl
  have f_l1_1 := x_l1.f 1 _ rfl
  have c_l1_2 := x_l1.c 2 _ rfl
  have f_l1_2 := x_l1.f 2 _ rfl
  have t1 := hb.size
  try simp at t1
  clear hb
  go_wp2_with fail
  refine (rcharge_arg h hc _).mono ?_
  rintro e w2 ⟨rfl, hb⟩
  have hB2 : Below w.heap.size w w2 := below_thru (by go_grown) hb
  have hs2 : w.heap.size ≤ w2.heap.size := hB2.size
  have x_x2 : Box w2 (w.heap.size) [.int .i64 bu, .int .i64 ra, .int .i64 pe, .int .i64 le, .int .i64 pt, .int .u64 a] := (by refine Box.below ?_ hb; repeat (first | (with_reducible assumption) | (with_reducible refine Box.drew ?_) | (with_reducible refine Box.drewN ?_ _) | ((with_reducible refine Box.new ?_); simp; done) | (with_reducible apply Box.set2) | ((with_reducible apply Box.put); (with_reducible assumption); rfl) | (with_reducible refine Box.alloc ?_ _) | (with_reducible refine Box.other ?_ (by first | (dsimp only; omega) | omega) _)))
  have z_x2 := x_x2.lt
  have c_x2_0 := x_x2.c 0 _ rfl
  have f_x2_0 := x_x2.f 0 _ rfl
  have c_x2_1 := x_x2.c 1 _ rfl
  have f_x2_1 := x_x2.f 1 _ rfl
  have c_x2_2 := x_x2.c 2 _ rfl
  have f_x2_2 := x_x2.f 2 _ rfl
  have c_x2_3 := x_x2.c 3 _ rfl
  have f_x2_3 := x_x2.f 3 _ rfl
  have c_x2_4 := x_x2.c 4 _ rfl
  have f_x2_4 := x_x2.f 4 _ rfl
  have c_x2_5 := x_x2.c 5 _ rfl
  have f_x2_5 := x_x2.f 5 _ rfl
  have x_l2 : Box w2 (w.heap.size + 1) [.int .i64 lb, .int .i64 lr, .int .i64 lp] := (by refine Box.below ?_ hb; repeat (first | (with_reducible assumption) | (with_reducible refine Box.drew ?_) | (with_reducible refine Box.drewN ?_ _) | ((with_reducible refine Box.new ?_); simp; done) | (with_reducible apply Box.set2) | ((with_reducible apply Box.put); (with_reducible assumption); rfl) | (with_reducible refine Box.alloc ?_ _) | (with_reducible refine Box.other ?_ (by first | (dsimp only; omega) | omega) _)))
  have z_l2 := x_l2.lt
  have c_l2_0 := x_l2.c 0 _ rfl
  have f_l2_0 := x_l2.f 0 _ rfl
  have c_l2_1 := x_l2.c 1 _ rfl
  have f_l2_1 := x_l2.f 1 _ rfl
  have c_l2_2 := x_l2.c 2 _ rfl
  have f_l2_2 := x_l2.f 2 _ rfl
  have x_c2 : Box w2 (w1.heap.size) [.int .i64 0, .int .i64 0, .int .i64 0, .int .i64 0, .int .i64 0, .int .u64 0] := (by refine Box.below ?_ hb; repeat (first | (with_reducible assumption) | (with_reducible refine Box.drew ?_) | (with_reducible refine Box.drewN ?_ _) | ((with_reducible refine Box.new ?_); simp; done) | (with_reducible apply Box.set2) | ((with_reducible apply Box.put); (with_reducible assumption); rfl) | (with_reducible refine Box.alloc ?_ _) | (with_reducible refine Box.other ?_ (by first | (dsimp only; omega) | omega) _)))
  have z_c2 := x_c2.lt
  have c_c2_0 := x_c2.c 0 _ rfl
  have f_c2_0 := x_c2.f 0 _ rfl
  have c_c2_1 := x_c2.c 1 _ rfl
  have f_c2_1 := x_c2.f 1 _ rfl
  have c_c2_2 := x_c2.c 2 _ rfl
  have f_c2_2 := x_c2.f 2 _ rfl
  have c_c2_3 := x_c2.c 3 _ rfl
  have f_c2_3 := x_c2.f 3 _ rfl
  have c_c2_4 := x_c2.c 4 _ rfl
  have f_c2_4 := x_c2.f 4 _ rfl
  have c_c2_5 := x_c2.c 5 _ rfl
  have f_c2_5 := x_c2.f 5 _ rfl
  have t2 := hb.size
  try simp at t2
  clear hb hB1 hs1 x_x1 z_x1 c_x1_0 c_x1_1 c_x1_2 c_x1_3 c_x1_4 c_x1_5 f_x1_0 f_x1_1 f_x1_2 f_x1_3 f_x1_4 f_x1_5 x_l1 z_l1 c_l1_0 c_l1_1 c_l1_2 f_l1_0 f_l1_1 f_l1_2
  go_wp2_with fail
  refine (wait_arg h hc _).mono ?_
  rintro e w3 ⟨rfl, hb⟩
  have hB3 : Below w.heap.size w w3 := below_thru (by go_grown) hb
  have hs3 : w.heap.size ≤ w3.heap.size := hB3.size
  have x_x3 : Box w3 (w.heap.size) [.int .i64 bu, .int .i64 ra, .int .i64 pe, .int .i64 le, .int .i64 pt, .int .u64 a] := (by refine Box.below ?_ hb; repeat (first | (with_reducible assumption) | (with_reducible refine Box.drew ?_) | (with_reducible refine Box.drewN ?_ _) | ((with_reducible refine Box.new ?_); simp; done) | (with_reducible apply Box.set2) | ((with_reducible apply Box.put); (with_reducible assumption); rfl) | (with_reducible refine Box.alloc ?_ _) | (with_reducible refine Box.other ?_ (by first | (dsimp only; omega) | omega) _)))
  have z_x3 := x_x3.lt
  have c_x3_0 := x_x3.c 0 _ rfl
  have f_x3_0 := x_x3.f 0 _ rfl
  have c_x3_1 := x_x3.c 1 _ rfl
  have f_x3_1 := x_x3.f 1 _ rfl
  have c_x3_2 := x_x3.c 2 _ rfl
  have f_x3_2 := x_x3.f 2 _ rfl
  have c_x3_3 := x_x3.c 3 _ rfl
  have f_x3_3 := x_x3.f 3 _ rfl
  have c_x3_4 := x_x3.c 4 _ rfl
  have f_x3_4 := x_x3.f 4 _ rfl
  have c_x3_5 := x_x3.c 5 _ rfl
  have f_x3_5 := x_x3.f 5 _ rfl
  have x_l3 : Box w3 (w.heap.size + 1) [.int .i64 lb, .int .i64 lr, .int .i64 lp] := (by refine Box.below ?_ hb; repeat (first | (with_reducible assumption) | (with_reducible refine Box.drew ?_) | (with_reducible refine Box.drewN ?_ _) | ((with_reducible refine Box.new ?_); simp; done) | (with_reducible apply Box.set2) | ((with_reducible apply Box.put); (with_reducible assumption); rfl) | (with_reducible refine Box.alloc ?_ _) | (with_reducible refine Box.other ?_ (by first | (dsimp only; omega) | omega) _)))
  have z_l3 := x_l3.lt
  have c_l3_0 := x_l3.c 0 _ rfl
  have f_l3_0 := x_l3.f 0 _ rfl
  have c_l3_1 := x_l3.c 1 _ rfl
  have f_l3_1 := x_l3.f 1 _ rfl
  have c_l3_2 := x_l3.c 2 _ rfl
  have f_l3_2 := x_l3.f 2 _ rfl
  have x_c3 : Box w3 (w1.heap.size) [.int .i64 0, .int .i64 0, .int .i64 0, .int .i64 0, .int .i64 0, .int .u64 0] := (by refine Box.below ?_ hb; repeat (first | (with_reducible assumption) | (with_reducible refine Box.drew ?_) | (with_reducible refine Box.drewN ?_ _) | ((with_reducible refine Box.new ?_); simp; done) | (with_reducible apply Box.set2) | ((with_reducible apply Box.put); (with_reducible assumption); rfl) | (with_reducible refine Box.alloc ?_ _) | (with_reducible refine Box.other ?_ (by first | (dsimp only; omega) | omega) _)))
  have z_c3 := x_c3.lt
  have c_c3_0 := x_c3.c 0 _ rfl
  have f_c3_0 := x_c3.f 0 _ rfl
  have c_c3_1 := x_c3.c 1 _ rfl
  have f_c3_1 := x_c3.f 1 _ rfl
  have c_c3_2 := x_c3.c 2 _ rfl
  have f_c3_2 := x_c3.f 2 _ rfl
  have c_c3_3 := x_c3.c 3 _ rfl
  have f_c3_3 := x_c3.f 3 _ rfl
  have c_c3_4 := x_c3.c 4 _ rfl
  have f_c3_4 := x_c3.f 4 _ rfl
  have c_c3_5 := x_c3.c 5 _ rfl
  have f_c3_5 := x_c3.f 5 _ rfl
  have x_d3 : Box w3 (w2.heap.size) [.int .i64 0, .int .i64 0, .int .i64 0, .int .i64 0, .int .i64 0, .int .u64 0] := (by refine Box.below ?_ hb; repeat (first | (with_reducible assumption) | (with_reducible refine Box.drew ?_) | (with_reducible refine Box.drewN ?_ _) | ((with_reducible refine Box.new ?_); simp; done) | (with_reducible apply Box.set2) | ((with_reducible apply Box.put); (with_reducible assumption); rfl) | (with_reducible refine Box.alloc ?_ _) | (with_reducible refine Box.other ?_ (by first | (dsimp only; omega) | omega) _)))
  have z_d3 := x_d3.lt
  have c_d3_0 := x_d3.c 0 _ rfl
  have f_d3_0 := x_d3.f 0 _ rfl
  have c_d3_1 := x_d3.c 1 _ rfl
  have f_d3_1 := x_d3.f 1 _ rfl
  have c_d3_2 := x_d3.c 2 _ rfl
  have f_d3_2 := x_d3.f 2 _ rfl
  have c_d3_3 := x_d3.c 3 _ rfl
  have f_d3_3 := x_d3.f 3 _ rfl
  have c_d3_4 := x_d3.c 4 _ rfl
  have f_d3_4 := x_d3.f 4 _ rfl
  have c_d3_5 := x_d3.c 5 _ rfl
  have f_d3_5 := x_d3.f 5 _ rfl
  have t3 := hb.size
  try simp at t3
  clear hb hB2 hs2 x_x2 z_x2 c_x2_0 c_x2_1 c_x2_2 c_x2_3 c_x2_4 c_x2_5 f_x2_0 f_x2_1 f_x2_2 f_x2_3 f_x2_4 f_x2_5 x_l2 z_l2 c_l2_0 c_l2_1 c_l2_2 f_l2_0 f_l2_1 f_l2_2 x_c2 z_c2 c_c2_0 c_c2_1 c_c2_2 c_c2_3 c_c2_4 c_c2_5 f_c2_0 f_c2_1 f_c2_2 f_c2_3 f_c2_4 f_c2_5
  go_wp2_with fail
  refine (rwait_arg h hc _).mono ?_
  rintro e w4 ⟨rfl, hb⟩
  have hB4 : Below w.heap.size w w4 := below_thru (by go_grown) hb
  have hs4 : w.heap.size ≤ w4.heap.size := hB4.size
  have x_x4 : Box w4 (w.heap.size) [.int .i64 bu, .int .i64 ra, .int .i64 pe, .int .i64 le, .int .i64 pt, .int .u64 a] := (by refine Box.below ?_ hb; repeat (first | (with_reducible assumption) | (with_reducible refine Box.drew ?_) | (with_reducible refine Box.drewN ?_ _) | ((with_reducible refine Box.new ?_); simp; done) | (with_reducible apply Box.set2) | ((with_reducible apply Box.put); (with_reducible assumption); rfl) | (with_reducible refine Box.alloc ?_ _) | (with_reducible refine Box.other ?_ (by first | (dsimp only; omega) | omega) _)))
  have z_x4 := x_x4.lt
  have c_x4_0 := x_x4.c 0 _ rfl
  have f_x4_0 := x_x4.f 0 _ rfl
  have c_x4_1 := x_x4.c 1 _ rfl
  have f_x4_1 := x_x4.f 1 _ rfl
  have c_x4_2 := x_x4.c 2 _ rfl
  have f_x4_2 := x_x4.f 2 _ rfl
  have c_x4_3 := x_x4.c 3 _ rfl
  have f_x4_3 := x_x4.f 3 _ rfl
  have c_x4_4 := x_x4.c 4 _ rfl
  have f_x4_4 := x_x4.f 4 _ rfl
  have c_x4_5 := x_x4.c 5 _ rfl
  have f_x4_5 := x_x4.f 5 _ rfl
  have x_l4 : Box w4 (w.heap.size + 1) [.int .i64 lb, .int .i64 lr, .int .i64 lp] := (by refine Box.below ?_ hb; repeat (first | (with_reducible assumption) | (with_reducible refine Box.drew ?_) | (with_reducible refine Box.drewN ?_ _) | ((with_reducible refine Box.new ?_); simp; done) | (with_reducible apply Box.set2) | ((with_reducible apply Box.put); (with_reducible assumption); rfl) | (with_reducible refine Box.alloc ?_ _) | (with_reducible refine Box.other ?_ (by first | (dsimp only; omega) | omega) _)))
  have z_l4 := x_l4.lt
  have c_l4_0 := x_l4.c 0 _ rfl
  have f_l4_0 := x_l4.f 0 _ rfl
  have c_l4_1 := x_l4.c 1 _ rfl
  have f_l4_1 := x_l4.f 1 _ rfl
  have c_l4_2 := x_l4.c 2 _ rfl
  have f_l4_2 := x_l4.f 2 _ rfl
  have x_c4 : Box w4 (w1.heap.size) [.int .i64 0, .int .i64 0, .int .i64 0, .int .i64 0, .int .i64 0, .int .u64 0] := (by refine Box.below ?_ hb; repeat (first | (with_reducible assumption) | (with_reducible refine Box.drew ?_) | (with_reducible refine Box.drewN ?_ _) | ((with_reducible refine Box.new ?_); simp; done) | (with_reducible apply Box.set2) | ((with_reducible apply Box.put); (with_reducible assumption); rfl) | (with_reducible refine Box.alloc ?_ _) | (with_reducible refine Box.other ?_ (by first | (dsimp only; omega) | omega) _)))
  have z_c4 := x_c4.lt
  have c_c4_0 := x_c4.c 0 _ rfl
  have f_c4_0 := x_c4.f 0 _ rfl
  have c_c4_1 := x_c4.c 1 _ rfl
  have f_c4_1 := x_c4.f 1 _ rfl
  have c_c4_2 := x_c4.c 2 _ rfl
  have f_c4_2 := x_c4.f 2 _ rfl
  have c_c4_3 := x_c4.c 3 _ rfl
  have f_c4_3 := x_c4.f 3 _ rfl
  have c_c4_4 := x_c4.c 4 _ rfl
  have f_c4_4 := x_c4.f 4 _ rfl
  have c_c4_5 := x_c4.c 5 _ rfl
  have f_c4_5 := x_c4.f 5 _ rfl
  have x_d4 : Box w4 (w2.heap.size) [.int .i64 0, .int .i64 0, .int .i64 0, .int .i64 0, .int .i64 0, .int .u64 0] := (by refine Box.below ?_ hb; repeat (first | (with_reducible assumption) | (with_reducible refine Box.drew ?_) | (with_reducible refine Box.drewN ?_ _) | ((with_reducible refine Box.new ?_); simp; done) | (with_reducible apply Box.set2) | ((with_reducible apply Box.put); (with_reducible assumption); rfl) | (with_reducible refine Box.alloc ?_ _) | (with_reducible refine Box.other ?_ (by first | (dsimp only; omega) | omega) _)))
  have z_d4 := x_d4.lt
  have c_d4_0 := x_d4.c 0 _ rfl
  have f_d4_0 := x_d4.f 0 _ rfl
  have c_d4_1 := x_d4.c 1 _ rfl
  have f_d4_1 := x_d4.f 1 _ rfl
  have c_d4_2 := x_d4.c 2 _ rfl
  have f_d4_2 := x_d4.f 2 _ rfl
  have c_d4_3 := x_d4.c 3 _ rfl
  have f_d4_3 := x_d4.f 3 _ rfl
  have c_d4_4 := x_d4.c 4 _ rfl
  have f_d4_4 := x_d4.f 4 _ rfl
  have c_d4_5 := x_d4.c 5 _ rfl
  have f_d4_5 := x_d4.f 5 _ rfl
  have t4 := hb.size
  try simp at t4
  clear hb hB3 hs3 x_x3 z_x3 c_x3_0 c_x3_1 c_x3_2 c_x3_3 c_x3_4 c_x3_5 f_x3_0 f_x3_1 f_x3_2 f_x3_3 f_x3_4 f_x3_5 x_l3 z_l3 c_l3_0 c_l3_1 c_l3_2 f_l3_0 f_l3_1 f_l3_2 x_c3 z_c3 c_c3_0 c_c3_1 c_c3_2 c_c3_3 c_c3_4 c_c3_5 f_c3_0 f_c3_1 f_c3_2 f_c3_3 f_c3_4 f_c3_5 x_d3 z_d3 c_d3_0 c_d3_1 c_d3_2 c_d3_3 c_d3_4 c_d3_5 f_d3_0 f_d3_1 f_d3_2 f_d3_3 f_d3_4 f_d3_5
  go_wp2_with fail
  refine (change_is HB.out ht hl E1 E2 E3 E4 _).mono ?_
  rintro e w5 ⟨rfl, hb⟩
  have hB5 : Below w.heap.size w w5 := below_thru (by go_grown) hb
  have hs5 : w.heap.size ≤ w5.heap.size := hB5.size
  have x_x5 : Box w5 (w.heap.size) [.int .i64 bu, .int .i64 ra, .int .i64 pe, .int .i64 le, .int .i64 pt, .int .u64 a] := (by refine Box.below ?_ hb; repeat (first | (with_reducible assumption) | (with_reducible refine Box.drew ?_) | (with_reducible refine Box.drewN ?_ _) | ((with_reducible refine Box.new ?_); simp; done) | (with_reducible apply Box.set2) | ((with_reducible apply Box.put); (with_reducible assumption); rfl) | (with_reducible refine Box.alloc ?_ _) | (with_reducible refine Box.other ?_ (by first | (dsimp only; omega) | omega) _)))
  have z_x5 := x_x5.lt
  have c_x5_0 := x_x5.c 0 _ rfl
  have f_x5_0 := x_x5.f 0 _ rfl
  have c_x5_1 := x_x5.c 1 _ rfl
  have f_x5_1 := x_x5.f 1 _ rfl
  have c_x5_2 := x_x5.c 2 _ rfl
  have f_x5_2 := x_x5.f 2 _ rfl
  have c_x5_3 := x_x5.c 3 _ rfl
  have f_x5_3 := x_x5.f 3 _ rfl
  have c_x5_4 := x_x5.c 4 _ rfl
  have f_x5_4 := x_x5.f 4 _ rfl
  have c_x5_5 := x_x5.c 5 _ rfl
  have f_x5_5 := x_x5.f 5 _ rfl
  have x_l5 : Box w5 (w.heap.size + 1) [.int .i64 lb, .int .i64 lr, .int .i64 lp] := (by refine Box.below ?_ hb; repeat (first | (with_reducible assumption) | (with_reducible refine Box.drew ?_) | (with_reducible refine Box.drewN ?_ _) | ((with_reducible refine Box.new ?_); simp; done) | (with_reducible apply Box.set2) | ((with_reducible apply Box.put); (with_reducible assumption); rfl) | (with_reducible refine Box.alloc ?_ _) | (with_reducible refine Box.other ?_ (by first | (dsimp only; omega) | omega) _)))
  have z_l5 := x_l5.lt
  have c_l5_0 := x_l5.c 0 _ rfl
  have f_l5_0 := x_l5.f 0 _ rfl
  have c_l5_1 := x_l5.c 1 _ rfl
  have f_l5_1 := x_l5.f 1 _ rfl
  have c_l5_2 := x_l5.c 2 _ rfl
  have f_l5_2 := x_l5.f 2 _ rfl
  have x_c5 : Box w5 (w1.heap.size) [.int .i64 0, .int .i64 0, .int .i64 0, .int .i64 0, .int .i64 0, .int .u64 0] := (by refine Box.below ?_ hb; repeat (first | (with_reducible assumption) | (with_reducible refine Box.drew ?_) | (with_reducible refine Box.drewN ?_ _) | ((with_reducible refine Box.new ?_); simp; done) | (with_reducible apply Box.set2) | ((with_reducible apply Box.put); (with_reducible assumption); rfl) | (with_reducible refine Box.alloc ?_ _) | (with_reducible refine Box.other ?_ (by first | (dsimp only; omega) | omega) _)))
  have z_c5 := x_c5.lt
  have c_c5_0 := x_c5.c 0 _ rfl
  have f_c5_0 := x_c5.f 0 _ rfl
  have c_c5_1 := x_c5.c 1 _ rfl
  have f_c5_1 := x_c5.f 1 _ rfl
  have c_c5_2 := x_c5.c 2 _ rfl
  have f_c5_2 := x_c5.f 2 _ rfl
  have c_c5_3 := x_c5.c 3 _ rfl
  have f_c5_3 := x_c5.f 3 _ rfl
  have c_c5_4 := x_c5.c 4 _ rfl
  have f_c5_4 := x_c5.f 4 _ rfl
  have c_c5_5 := x_c5.c 5 _ rfl
  have f_c5_5 := x_c5.f 5 _ rfl
  have x_d5 : Box w5 (w2.heap.size) [.int .i64 0, .int .i64 0, .int .i64 0, .int .i64 0, .int .i64 0, .int .u64 0] := (by refine Box.below ?_ hb; repeat (first | (with_reducible assumption) | (with_reducible refine Box.drew ?_) | (with_reducible refine Box.drewN ?_ _) | ((with_reducible refine Box.new ?_); simp; done) | (with_reducible apply Box.set2) | ((with_reducible apply Box.put); (with_reducible assumption); rfl) | (with_reducible refine Box.alloc ?_ _) | (with_reducible refine Box.other ?_ (by first | (dsimp only; omega) | omega) _)))
  have z_d5 := x_d5.lt
  have c_d5_0 := x_d5.c 0 _ rfl
  have f_d5_0 := x_d5.f 0 _ rfl
  have c_d5_1 := x_d5.c 1 _ rfl
  have f_d5_1 := x_d5.f 1 _ rfl
  have c_d5_2 := x_d5.c 2 _ rfl
  have f_d5_2 := x_d5.f 2 _ rfl
  have c_d5_3 := x_d5.c 3 _ rfl
  have f_d5_3 := x_d5.f 3 _ rfl
  have c_d5_4 := x_d5.c 4 _ rfl
  have f_d5_4 := x_d5.f 4 _ rfl
  have c_d5_5 := x_d5.c 5 _ rfl
  have f_d5_5 := x_d5.f 5 _ rfl
  have t5 := hb.size
  try simp at t5
  clear hb hB4 hs4 x_x4 z_x4 c_x4_0 c_x4_1 c_x4_2 c_x4_3 c_x4_4 c_x4_5 f_x4_0 f_x4_1 f_x4_2 f_x4_3 f_x4_4 f_x4_5 x_l4 z_l4 c_l4_0 c_l4_1 c_l4_2 f_l4_0 f_l4_1 f_l4_2 x_c4 z_c4 c_c4_0 c_c4_1 c_c4_2 c_c4_3 c_c4_4 c_c4_5 f_c4_0 f_c4_1 f_c4_2 f_c4_3 f_c4_4 f_c4_5 x_d4 z_d4 c_d4_0 c_d4_1 c_d4_2 c_d4_3 c_d4_4 c_d4_5 f_d4_0 f_d4_1 f_d4_2 f_d4_3 f_d4_4 f_d4_5
  go_wp2_with fail
  refine (rchange_is HB.out ht hl E1 E2 E3 E4 _).mono ?_
  rintro e w6 ⟨rfl, hb⟩
  have hB6 : Below w.heap.size w w6 := below_thru (by go_grown) hb
  have hs6 : w.heap.size ≤ w6.heap.size := hB6.size
  have x_x6 : Box w6 (w.heap.size) [.int .i64 bu, .int .i64 ra, .int .i64 pe, .int .i64 le, .int .i64 pt, .int .u64 a] := (by refine Box.below ?_ hb; repeat (first | (with_reducible assumption) | (with_reducible refine Box.drew ?_) | (with_reducible refine Box.drewN ?_ _) | ((with_reducible refine Box.new ?_); simp; done) | (with_reducible apply Box.set2) | ((with_reducible apply Box.put); (with_reducible assumption); rfl) | (with_reducible refine Box.alloc ?_ _) | (with_reducible refine Box.other ?_ (by first | (dsimp only; omega) | omega) _)))
  have z_x6 := x_x6.lt
  have c_x6_0 := x_x6.c 0 _ rfl
  have f_x6_0 := x_x6.f 0 _ rfl
  have c_x6_1 := x_x6.c 1 _ rfl
  have f_x6_1 := x_x6.f 1 _ rfl
  have c_x6_2 := x_x6.c 2 _ rfl
  have f_x6_2 := x_x6.f 2 _ rfl
  have c_x6_3 := x_x6.c 3 _ rfl
  have f_x6_3 := x_x6.f 3 _ rfl
  have c_x6_4 := x_x6.c 4 _ rfl
  have f_x6_4 := x_x6.f 4 _ rfl
  have c_x6_5 := x_x6.c 5 _ rfl
  have f_x6_5 := x_x6.f 5 _ rfl
  have x_l6 : Box w6 (w.heap.size + 1) [.int .i64 lb, .int .i64 lr, .int .i64 lp] := (by refine Box.below ?_ hb; repeat (first | (with_reducible assumption) | (with_reducible refine Box.drew ?_) | (with_reducible refine Box.drewN ?_ _) | ((with_reducible refine Box.new ?_); simp; done) | (with_reducible apply Box.set2) | ((with_reducible apply Box.put); (with_reducible assumption); rfl) | (with_reducible refine Box.alloc ?_ _) | (with_reducible refine Box.other ?_ (by first | (dsimp only; omega) | omega) _)))
  have z_l6 := x_l6.lt
  have c_l6_0 := x_l6.c 0 _ rfl
  have f_l6_0 := x_l6.f 0 _ rfl
  have c_l6_1 := x_l6.c 1 _ rfl
  have f_l6_1 := x_l6.f 1 _ rfl
  have c_l6_2 := x_l6.c 2 _ rfl
  have f_l6_2 := x_l6.f 2 _ rfl
  have x_c6 : Box w6 (w1.heap.size) [.int .i64 0, .int .i64 0, .int .i64 0, .int .i64 0, .int .i64 0, .int .u64 0] := (by refine Box.below ?_ hb; repeat (first | (with_reducible assumption) | (with_reducible refine Box.drew ?_) | (with_reducible refine Box.drewN ?_ _) | ((with_reducible refine Box.new ?_); simp; done) | (with_reducible apply Box.set2) | ((with_reducible apply Box.put); (with_reducible assumption); rfl) | (with_reducible refine Box.alloc ?_ _) | (with_reducible refine Box.other ?_ (by first | (dsimp only; omega) | omega) _)))
  have z_c6 := x_c6.lt
  have c_c6_0 := x_c6.c 0 _ rfl
  have f_c6_0 := x_c6.f 0 _ rfl
  have c_c6_1 := x_c6.c 1 _ rfl
  have f_c6_1 := x_c6.f 1 _ rfl
  have c_c6_2 := x_c6.c 2 _ rfl
  have f_c6_2 := x_c6.f 2 _ rfl
  have c_c6_3 := x_c6.c 3 _ rfl
  have f_c6_3 := x_c6.f 3 _ rfl
  have c_c6_4 := x_c6.c 4 _ rfl
  have f_c6_4 := x_c6.f 4 _ rfl
  have c_c6_5 := x_c6.c 5 _ rfl
  have f_c6_5 := x_c6.f 5 _ rfl
  have x_d6 : Box w6 (w2.heap.size) [.int .i64 0, .int .i64 0, .int .i64 0, .int .i64 0, .int .i64 0, .int .u64 0] := (by refine Box.below ?_ hb; repeat (first | (with_reducible assumption) | (with_reducible refine Box.drew ?_) | (with_reducible refine Box.drewN ?_ _) | ((with_reducible refine Box.new ?_); simp; done) | (with_reducible apply Box.set2) | ((with_reducible apply Box.put); (with_reducible assumption); rfl) | (with_reducible refine Box.alloc ?_ _) | (with_reducible refine Box.other ?_ (by first | (dsimp only; omega) | omega) _)))
  have z_d6 := x_d6.lt
  have c_d6_0 := x_d6.c 0 _ rfl
  have f_d6_0 := x_d6.f 0 _ rfl
  have c_d6_1 := x_d6.c 1 _ rfl
  have f_d6_1 := x_d6.f 1 _ rfl
  have c_d6_2 := x_d6.c 2 _ rfl
  have f_d6_2 := x_d6.f 2 _ rfl
  have c_d6_3 := x_d6.c 3 _ rfl
  have f_d6_3 := x_d6.f 3 _ rfl
  have c_d6_4 := x_d6.c 4 _ rfl
  have f_d6_4 := x_d6.f 4 _ rfl
  have c_d6_5 := x_d6.c 5 _ rfl
  have f_d6_5 := x_d6.f 5 _ rfl
  have x_k6 : Box w6 (w5.heap.size) [.int .i64 lb, .int .i64 lr, .int .i64 lp, .int .i64 M, .int .i64 0, .int .u64 T] := (by refine Box.below ?_ hb; repeat (first | (with_reducible assumption) | (with_reducible refine Box.drew ?_) | (with_reducible refine Box.drewN ?_ _) | ((with_reducible refine Box.new ?_); simp; done) | (with_reducible apply Box.set2) | ((with_reducible apply Box.put); (with_reducible assumption); rfl) | (with_reducible refine Box.alloc ?_ _) | (with_reducible refine Box.other ?_ (by first | (dsimp only; omega) | omega) _)))
  have z_k6 := x_k6.lt
  have c_k6_0 := x_k6.c 0 _ rfl
  have f_k6_0 := x_k6.f 0 _ rfl
  have c_k6_1 := x_k6.c 1 _ rfl
  have f_k6_1 := x_k6.f 1 _ rfl
  have c_k6_2 := x_k6.c 2 _ rfl
  have f_k6_2 := x_k6.f 2 _ rfl
  have c_k6_3 := x_k6.c 3 _ rfl
  have f_k6_3 := x_k6.f 3 _ rfl
  have c_k6_4 := x_k6.c 4 _ rfl
  have f_k6_4 := x_k6.f 4 _ rfl
  have c_k6_5 := x_k6.c 5 _ rfl
  have f_k6_5 := x_k6.f 5 _ rfl
  have t6 := hb.size
  try simp at t6
  clear hb hB5 hs5 x_x5 z_x5 c_x5_0 c_x5_1 c_x5_2 c_x5_3 c_x5_4 c_x5_5 f_x5_0 f_x5_1 f_x5_2 f_x5_3 f_x5_4 f_x5_5 x_l5 z_l5 c_l5_0 c_l5_1 c_l5_2 f_l5_0 f_l5_1 f_l5_2 x_c5 z_c5 c_c5_0 c_c5_1 c_c5_2 c_c5_3 c_c5_4 c_c5_5 f_c5_0 f_c5_1 f_c5_2 f_c5_3 f_c5_4 f_c5_5 x_d5 z_d5 c_d5_0 c_d5_1 c_d5_2 c_d5_3 c_d5_4 c_d5_5 f_d5_0 f_d5_1 f_d5_2 f_d5_3 f_d5_4 f_d5_5
  go_wp2_with fail
  go_returns
  exact ⟨rfl, by go_grown⟩

set_option maxRecDepth 100000 in
set_option maxHeartbeats 3200000 in
theorem charges_arg_n {lb lr lp bu ra pe le pt a c t : Int} (hb : Buc bu ra pe le pt a) (ht : isU t) (hl : Hid (limE lb lr lp = 8)) (hc : c < 0) (w : World) :
    Calls Try.prog 5 #[.agg #[.int .i64 bu, .int .i64 ra, .int .i64 pe, .int .i64 le, .int .i64 pt, .int .u64 a], .int .i64 c, .agg #[.int .i64 lb, .int .i64 lr, .int .i64 lp], .int .u64 t] w fun e w' => e = .returned (.bool true) ∧ Below w.heap.size w w' := by
  obtain ⟨L, e1⟩ : ∃ x, filL bu ra pe le pt a t = x := ⟨_, rfl⟩
  obtain ⟨Q, e2⟩ : ∃ x, filP bu ra pe le pt a t = x := ⟨_, rfl⟩
  obtain ⟨T, e3⟩ : ∃ x, filA a t = x := ⟨_, rfl⟩
  obtain ⟨M, e4⟩ : ∃ x, min L lb = x := ⟨_, rfl⟩
  obtain ⟨D, e5⟩ : ∃ x, le - c = x := ⟨_, rfl⟩
  have E1 := Lib.hid e1
  have E2 := Lib.hid e2
  have E3 := Lib.hid e3
  have E4 := Lib.hid e4
  have E5 := Lib.hid e5
  have h := Lib.hid hb.ok
  have HB := Lib.hid hb
  have hle : le ≤ 1000000000 := by have := hb.l1; have := hb.nums; omega
  clear e1 e2 e3 e4 e5 hb
  go_enter Try.func5, Try.ntmps5
  go_wp2_with fail
  refine (charge_arg h hc _).mono ?_
  rintro e w1 ⟨rfl, hb⟩
  have hB1 : Below w.heap.size w w1 := below_thru (by go_grown) hb
  have hs1 : w.heap.size ≤ w1.heap.size := hB1.size
  have x_x1 : Box w1 (w.heap.size) [.int .i64 bu, .int .i64 ra, .int .i64 pe, .int .i64 le, .int .i64 pt, .int .u64 a] := (by refine Box.below ?_ hb; repeat (first | (with_reducible assumption) | (with_reducible refine Box.drew ?_) | (with_reducible refine Box.drewN ?_ _) | ((with_reducible refine Box.new ?_); simp; done) | (with_reducible apply Box.set2) | ((with_reducible apply Box.put); (with_reducible assumption); rfl) | (with_reducible refine Box.alloc ?_ _) | (with_reducible refine Box.other ?_ (by first | (dsimp only; omega) | omega) _)))
  have z_x1 := x_x1.lt
  have c_x1_0 := x_x1.c 0 _ rfl
  have f_x1_0 := x_x1.f 0 _ rfl
  have c_x1_1 := x_x1.c 1 _ rfl
  have f_x1_1 := x_x1.f 1 _ rfl
  have c_x1_2 := x_x1.c 2 _ rfl
  have f_x1_2 := x_x1.f 2 _ rfl
  have c_x1_3 := x_x1.c 3 _ rfl
  have f_x1_3 := x_x1.f 3 _ rfl
  have c_x1_4 := x_x1.c 4 _ rfl
  have f_x1_4 := x_x1.f 4 _ rfl
  have c_x1_5 := x_x1.c 5 _ rfl
  have f_x1_5 := x_x1.f 5 _ rfl
  have x_l1 : Box w1 (w.heap.size + 1) [.int .i64 lb, .int .i64 lr, .int .i64 lp] := (by refine Box.below ?_ hb; repeat (first | (with_reducible assumption) | (with_reducible refine Box.drew ?_) | (with_reducible refine Box.drewN ?_ _) | ((with_reducible refine Box.new ?_); simp; done) | (with_reducible apply Box.set2) | ((with_reducible apply Box.put); (with_reducible assumption); rfl) | (with_reducible refine Box.alloc ?_ _) | (with_reducible refine Box.other ?_ (by first | (dsimp only; omega) | omega) _)))
  have z_l1 := x_l1.lt
  have c_l1_0 := x_l1.c 0 _ rfl
  have f_l1_0 := x_l1.f 0 _ rfl
  have c_l1_1 := x_l1.c 1 _ rfl
  have f_l1_1 := x_l1.f 1 _ rfl
  have c_l1_2 := x_l1.c 2 _ rfl
  have f_l1_2 := x_l1.f 2 _ rfl
  have t1 := hb.size
  try simp at t1
  clear hb
  go_wp2_with fail
  refine (rcharge_arg h hc _).mono ?_
  rintro e w2 ⟨rfl, hb⟩
  have hB2 : Below w.heap.size w w2 := below_thru (by go_grown) hb
  have hs2 : w.heap.size ≤ w2.heap.size := hB2.size
  have x_x2 : Box w2 (w.heap.size) [.int .i64 bu, .int .i64 ra, .int .i64 pe, .int .i64 le, .int .i64 pt, .int .u64 a] := (by refine Box.below ?_ hb; repeat (first | (with_reducible assumption) | (with_reducible refine Box.drew ?_) | (with_reducible refine Box.drewN ?_ _) | ((with_reducible refine Box.new ?_); simp; done) | (with_reducible apply Box.set2) | ((with_reducible apply Box.put); (with_reducible assumption); rfl) | (with_reducible refine Box.alloc ?_ _) | (with_reducible refine Box.other ?_ (by first | (dsimp only; omega) | omega) _)))
  have z_x2 := x_x2.lt
  have c_x2_0 := x_x2.c 0 _ rfl
  have f_x2_0 := x_x2.f 0 _ rfl
  have c_x2_1 := x_x2.c 1 _ rfl
  have f_x2_1 := x_x2.f 1 _ rfl
  have c_x2_2 := x_x2.c 2 _ rfl
  have f_x2_2 := x_x2.f 2 _ rfl
  have c_x2_3 := x_x2.c 3 _ rfl
  have f_x2_3 := x_x2.f 3 _ rfl
  have c_x2_4 := x_x2.c 4 _ rfl
  have f_x2_4 := x_x2.f 4 _ rfl
  have c_x2_5 := x_x2.c 5 _ rfl
  have f_x2_5 := x_x2.f 5 _ rfl
  have x_l2 : Box w2 (w.heap.size + 1) [.int .i64 lb, .int .i64 lr, .int .i64 lp] := (by refine Box.below ?_ hb; repeat (first | (with_reducible assumption) | (with_reducible refine Box.drew ?_) | (with_reducible refine Box.drewN ?_ _) | ((with_reducible refine Box.new ?_); simp; done) | (with_reducible apply Box.set2) | ((with_reducible apply Box.put); (with_reducible assumption); rfl) | (with_reducible refine Box.alloc ?_ _) | (with_reducible refine Box.other ?_ (by first | (dsimp only; omega) | omega) _)))
  have z_l2 := x_l2.lt
  have c_l2_0 := x_l2.c 0 _ rfl
  have f_l2_0 := x_l2.f 0 _ rfl
  have c_l2_1 := x_l2.c 1 _ rfl
  have f_l2_1 := x_l2.f 1 _ rfl
  have c_l2_2 := x_l2.c 2 _ rfl
  have f_l2_2 := x_l2.f 2 _ rfl
  have x_c2 : Box w2 (w1.heap.size) [.int .i64 0, .int .i64 0, .int .i64 0, .int .i64 0, .int .i64 0, .int .u64 0] := (by refine Box.below ?_ hb; repeat (first | (with_reducible assumption) | (with_reducible refine Box.drew ?_) | (with_reducible refine Box.drewN ?_ _) | ((with_reducible refine Box.new ?_); simp; done) | (with_reducible apply Box.set2) | ((with_reducible apply Box.put); (with_reducible assumption); rfl) | (with_reducible refine Box.alloc ?_ _) | (with_reducible refine Box.other ?_ (by first | (dsimp only; omega) | omega) _)))
  have z_c2 := x_c2.lt
  have c_c2_0 := x_c2.c 0 _ rfl
  have f_c2_0 := x_c2.f 0 _ rfl
  have c_c2_1 := x_c2.c 1 _ rfl
  have f_c2_1 := x_c2.f 1 _ rfl
  have c_c2_2 := x_c2.c 2 _ rfl
  have f_c2_2 := x_c2.f 2 _ rfl
  have c_c2_3 := x_c2.c 3 _ rfl
  have f_c2_3 := x_c2.f 3 _ rfl
  have c_c2_4 := x_c2.c 4 _ rfl
  have f_c2_4 := x_c2.f 4 _ rfl
  have c_c2_5 := x_c2.c 5 _ rfl
  have f_c2_5 := x_c2.f 5 _ rfl
  have t2 := hb.size
  try simp at t2
  clear hb hB1 hs1 x_x1 z_x1 c_x1_0 c_x1_1 c_x1_2 c_x1_3 c_x1_4 c_x1_5 f_x1_0 f_x1_1 f_x1_2 f_x1_3 f_x1_4 f_x1_5 x_l1 z_l1 c_l1_0 c_l1_1 c_l1_2 f_l1_0 f_l1_1 f_l1_2
  go_wp2_with fail
  refine (wait_arg h hc _).mono ?_
  rintro e w3 ⟨rfl, hb⟩
  have hB3 : Below w.heap.size w w3 := below_thru (by go_grown) hb
  have hs3 : w.heap.size ≤ w3.heap.size := hB3.size
  have x_x3 : Box w3 (w.heap.size) [.int .i64 bu, .int .i64 ra, .int .i64 pe, .int .i64 le, .int .i64 pt, .int .u64 a] := (by refine Box.below ?_ hb; repeat (first | (with_reducible assumption) | (with_reducible refine Box.drew ?_) | (with_reducible refine Box.drewN ?_ _) | ((with_reducible refine Box.new ?_); simp; done) | (with_reducible apply Box.set2) | ((with_reducible apply Box.put); (with_reducible assumption); rfl) | (with_reducible refine Box.alloc ?_ _) | (with_reducible refine Box.other ?_ (by first | (dsimp only; omega) | omega) _)))
  have z_x3 := x_x3.lt
  have c_x3_0 := x_x3.c 0 _ rfl
  have f_x3_0 := x_x3.f 0 _ rfl
  have c_x3_1 := x_x3.c 1 _ rfl
  have f_x3_1 := x_x3.f 1 _ rfl
  have c_x3_2 := x_x3.c 2 _ rfl
  have f_x3_2 := x_x3.f 2 _ rfl
  have c_x3_3 := x_x3.c 3 _ rfl
  have f_x3_3 := x_x3.f 3 _ rfl
  have c_x3_4 := x_x3.c 4 _ rfl
  have f_x3_4 := x_x3.f 4 _ rfl
  have c_x3_5 := x_x3.c 5 _ rfl
  have f_x3_5 := x_x3.f 5 _ rfl
  have x_l3 : Box w3 (w.heap.size + 1) [.int .i64 lb, .int .i64 lr, .int .i64 lp] := (by refine Box.below ?_ hb; repeat (first | (with_reducible assumption) | (with_reducible refine Box.drew ?_) | (with_reducible refine Box.drewN ?_ _) | ((with_reducible refine Box.new ?_); simp; done) | (with_reducible apply Box.set2) | ((with_reducible apply Box.put); (with_reducible assumption); rfl) | (with_reducible refine Box.alloc ?_ _) | (with_reducible refine Box.other ?_ (by first | (dsimp only; omega) | omega) _)))
  have z_l3 := x_l3.lt
  have c_l3_0 := x_l3.c 0 _ rfl
  have f_l3_0 := x_l3.f 0 _ rfl
  have c_l3_1 := x_l3.c 1 _ rfl
  have f_l3_1 := x_l3.f 1 _ rfl
  have c_l3_2 := x_l3.c 2 _ rfl
  have f_l3_2 := x_l3.f 2 _ rfl
  have x_c3 : Box w3 (w1.heap.size) [.int .i64 0, .int .i64 0, .int .i64 0, .int .i64 0, .int .i64 0, .int .u64 0] := (by refine Box.below ?_ hb; repeat (first | (with_reducible assumption) | (with_reducible refine Box.drew ?_) | (with_reducible refine Box.drewN ?_ _) | ((with_reducible refine Box.new ?_); simp; done) | (with_reducible apply Box.set2) | ((with_reducible apply Box.put); (with_reducible assumption); rfl) | (with_reducible refine Box.alloc ?_ _) | (with_reducible refine Box.other ?_ (by first | (dsimp only; omega) | omega) _)))
  have z_c3 := x_c3.lt
  have c_c3_0 := x_c3.c 0 _ rfl
  have f_c3_0 := x_c3.f 0 _ rfl
  have c_c3_1 := x_c3.c 1 _ rfl
  have f_c3_1 := x_c3.f 1 _ rfl
  have c_c3_2 := x_c3.c 2 _ rfl
  have f_c3_2 := x_c3.f 2 _ rfl
  have c_c3_3 := x_c3.c 3 _ rfl
  have f_c3_3 := x_c3.f 3 _ rfl
  have c_c3_4 := x_c3.c 4 _ rfl
  have f_c3_4 := x_c3.f 4 _ rfl
  have c_c3_5 := x_c3.c 5 _ rfl
  have f_c3_5 := x_c3.f 5 _ rfl
  have x_d3 : Box w3 (w2.heap.size) [.int .i64 0, .int .i64 0, .int .i64 0, .int .i64 0, .int .i64 0, .int .u64 0] := (by refine Box.below ?_ hb; repeat (first | (with_reducible assumption) | (with_reducible refine Box.drew ?_) | (with_reducible refine Box.drewN ?_ _) | ((with_reducible refine Box.new ?_); simp; done) | (with_reducible apply Box.set2) | ((with_reducible apply Box.put); (with_reducible assumption); rfl) | (with_reducible refine Box.alloc ?_ _) | (with_reducible refine Box.other ?_ (by first | (dsimp only; omega) | omega) _)))
  have z_d3 := x_d3.lt
  have c_d3_0 := x_d3.c 0 _ rfl
  have f_d3_0 := x_d3.f 0 _ rfl
  have c_d3_1 := x_d3.c 1 _ rfl
  have f_d3_1 := x_d3.f 1 _ rfl
  have c_d3_2 := x_d3.c 2 _ rfl
  have f_d3_2 := x_d3.f 2 _ rfl
  have c_d3_3 := x_d3.c 3 _ rfl
  have f_d3_3 := x_d3.f 3 _ rfl
  have c_d3_4 := x_d3.c 4 _ rfl
  have f_d3_4 := x_d3.f 4 _ rfl
  have c_d3_5 := x_d3.c 5 _ rfl
  have f_d3_5 := x_d3.f 5 _ rfl
  have t3 := hb.size
  try simp at t3
  clear hb hB2 hs2 x_x2 z_x2 c_x2_0 c_x2_1 c_x2_2 c_x2_3 c_x2_4 c_x2_5 f_x2_0 f_x2_1 f_x2_2 f_x2_3 f_x2_4 f_x2_5 x_l2 z_l2 c_l2_0 c_l2_1 c_l2_2 f_l2_0 f_l2_1 f_l2_2 x_c2 z_c2 c_c2_0 c_c2_1 c_c2_2 c_c2_3 c_c2_4 c_c2_5 f_c2_0 f_c2_1 f_c2_2 f_c2_3 f_c2_4 f_c2_5
  go_wp2_with fail
  refine (rwait_arg h hc _).mono ?_
  rintro e w4 ⟨rfl, hb⟩
  have hB4 : Below w.heap.size w w4 := below_thru (by go_grown) hb
  have hs4 : w.heap.size ≤ w4.heap.size := hB4.size
  have x_x4 : Box w4 (w.heap.size) [.int .i64 bu, .int .i64 ra, .int .i64 pe, .int .i64 le, .int .i64 pt, .int .u64 a] := (by refine Box.below ?_ hb; repeat (first | (with_reducible assumption) | (with_reducible refine Box.drew ?_) | (with_reducible refine Box.drewN ?_ _) | ((with_reducible refine Box.new ?_); simp; done) | (with_reducible apply Box.set2) | ((with_reducible apply Box.put); (with_reducible assumption); rfl) | (with_reducible refine Box.alloc ?_ _) | (with_reducible refine Box.other ?_ (by first | (dsimp only; omega) | omega) _)))
  have z_x4 := x_x4.lt
  have c_x4_0 := x_x4.c 0 _ rfl
  have f_x4_0 := x_x4.f 0 _ rfl
  have c_x4_1 := x_x4.c 1 _ rfl
  have f_x4_1 := x_x4.f 1 _ rfl
  have c_x4_2 := x_x4.c 2 _ rfl
  have f_x4_2 := x_x4.f 2 _ rfl
  have c_x4_3 := x_x4.c 3 _ rfl
  have f_x4_3 := x_x4.f 3 _ rfl
  have c_x4_4 := x_x4.c 4 _ rfl
  have f_x4_4 := x_x4.f 4 _ rfl
  have c_x4_5 := x_x4.c 5 _ rfl
  have f_x4_5 := x_x4.f 5 _ rfl
  have x_l4 : Box w4 (w.heap.size + 1) [.int .i64 lb, .int .i64 lr, .int .i64 lp] := (by refine Box.below ?_ hb; repeat (first | (with_reducible assumption) | (with_reducible refine Box.drew ?_) | (with_reducible refine Box.drewN ?_ _) | ((with_reducible refine Box.new ?_); simp; done) | (with_reducible apply Box.set2) | ((with_reducible apply Box.put); (with_reducible assumption); rfl) | (with_reducible refine Box.alloc ?_ _) | (with_reducible refine Box.other ?_ (by first | (dsimp only; omega) | omega) _)))
  have z_l4 := x_l4.lt
  have c_l4_0 := x_l4.c 0 _ rfl
  have f_l4_0 := x_l4.f 0 _ rfl
  have c_l4_1 := x_l4.c 1 _ rfl
  have f_l4_1 := x_l4.f 1 _ rfl
  have c_l4_2 := x_l4.c 2 _ rfl
  have f_l4_2 := x_l4.f 2 _ rfl
  have x_c4 : Box w4 (w1.heap.size) [.int .i64 0, .int .i64 0, .int .i64 0, .int .i64 0, .int .i64 0, .int .u64 0] := (by refine Box.below ?_ hb; repeat (first | (with_reducible assumption) | (with_reducible refine Box.drew ?_) | (with_reducible refine Box.drewN ?_ _) | ((with_reducible refine Box.new ?_); simp; done) | (with_reducible apply Box.set2) | ((with_reducible apply Box.put); (with_reducible assumption); rfl) | (with_reducible refine Box.alloc ?_ _) | (with_reducible refine Box.other ?_ (by first | (dsimp only; omega) | omega) _)))
  have z_c4 := x_c4.lt
  have c_c4_0 := x_c4.c 0 _ rfl
  have f_c4_0 := x_c4.f 0 _ rfl
  have c_c4_1 := x_c4.c 1 _ rfl
  have f_c4_1 := x_c4.f 1 _ rfl
  have c_c4_2 := x_c4.c 2 _ rfl
  have f_c4_2 := x_c4.f 2 _ rfl
  have c_c4_3 := x_c4.c 3 _ rfl
  have f_c4_3 := x_c4.f 3 _ rfl
  have c_c4_4 := x_c4.c 4 _ rfl
  have f_c4_4 := x_c4.f 4 _ rfl
  have c_c4_5 := x_c4.c 5 _ rfl
  have f_c4_5 := x_c4.f 5 _ rfl
  have x_d4 : Box w4 (w2.heap.size) [.int .i64 0, .int .i64 0, .int .i64 0, .int .i64 0, .int .i64 0, .int .u64 0] := (by refine Box.below ?_ hb; repeat (first | (with_reducible assumption) | (with_reducible refine Box.drew ?_) | (with_reducible refine Box.drewN ?_ _) | ((with_reducible refine Box.new ?_); simp; done) | (with_reducible apply Box.set2) | ((with_reducible apply Box.put); (with_reducible assumption); rfl) | (with_reducible refine Box.alloc ?_ _) | (with_reducible refine Box.other ?_ (by first | (dsimp only; omega) | omega) _)))
  have z_d4 := x_d4.lt
  have c_d4_0 := x_d4.c 0 _ rfl
  have f_d4_0 := x_d4.f 0 _ rfl
  have c_d4_1 := x_d4.c 1 _ rfl
  have f_d4_1 := x_d4.f 1 _ rfl
  have c_d4_2 := x_d4.c 2 _ rfl
  have f_d4_2 := x_d4.f 2 _ rfl
  have c_d4_3 := x_d4.c 3 _ rfl
  have f_d4_3 := x_d4.f 3 _ rfl
  have c_d4_4 := x_d4.c 4 _ rfl
  have f_d4_4 := x_d4.f 4 _ rfl
  have c_d4_5 := x_d4.c 5 _ rfl
  have f_d4_5 := x_d4.f 5 _ rfl
  have t4 := hb.size
  try simp at t4
  clear hb hB3 hs3 x_x3 z_x3 c_x3_0 c_x3_1 c_x3_2 c_x3_3 c_x3_4 c_x3_5 f_x3_0 f_x3_1 f_x3_2 f_x3_3 f_x3_4 f_x3_5 x_l3 z_l3 c_l3_0 c_l3_1 c_l3_2 f_l3_0 f_l3_1 f_l3_2 x_c3 z_c3 c_c3_0 c_c3_1 c_c3_2 c_c3_3 c_c3_4 c_c3_5 f_c3_0 f_c3_1 f_c3_2 f_c3_3 f_c3_4 f_c3_5 x_d3 z_d3 c_d3_0 c_d3_1 c_d3_2 c_d3_3 c_d3_4 c_d3_5 f_d3_0 f_d3_1 f_d3_2 f_d3_3 f_d3_4 f_d3_5
  go_wp2_with fail
  refine (change_lim HB.out ht hl _).mono ?_
  rintro e w5 ⟨rfl, hb⟩
  have hB5 : Below w.heap.size w w5 := below_thru (by go_grown) hb
  have hs5 : w.heap.size ≤ w5.heap.size := hB5.size
  have x_x5 : Box w5 (w.heap.size) [.int .i64 bu, .int .i64 ra, .int .i64 pe, .int .i64 le, .int .i64 pt, .int .u64 a] := (by refine Box.below ?_ hb; repeat (first | (with_reducible assumption) | (with_reducible refine Box.drew ?_) | (with_reducible refine Box.drewN ?_ _) | ((with_reducible refine Box.new ?_); simp; done) | (with_reducible apply Box.set2) | ((with_reducible apply Box.put); (with_reducible assumption); rfl) | (with_reducible refine Box.alloc ?_ _) | (with_reducible refine Box.other ?_ (by first | (dsimp only; omega) | omega) _)))
  have z_x5 := x_x5.lt
  have c_x5_0 := x_x5.c 0 _ rfl
  have f_x5_0 := x_x5.f 0 _ rfl
  have c_x5_1 := x_x5.c 1 _ rfl
  have f_x5_1 := x_x5.f 1 _ rfl
  have c_x5_2 := x_x5.c 2 _ rfl
  have f_x5_2 := x_x5.f 2 _ rfl
  have c_x5_3 := x_x5.c 3 _ rfl
  have f_x5_3 := x_x5.f 3 _ rfl
  have c_x5_4 := x_x5.c 4 _ rfl
  have f_x5_4 := x_x5.f 4 _ rfl
  have c_x5_5 := x_x5.c 5 _ rfl
  have f_x5_5 := x_x5.f 5 _ rfl
  have x_l5 : Box w5 (w.heap.size + 1) [.int .i64 lb, .int .i64 lr, .int .i64 lp] := (by refine Box.below ?_ hb; repeat (first | (with_reducible assumption) | (with_reducible refine Box.drew ?_) | (with_reducible refine Box.drewN ?_ _) | ((with_reducible refine Box.new ?_); simp; done) | (with_reducible apply Box.set2) | ((with_reducible apply Box.put); (with_reducible assumption); rfl) | (with_reducible refine Box.alloc ?_ _) | (with_reducible refine Box.other ?_ (by first | (dsimp only; omega) | omega) _)))
  have z_l5 := x_l5.lt
  have c_l5_0 := x_l5.c 0 _ rfl
  have f_l5_0 := x_l5.f 0 _ rfl
  have c_l5_1 := x_l5.c 1 _ rfl
  have f_l5_1 := x_l5.f 1 _ rfl
  have c_l5_2 := x_l5.c 2 _ rfl
  have f_l5_2 := x_l5.f 2 _ rfl
  have x_c5 : Box w5 (w1.heap.size) [.int .i64 0, .int .i64 0, .int .i64 0, .int .i64 0, .int .i64 0, .int .u64 0] := (by refine Box.below ?_ hb; repeat (first | (with_reducible assumption) | (with_reducible refine Box.drew ?_) | (with_reducible refine Box.drewN ?_ _) | ((with_reducible refine Box.new ?_); simp; done) | (with_reducible apply Box.set2) | ((with_reducible apply Box.put); (with_reducible assumption); rfl) | (with_reducible refine Box.alloc ?_ _) | (with_reducible refine Box.other ?_ (by first | (dsimp only; omega) | omega) _)))
  have z_c5 := x_c5.lt
  have c_c5_0 := x_c5.c 0 _ rfl
  have f_c5_0 := x_c5.f 0 _ rfl
  have c_c5_1 := x_c5.c 1 _ rfl
  have f_c5_1 := x_c5.f 1 _ rfl
  have c_c5_2 := x_c5.c 2 _ rfl
  have f_c5_2 := x_c5.f 2 _ rfl
  have c_c5_3 := x_c5.c 3 _ rfl
  have f_c5_3 := x_c5.f 3 _ rfl
  have c_c5_4 := x_c5.c 4 _ rfl
  have f_c5_4 := x_c5.f 4 _ rfl
  have c_c5_5 := x_c5.c 5 _ rfl
  have f_c5_5 := x_c5.f 5 _ rfl
  have x_d5 : Box w5 (w2.heap.size) [.int .i64 0, .int .i64 0, .int .i64 0, .int .i64 0, .int .i64 0, .int .u64 0] := (by refine Box.below ?_ hb; repeat (first | (with_reducible assumption) | (with_reducible refine Box.drew ?_) | (with_reducible refine Box.drewN ?_ _) | ((with_reducible refine Box.new ?_); simp; done) | (with_reducible apply Box.set2) | ((with_reducible apply Box.put); (with_reducible assumption); rfl) | (with_reducible refine Box.alloc ?_ _) | (with_reducible refine Box.other ?_ (by first | (dsimp only; omega) | omega) _)))
  have z_d5 := x_d5.lt
  have c_d5_0 := x_d5.c 0 _ rfl
  have f_d5_0 := x_d5.f 0 _ rfl
  have c_d5_1 := x_d5.c 1 _ rfl
  have f_d5_1 := x_d5.f 1 _ rfl
  have c_d5_2 := x_d5.c 2 _ rfl
  have f_d5_2 := x_d5.f 2 _ rfl
  have c_d5_3 := x_d5.c 3 _ rfl
  have f_d5_3 := x_d5.f 3 _ rfl
  have c_d5_4 := x_d5.c 4 _ rfl
  have f_d5_4 := x_d5.f 4 _ rfl
  have c_d5_5 := x_d5.c 5 _ rfl
  have f_d5_5 := x_d5.f 5 _ rfl
  have t5 := hb.size
  try simp at t5
  clear hb hB4 hs4 x_x4 z_x4 c_x4_0 c_x4_1 c_x4_2 c_x4_3 c_x4_4 c_x4_5 f_x4_0 f_x4_1 f_x4_2 f_x4_3 f_x4_4 f_x4_5 x_l4 z_l4 c_l4_0 c_l4_1 c_l4_2 f_l4_0 f_l4_1 f_l4_2 x_c4 z_c4 c_c4_0 c_c4_1 c_c4_2 c_c4_3 c_c4_4 c_c4_5 f_c4_0 f_c4_1 f_c4_2 f_c4_3 f_c4_4 f_c4_5 x_d4 z_d4 c_d4_0 c_d4_1 c_d4_2 c_d4_3 c_d4_4 c_d4_5 f_d4_0 f_d4_1 f_d4_2 f_d4_3 f_d4_4 f_d4_5
  go_wp2_with fail
  refine (rchange_lim h hl _).mono ?_
  rintro e w6 ⟨rfl, hb⟩
  have hB6 : Below w.heap.size w w6 := below_thru (by go_grown) hb
  have hs6 : w.heap.size ≤ w6.heap.size := hB6.size
  have x_x6 : Box w6 (w.heap.size) [.int .i64 bu, .int .i64 ra, .int .i64 pe, .int .i64 le, .int .i64 pt, .int .u64 a] := (by refine Box.below ?_ hb; repeat (first | (with_reducible assumption) | (with_reducible refine Box.drew ?_) | (with_reducible refine Box.drewN ?_ _) | ((with_reducible refine Box.new ?_); simp; done) | (with_reducible apply Box.set2) | ((with_reducible apply Box.put); (with_reducible assumption); rfl) | (with_reducible refine Box.alloc ?_ _) | (with_reducible refine Box.other ?_ (by first | (dsimp only; omega) | omega) _)))
  have z_x6 := x_x6.lt
  have c_x6_0 := x_x6.c 0 _ rfl
  have f_x6_0 := x_x6.f 0 _ rfl
  have c_x6_1 := x_x6.c 1 _ rfl
  have f_x6_1 := x_x6.f 1 _ rfl
  have c_x6_2 := x_x6.c 2 _ rfl
  have f_x6_2 := x_x6.f 2 _ rfl
  have c_x6_3 := x_x6.c 3 _ rfl
  have f_x6_3 := x_x6.f 3 _ rfl
  have c_x6_4 := x_x6.c 4 _ rfl
  have f_x6_4 := x_x6.f 4 _ rfl
  have c_x6_5 := x_x6.c 5 _ rfl
  have f_x6_5 := x_x6.f 5 _ rfl
  have x_l6 : Box w6 (w.heap.size + 1) [.int .i64 lb, .int .i64 lr, .int .i64 lp] := (by refine Box.below ?_ hb; repeat (first | (with_reducible assumption) | (with_reducible refine Box.drew ?_) | (with_reducible refine Box.drewN ?_ _) | ((with_reducible refine Box.new ?_); simp; done) | (with_reducible apply Box.set2) | ((with_reducible apply Box.put); (with_reducible assumption); rfl) | (with_reducible refine Box.alloc ?_ _) | (with_reducible refine Box.other ?_ (by first | (dsimp only; omega) | omega) _)))
  have z_l6 := x_l6.lt
  have c_l6_0 := x_l6.c 0 _ rfl
  have f_l6_0 := x_l6.f 0 _ rfl
  have c_l6_1 := x_l6.c 1 _ rfl
  have f_l6_1 := x_l6.f 1 _ rfl
  have c_l6_2 := x_l6.c 2 _ rfl
  have f_l6_2 := x_l6.f 2 _ rfl
  have x_c6 : Box w6 (w1.heap.size) [.int .i64 0, .int .i64 0, .int .i64 0, .int .i64 0, .int .i64 0, .int .u64 0] := (by refine Box.below ?_ hb; repeat (first | (with_reducible assumption) | (with_reducible refine Box.drew ?_) | (with_reducible refine Box.drewN ?_ _) | ((with_reducible refine Box.new ?_); simp; done) | (with_reducible apply Box.set2) | ((with_reducible apply Box.put); (with_reducible assumption); rfl) | (with_reducible refine Box.alloc ?_ _) | (with_reducible refine Box.other ?_ (by first | (dsimp only; omega) | omega) _)))
  have z_c6 := x_c6.lt
  have c_c6_0 := x_c6.c 0 _ rfl
  have f_c6_0 := x_c6.f 0 _ rfl
  have c_c6_1 := x_c6.c 1 _ rfl
  have f_c6_1 := x_c6.f 1 _ rfl
  have c_c6_2 := x_c6.c 2 _ rfl
  have f_c6_2 := x_c6.f 2 _ rfl
  have c_c6_3 := x_c6.c 3 _ rfl
  have f_c6_3 := x_c6.f 3 _ rfl
  have c_c6_4 := x_c6.c 4 _ rfl
  have f_c6_4 := x_c6.f 4 _ rfl
  have c_c6_5 := x_c6.c 5 _ rfl
  have f_c6_5 := x_c6.f 5 _ rfl
  have x_d6 : Box w6 (w2.heap.size) [.int .i64 0, .int .i64 0, .int .i64 0, .int .i64 0, .int .i64 0, .int .u64 0] := (by refine Box.below ?_ hb; repeat (first | (with_reducible assumption) | (with_reducible refine Box.drew ?_) | (with_reducible refine Box.drewN ?_ _) | ((with_reducible refine Box.new ?_); simp; done) | (with_reducible apply Box.set2) | ((with_reducible apply Box.put); (with_reducible assumption); rfl) | (with_reducible refine Box.alloc ?_ _) | (with_reducible refine Box.other ?_ (by first | (dsimp only; omega) | omega) _)))
  have z_d6 := x_d6.lt
  have c_d6_0 := x_d6.c 0 _ rfl
  have f_d6_0 := x_d6.f 0 _ rfl
  have c_d6_1 := x_d6.c 1 _ rfl
  have f_d6_1 := x_d6.f 1 _ rfl
  have c_d6_2 := x_d6.c 2 _ rfl
  have f_d6_2 := x_d6.f 2 _ rfl
  have c_d6_3 := x_d6.c 3 _ rfl
  have f_d6_3 := x_d6.f 3 _ rfl
  have c_d6_4 := x_d6.c 4 _ rfl
  have f_d6_4 := x_d6.f 4 _ rfl
  have c_d6_5 := x_d6.c 5 _ rfl
  have f_d6_5 := x_d6.f 5 _ rfl
  have x_k6 : Box w6 (w5.heap.size) [.int .i64 0, .int .i64 0, .int .i64 0, .int .i64 0, .int .i64 0, .int .u64 0] := (by refine Box.below ?_ hb; repeat (first | (with_reducible assumption) | (with_reducible refine Box.drew ?_) | (with_reducible refine Box.drewN ?_ _) | ((with_reducible refine Box.new ?_); simp; done) | (with_reducible apply Box.set2) | ((with_reducible apply Box.put); (with_reducible assumption); rfl) | (with_reducible refine Box.alloc ?_ _) | (with_reducible refine Box.other ?_ (by first | (dsimp only; omega) | omega) _)))
  have z_k6 := x_k6.lt
  have c_k6_0 := x_k6.c 0 _ rfl
  have f_k6_0 := x_k6.f 0 _ rfl
  have c_k6_1 := x_k6.c 1 _ rfl
  have f_k6_1 := x_k6.f 1 _ rfl
  have c_k6_2 := x_k6.c 2 _ rfl
  have f_k6_2 := x_k6.f 2 _ rfl
  have c_k6_3 := x_k6.c 3 _ rfl
  have f_k6_3 := x_k6.f 3 _ rfl
  have c_k6_4 := x_k6.c 4 _ rfl
  have f_k6_4 := x_k6.f 4 _ rfl
  have c_k6_5 := x_k6.c 5 _ rfl
  have f_k6_5 := x_k6.f 5 _ rfl
  have t6 := hb.size
  try simp at t6
  clear hb hB5 hs5 x_x5 z_x5 c_x5_0 c_x5_1 c_x5_2 c_x5_3 c_x5_4 c_x5_5 f_x5_0 f_x5_1 f_x5_2 f_x5_3 f_x5_4 f_x5_5 x_l5 z_l5 c_l5_0 c_l5_1 c_l5_2 f_l5_0 f_l5_1 f_l5_2 x_c5 z_c5 c_c5_0 c_c5_1 c_c5_2 c_c5_3 c_c5_4 c_c5_5 f_c5_0 f_c5_1 f_c5_2 f_c5_3 f_c5_4 f_c5_5 x_d5 z_d5 c_d5_0 c_d5_1 c_d5_2 c_d5_3 c_d5_4 c_d5_5 f_d5_0 f_d5_1 f_d5_2 f_d5_3 f_d5_4 f_d5_5
  go_wp2_with fail
  go_returns
  exact ⟨rfl, by go_grown⟩

set_option maxRecDepth 100000 in
set_option maxHeartbeats 3200000 in
theorem charges_low_y {lb lr lp bu ra pe le pt a c t n : Int} (hb : Buc bu ra pe le pt a) (ht : isU t) (hl : Hid (limE lb lr lp = 0)) (hc : 0 ≤ c) (hd : le < c) (hw : Hid (IsWait bu ra pe le pt a c n)) (w : World) :
    Calls Try.prog 5 #[.agg #[.int .i64 bu, .int .i64 ra, .int .i64 pe, .int .i64 le, .int .i64 pt, .int .u64 a], .int .i64 c, .agg #[.int .i64 lb, .int .i64 lr, .int .i64 lp], .int .u64 t] w fun e w' => e = .returned (.bool true) ∧ Below w.heap.size w w' := by
  obtain ⟨L, e1⟩ : ∃ x, filL bu ra pe le pt a t = x := ⟨_, rfl⟩
  obtain ⟨Q, e2⟩ : ∃ x, filP bu ra pe le pt a t = x := ⟨_, rfl⟩
  obtain ⟨T, e3⟩ : ∃ x, filA a t = x := ⟨_, rfl⟩
  obtain ⟨M, e4⟩ : ∃ x, min L lb = x := ⟨_, rfl⟩
  obtain ⟨D, e5⟩ : ∃ x, le - c = x := ⟨_, rfl⟩
  have E1 := Lib.hid e1
  have E2 := Lib.hid e2
  have E3 := Lib.hid e3
  have E4 := Lib.hid e4
  have E5 := Lib.hid e5
  have h := Lib.hid hb.ok
  have HB := Lib.hid hb
  have hle : le ≤ 1000000000 := by have := hb.l1; have := hb.nums; omega
  clear e1 e2 e3 e4 e5 hb
  go_enter Try.func5, Try.ntmps5
  go_wp2_with fail
  refine (charge_low h hc hd _).mono ?_
  rintro e w1 ⟨rfl, hb⟩
  have hB1 : Below w.heap.size w w1 := below_thru (by go_grown) hb
  have hs1 : w.heap.size ≤ w1.heap.size := hB1.size
  have x_x1 : Box w1 (w.heap.size) [.int .i64 bu, .int .i64 ra, .int .i64 pe, .int .i64 le, .int .i64 pt, .int .u64 a] := (by refine Box.below ?_ hb; repeat (first | (with_reducible assumption) | (with_reducible refine Box.drew ?_) | (with_reducible refine Box.drewN ?_ _) | ((with_reducible refine Box.new ?_); simp; done) | (with_reducible apply Box.set2) | ((with_reducible apply Box.put); (with_reducible assumption); rfl) | (with_reducible refine Box.alloc ?_ _) | (with_reducible refine Box.other ?_ (by first | (dsimp only; omega) | omega) _)))
  have z_x1 := x_x1.lt
  have c_x1_0 := x_x1.c 0 _ rfl
  have f_x1_0 := x_x1.f 0 _ rfl
  have c_x1_1 := x_x1.c 1 _ rfl
  have f_x1_1 := x_x1.f 1 _ rfl
  have c_x1_2 := x_x1.c 2 _ rfl
  have f_x1_2 := x_x1.f 2 _ rfl
  have c_x1_3 := x_x1.c 3 _ rfl
  have f_x1_3 := x_x1.f 3 _ rfl
  have c_x1_4 := x_x1.c 4 _ rfl
  have f_x1_4 := x_x1.f 4 _ rfl
  have c_x1_5 := x_x1.c 5 _ rfl
  have f_x1_5 := x_x1.f 5 _ rfl
  have x_l1 : Box w1 (w.heap.size + 1) [.int .i64 lb, .int .i64 lr, .int .i64 lp] := (by refine Box.below ?_ hb; repeat (first | (with_reducible assumption) | (with_reducible refine Box.drew ?_) | (with_reducible refine Box.drewN ?_ _) | ((with_reducible refine Box.new ?_); simp; done) | (with_reducible apply Box.set2) | ((with_reducible apply Box.put); (with_reducible assumption); rfl) | (with_reducible refine Box.alloc ?_ _) | (with_reducible refine Box.other ?_ (by first | (dsimp only; omega) | omega) _)))
  have z_l1 := x_l1.lt
  have c_l1_0 := x_l1.c 0 _ rfl
  have f_l1_0 := x_l1.f 0 _ rfl
  have c_l1_1 := x_l1.c 1 _ rfl
  have f_l1_1 := x_l1.f 1 _ rfl
  have c_l1_2 := x_l1.c 2 _ rfl
  have f_l1_2 := x_l1.f 2 _ rfl
  have t1 := hb.size
  try simp at t1
  clear hb
  go_wp2_with fail
  refine (rcharge_low h hc hd _).mono ?_
  rintro e w2 ⟨rfl, hb⟩
  have hB2 : Below w.heap.size w w2 := below_thru (by go_grown) hb
  have hs2 : w.heap.size ≤ w2.heap.size := hB2.size
  have x_x2 : Box w2 (w.heap.size) [.int .i64 bu, .int .i64 ra, .int .i64 pe, .int .i64 le, .int .i64 pt, .int .u64 a] := (by refine Box.below ?_ hb; repeat (first | (with_reducible assumption) | (with_reducible refine Box.drew ?_) | (with_reducible refine Box.drewN ?_ _) | ((with_reducible refine Box.new ?_); simp; done) | (with_reducible apply Box.set2) | ((with_reducible apply Box.put); (with_reducible assumption); rfl) | (with_reducible refine Box.alloc ?_ _) | (with_reducible refine Box.other ?_ (by first | (dsimp only; omega) | omega) _)))
  have z_x2 := x_x2.lt
  have c_x2_0 := x_x2.c 0 _ rfl
  have f_x2_0 := x_x2.f 0 _ rfl
  have c_x2_1 := x_x2.c 1 _ rfl
  have f_x2_1 := x_x2.f 1 _ rfl
  have c_x2_2 := x_x2.c 2 _ rfl
  have f_x2_2 := x_x2.f 2 _ rfl
  have c_x2_3 := x_x2.c 3 _ rfl
  have f_x2_3 := x_x2.f 3 _ rfl
  have c_x2_4 := x_x2.c 4 _ rfl
  have f_x2_4 := x_x2.f 4 _ rfl
  have c_x2_5 := x_x2.c 5 _ rfl
  have f_x2_5 := x_x2.f 5 _ rfl
  have x_l2 : Box w2 (w.heap.size + 1) [.int .i64 lb, .int .i64 lr, .int .i64 lp] := (by refine Box.below ?_ hb; repeat (first | (with_reducible assumption) | (with_reducible refine Box.drew ?_) | (with_reducible refine Box.drewN ?_ _) | ((with_reducible refine Box.new ?_); simp; done) | (with_reducible apply Box.set2) | ((with_reducible apply Box.put); (with_reducible assumption); rfl) | (with_reducible refine Box.alloc ?_ _) | (with_reducible refine Box.other ?_ (by first | (dsimp only; omega) | omega) _)))
  have z_l2 := x_l2.lt
  have c_l2_0 := x_l2.c 0 _ rfl
  have f_l2_0 := x_l2.f 0 _ rfl
  have c_l2_1 := x_l2.c 1 _ rfl
  have f_l2_1 := x_l2.f 1 _ rfl
  have c_l2_2 := x_l2.c 2 _ rfl
  have f_l2_2 := x_l2.f 2 _ rfl
  have x_c2 : Box w2 (w1.heap.size) [.int .i64 0, .int .i64 0, .int .i64 0, .int .i64 0, .int .i64 0, .int .u64 0] := (by refine Box.below ?_ hb; repeat (first | (with_reducible assumption) | (with_reducible refine Box.drew ?_) | (with_reducible refine Box.drewN ?_ _) | ((with_reducible refine Box.new ?_); simp; done) | (with_reducible apply Box.set2) | ((with_reducible apply Box.put); (with_reducible assumption); rfl) | (with_reducible refine Box.alloc ?_ _) | (with_reducible refine Box.other ?_ (by first | (dsimp only; omega) | omega) _)))
  have z_c2 := x_c2.lt
  have c_c2_0 := x_c2.c 0 _ rfl
  have f_c2_0 := x_c2.f 0 _ rfl
  have c_c2_1 := x_c2.c 1 _ rfl
  have f_c2_1 := x_c2.f 1 _ rfl
  have c_c2_2 := x_c2.c 2 _ rfl
  have f_c2_2 := x_c2.f 2 _ rfl
  have c_c2_3 := x_c2.c 3 _ rfl
  have f_c2_3 := x_c2.f 3 _ rfl
  have c_c2_4 := x_c2.c 4 _ rfl
  have f_c2_4 := x_c2.f 4 _ rfl
  have c_c2_5 := x_c2.c 5 _ rfl
  have f_c2_5 := x_c2.f 5 _ rfl
  have t2 := hb.size
  try simp at t2
  clear hb hB1 hs1 x_x1 z_x1 c_x1_0 c_x1_1 c_x1_2 c_x1_3 c_x1_4 c_x1_5 f_x1_0 f_x1_1 f_x1_2 f_x1_3 f_x1_4 f_x1_5 x_l1 z_l1 c_l1_0 c_l1_1 c_l1_2 f_l1_0 f_l1_1 f_l1_2
  go_wp2_with fail
  refine (wait_ok HB.out hc hw _).mono ?_
  rintro e w3 ⟨rfl, hb⟩
  have hB3 : Below w.heap.size w w3 := below_thru (by go_grown) hb
  have hs3 : w.heap.size ≤ w3.heap.size := hB3.size
  have x_x3 : Box w3 (w.heap.size) [.int .i64 bu, .int .i64 ra, .int .i64 pe, .int .i64 le, .int .i64 pt, .int .u64 a] := (by refine Box.below ?_ hb; repeat (first | (with_reducible assumption) | (with_reducible refine Box.drew ?_) | (with_reducible refine Box.drewN ?_ _) | ((with_reducible refine Box.new ?_); simp; done) | (with_reducible apply Box.set2) | ((with_reducible apply Box.put); (with_reducible assumption); rfl) | (with_reducible refine Box.alloc ?_ _) | (with_reducible refine Box.other ?_ (by first | (dsimp only; omega) | omega) _)))
  have z_x3 := x_x3.lt
  have c_x3_0 := x_x3.c 0 _ rfl
  have f_x3_0 := x_x3.f 0 _ rfl
  have c_x3_1 := x_x3.c 1 _ rfl
  have f_x3_1 := x_x3.f 1 _ rfl
  have c_x3_2 := x_x3.c 2 _ rfl
  have f_x3_2 := x_x3.f 2 _ rfl
  have c_x3_3 := x_x3.c 3 _ rfl
  have f_x3_3 := x_x3.f 3 _ rfl
  have c_x3_4 := x_x3.c 4 _ rfl
  have f_x3_4 := x_x3.f 4 _ rfl
  have c_x3_5 := x_x3.c 5 _ rfl
  have f_x3_5 := x_x3.f 5 _ rfl
  have x_l3 : Box w3 (w.heap.size + 1) [.int .i64 lb, .int .i64 lr, .int .i64 lp] := (by refine Box.below ?_ hb; repeat (first | (with_reducible assumption) | (with_reducible refine Box.drew ?_) | (with_reducible refine Box.drewN ?_ _) | ((with_reducible refine Box.new ?_); simp; done) | (with_reducible apply Box.set2) | ((with_reducible apply Box.put); (with_reducible assumption); rfl) | (with_reducible refine Box.alloc ?_ _) | (with_reducible refine Box.other ?_ (by first | (dsimp only; omega) | omega) _)))
  have z_l3 := x_l3.lt
  have c_l3_0 := x_l3.c 0 _ rfl
  have f_l3_0 := x_l3.f 0 _ rfl
  have c_l3_1 := x_l3.c 1 _ rfl
  have f_l3_1 := x_l3.f 1 _ rfl
  have c_l3_2 := x_l3.c 2 _ rfl
  have f_l3_2 := x_l3.f 2 _ rfl
  have x_c3 : Box w3 (w1.heap.size) [.int .i64 0, .int .i64 0, .int .i64 0, .int .i64 0, .int .i64 0, .int .u64 0] := (by refine Box.below ?_ hb; repeat (first | (with_reducible assumption) | (with_reducible refine Box.drew ?_) | (with_reducible refine Box.drewN ?_ _) | ((with_reducible refine Box.new ?_); simp; done) | (with_reducible apply Box.set2) | ((with_reducible apply Box.put); (with_reducible assumption); rfl) | (with_reducible refine Box.alloc ?_ _) | (with_reducible refine Box.other ?_ (by first | (dsimp only; omega) | omega) _)))
  have z_c3 := x_c3.lt
  have c_c3_0 := x_c3.c 0 _ rfl
  have f_c3_0 := x_c3.f 0 _ rfl
  have c_c3_1 := x_c3.c 1 _ rfl
  have f_c3_1 := x_c3.f 1 _ rfl
  have c_c3_2 := x_c3.c 2 _ rfl
  have f_c3_2 := x_c3.f 2 _ rfl
  have c_c3_3 := x_c3.c 3 _ rfl
  have f_c3_3 := x_c3.f 3 _ rfl
  have c_c3_4 := x_c3.c 4 _ rfl
  have f_c3_4 := x_c3.f 4 _ rfl
  have c_c3_5 := x_c3.c 5 _ rfl
  have f_c3_5 := x_c3.f 5 _ rfl
  have x_d3 : Box w3 (w2.heap.size) [.int .i64 0, .int .i64 0, .int .i64 0, .int .i64 0, .int .i64 0, .int .u64 0] := (by refine Box.below ?_ hb; repeat (first | (with_reducible assumption) | (with_reducible refine Box.drew ?_) | (with_reducible refine Box.drewN ?_ _) | ((with_reducible refine Box.new ?_); simp; done) | (with_reducible apply Box.set2) | ((with_reducible apply Box.put); (with_reducible assumption); rfl) | (with_reducible refine Box.alloc ?_ _) | (with_reducible refine Box.other ?_ (by first | (dsimp only; omega) | omega) _)))
  have z_d3 := x_d3.lt
  have c_d3_0 := x_d3.c 0 _ rfl
  have f_d3_0 := x_d3.f 0 _ rfl
  have c_d3_1 := x_d3.c 1 _ rfl
  have f_d3_1 := x_d3.f 1 _ rfl
  have c_d3_2 := x_d3.c 2 _ rfl
  have f_d3_2 := x_d3.f 2 _ rfl
  have c_d3_3 := x_d3.c 3 _ rfl
  have f_d3_3 := x_d3.f 3 _ rfl
  have c_d3_4 := x_d3.c 4 _ rfl
  have f_d3_4 := x_d3.f 4 _ rfl
  have c_d3_5 := x_d3.c 5 _ rfl
  have f_d3_5 := x_d3.f 5 _ rfl
  have t3 := hb.size
  try simp at t3
  clear hb hB2 hs2 x_x2 z_x2 c_x2_0 c_x2_1 c_x2_2 c_x2_3 c_x2_4 c_x2_5 f_x2_0 f_x2_1 f_x2_2 f_x2_3 f_x2_4 f_x2_5 x_l2 z_l2 c_l2_0 c_l2_1 c_l2_2 f_l2_0 f_l2_1 f_l2_2 x_c2 z_c2 c_c2_0 c_c2_1 c_c2_2 c_c2_3 c_c2_4 c_c2_5 f_c2_0 f_c2_1 f_c2_2 f_c2_3 f_c2_4 f_c2_5
  go_wp2_with fail
  refine (rwait_ok HB.out hc hw _).mono ?_
  rintro e w4 ⟨rfl, hb⟩
  have hB4 : Below w.heap.size w w4 := below_thru (by go_grown) hb
  have hs4 : w.heap.size ≤ w4.heap.size := hB4.size
  have x_x4 : Box w4 (w.heap.size) [.int .i64 bu, .int .i64 ra, .int .i64 pe, .int .i64 le, .int .i64 pt, .int .u64 a] := (by refine Box.below ?_ hb; repeat (first | (with_reducible assumption) | (with_reducible refine Box.drew ?_) | (with_reducible refine Box.drewN ?_ _) | ((with_reducible refine Box.new ?_); simp; done) | (with_reducible apply Box.set2) | ((with_reducible apply Box.put); (with_reducible assumption); rfl) | (with_reducible refine Box.alloc ?_ _) | (with_reducible refine Box.other ?_ (by first | (dsimp only; omega) | omega) _)))
  have z_x4 := x_x4.lt
  have c_x4_0 := x_x4.c 0 _ rfl
  have f_x4_0 := x_x4.f 0 _ rfl
  have c_x4_1 := x_x4.c 1 _ rfl
  have f_x4_1 := x_x4.f 1 _ rfl
  have c_x4_2 := x_x4.c 2 _ rfl
  have f_x4_2 := x_x4.f 2 _ rfl
  have c_x4_3 := x_x4.c 3 _ rfl
  have f_x4_3 := x_x4.f 3 _ rfl
  have c_x4_4 := x_x4.c 4 _ rfl
  have f_x4_4 := x_x4.f 4 _ rfl
  have c_x4_5 := x_x4.c 5 _ rfl
  have f_x4_5 := x_x4.f 5 _ rfl
  have x_l4 : Box w4 (w.heap.size + 1) [.int .i64 lb, .int .i64 lr, .int .i64 lp] := (by refine Box.below ?_ hb; repeat (first | (with_reducible assumption) | (with_reducible refine Box.drew ?_) | (with_reducible refine Box.drewN ?_ _) | ((with_reducible refine Box.new ?_); simp; done) | (with_reducible apply Box.set2) | ((with_reducible apply Box.put); (with_reducible assumption); rfl) | (with_reducible refine Box.alloc ?_ _) | (with_reducible refine Box.other ?_ (by first | (dsimp only; omega) | omega) _)))
  have z_l4 := x_l4.lt
  have c_l4_0 := x_l4.c 0 _ rfl
  have f_l4_0 := x_l4.f 0 _ rfl
  have c_l4_1 := x_l4.c 1 _ rfl
  have f_l4_1 := x_l4.f 1 _ rfl
  have c_l4_2 := x_l4.c 2 _ rfl
  have f_l4_2 := x_l4.f 2 _ rfl
  have x_c4 : Box w4 (w1.heap.size) [.int .i64 0, .int .i64 0, .int .i64 0, .int .i64 0, .int .i64 0, .int .u64 0] := (by refine Box.below ?_ hb; repeat (first | (with_reducible assumption) | (with_reducible refine Box.drew ?_) | (with_reducible refine Box.drewN ?_ _) | ((with_reducible refine Box.new ?_); simp; done) | (with_reducible apply Box.set2) | ((with_reducible apply Box.put); (with_reducible assumption); rfl) | (with_reducible refine Box.alloc ?_ _) | (with_reducible refine Box.other ?_ (by first | (dsimp only; omega) | omega) _)))
  have z_c4 := x_c4.lt
  have c_c4_0 := x_c4.c 0 _ rfl
  have f_c4_0 := x_c4.f 0 _ rfl
  have c_c4_1 := x_c4.c 1 _ rfl
  have f_c4_1 := x_c4.f 1 _ rfl
  have c_c4_2 := x_c4.c 2 _ rfl
  have f_c4_2 := x_c4.f 2 _ rfl
  have c_c4_3 := x_c4.c 3 _ rfl
  have f_c4_3 := x_c4.f 3 _ rfl
  have c_c4_4 := x_c4.c 4 _ rfl
  have f_c4_4 := x_c4.f 4 _ rfl
  have c_c4_5 := x_c4.c 5 _ rfl
  have f_c4_5 := x_c4.f 5 _ rfl
  have x_d4 : Box w4 (w2.heap.size) [.int .i64 0, .int .i64 0, .int .i64 0, .int .i64 0, .int .i64 0, .int .u64 0] := (by refine Box.below ?_ hb; repeat (first | (with_reducible assumption) | (with_reducible refine Box.drew ?_) | (with_reducible refine Box.drewN ?_ _) | ((with_reducible refine Box.new ?_); simp; done) | (with_reducible apply Box.set2) | ((with_reducible apply Box.put); (with_reducible assumption); rfl) | (with_reducible refine Box.alloc ?_ _) | (with_reducible refine Box.other ?_ (by first | (dsimp only; omega) | omega) _)))
  have z_d4 := x_d4.lt
  have c_d4_0 := x_d4.c 0 _ rfl
  have f_d4_0 := x_d4.f 0 _ rfl
  have c_d4_1 := x_d4.c 1 _ rfl
  have f_d4_1 := x_d4.f 1 _ rfl
  have c_d4_2 := x_d4.c 2 _ rfl
  have f_d4_2 := x_d4.f 2 _ rfl
  have c_d4_3 := x_d4.c 3 _ rfl
  have f_d4_3 := x_d4.f 3 _ rfl
  have c_d4_4 := x_d4.c 4 _ rfl
  have f_d4_4 := x_d4.f 4 _ rfl
  have c_d4_5 := x_d4.c 5 _ rfl
  have f_d4_5 := x_d4.f 5 _ rfl
  have t4 := hb.size
  try simp at t4
  clear hb hB3 hs3 x_x3 z_x3 c_x3_0 c_x3_1 c_x3_2 c_x3_3 c_x3_4 c_x3_5 f_x3_0 f_x3_1 f_x3_2 f_x3_3 f_x3_4 f_x3_5 x_l3 z_l3 c_l3_0 c_l3_1 c_l3_2 f_l3_0 f_l3_1 f_l3_2 x_c3 z_c3 c_c3_0 c_c3_1 c_c3_2 c_c3_3 c_c3_4 c_c3_5 f_c3_0 f_c3_1 f_c3_2 f_c3_3 f_c3_4 f_c3_5 x_d3 z_d3 c_d3_0 c_d3_1 c_d3_2 c_d3_3 c_d3_4 c_d3_5 f_d3_0 f_d3_1 f_d3_2 f_d3_3 f_d3_4 f_d3_5
  go_wp2_with fail
  refine (change_is HB.out ht hl E1 E2 E3 E4 _).mono ?_
  rintro e w5 ⟨rfl, hb⟩
  have hB5 : Below w.heap.size w w5 := below_thru (by go_grown) hb
  have hs5 : w.heap.size ≤ w5.heap.size := hB5.size
  have x_x5 : Box w5 (w.heap.size) [.int .i64 bu, .int .i64 ra, .int .i64 pe, .int .i64 le, .int .i64 pt, .int .u64 a] := (by refine Box.below ?_ hb; repeat (first | (with_reducible assumption) | (with_reducible refine Box.drew ?_) | (with_reducible refine Box.drewN ?_ _) | ((with_reducible refine Box.new ?_); simp; done) | (with_reducible apply Box.set2) | ((with_reducible apply Box.put); (with_reducible assumption); rfl) | (with_reducible refine Box.alloc ?_ _) | (with_reducible refine Box.other ?_ (by first | (dsimp only; omega) | omega) _)))
  have z_x5 := x_x5.lt
  have c_x5_0 := x_x5.c 0 _ rfl
  have f_x5_0 := x_x5.f 0 _ rfl
  have c_x5_1 := x_x5.c 1 _ rfl
  have f_x5_1 := x_x5.f 1 _ rfl
  have c_x5_2 := x_x5.c 2 _ rfl
  have f_x5_2 := x_x5.f 2 _ rfl
  have c_x5_3 := x_x5.c 3 _ rfl
  have f_x5_3 := x_x5.f 3 _ rfl
  have c_x5_4 := x_x5.c 4 _ rfl
  have f_x5_4 := x_x5.f 4 _ rfl
  have c_x5_5 := x_x5.c 5 _ rfl
  have f_x5_5 := x_x5.f 5 _ rfl
  have x_l5 : Box w5 (w.heap.size + 1) [.int .i64 lb, .int .i64 lr, .int .i64 lp] := (by refine Box.below ?_ hb; repeat (first | (with_reducible assumption) | (with_reducible refine Box.drew ?_) | (with_reducible refine Box.drewN ?_ _) | ((with_reducible refine Box.new ?_); simp; done) | (with_reducible apply Box.set2) | ((with_reducible apply Box.put); (with_reducible assumption); rfl) | (with_reducible refine Box.alloc ?_ _) | (with_reducible refine Box.other ?_ (by first | (dsimp only; omega) | omega) _)))
  have z_l5 := x_l5.lt
  have c_l5_0 := x_l5.c 0 _ rfl
  have f_l5_0 := x_l5.f 0 _ rfl
  have c_l5_1 := x_l5.c 1 _ rfl
  have f_l5_1 := x_l5.f 1 _ rfl
  have c_l5_2 := x_l5.c 2 _ rfl
  have f_l5_2 := x_l5.f 2 _ rfl
  have x_c5 : Box w5 (w1.heap.size) [.int .i64 0, .int .i64 0, .int .i64 0, .int .i64 0, .int .i64 0, .int .u64 0] := (by refine Box.below ?_ hb; repeat (first | (with_reducible assumption) | (with_reducible refine Box.drew ?_) | (with_reducible refine Box.drewN ?_ _) | ((with_reducible refine Box.new ?_); simp; done) | (with_reducible apply Box.set2) | ((with_reducible apply Box.put); (with_reducible assumption); rfl) | (with_reducible refine Box.alloc ?_ _) | (with_reducible refine Box.other ?_ (by first | (dsimp only; omega) | omega) _)))
  have z_c5 := x_c5.lt
  have c_c5_0 := x_c5.c 0 _ rfl
  have f_c5_0 := x_c5.f 0 _ rfl
  have c_c5_1 := x_c5.c 1 _ rfl
  have f_c5_1 := x_c5.f 1 _ rfl
  have c_c5_2 := x_c5.c 2 _ rfl
  have f_c5_2 := x_c5.f 2 _ rfl
  have c_c5_3 := x_c5.c 3 _ rfl
  have f_c5_3 := x_c5.f 3 _ rfl
  have c_c5_4 := x_c5.c 4 _ rfl
  have f_c5_4 := x_c5.f 4 _ rfl
  have c_c5_5 := x_c5.c 5 _ rfl
  have f_c5_5 := x_c5.f 5 _ rfl
  have x_d5 : Box w5 (w2.heap.size) [.int .i64 0, .int .i64 0, .int .i64 0, .int .i64 0, .int .i64 0, .int .u64 0] := (by refine Box.below ?_ hb; repeat (first | (with_reducible assumption) | (with_reducible refine Box.drew ?_) | (with_reducible refine Box.drewN ?_ _) | ((with_reducible refine Box.new ?_); simp; done) | (with_reducible apply Box.set2) | ((with_reducible apply Box.put); (with_reducible assumption); rfl) | (with_reducible refine Box.alloc ?_ _) | (with_reducible refine Box.other ?_ (by first | (dsimp only; omega) | omega) _)))
  have z_d5 := x_d5.lt
  have c_d5_0 := x_d5.c 0 _ rfl
  have f_d5_0 := x_d5.f 0 _ rfl
  have c_d5_1 := x_d5.c 1 _ rfl
  have f_d5_1 := x_d5.f 1 _ rfl
  have c_d5_2 := x_d5.c 2 _ rfl
  have f_d5_2 := x_d5.f 2 _ rfl
  have c_d5_3 := x_d5.c 3 _ rfl
  have f_d5_3 := x_d5.f 3 _ rfl
  have c_d5_4 := x_d5.c 4 _ rfl
  have f_d5_4 := x_d5.f 4 _ rfl
  have c_d5_5 := x_d5.c 5 _ rfl
  have f_d5_5 := x_d5.f 5 _ rfl
  have t5 := hb.size
  try simp at t5
  clear hb hB4 hs4 x_x4 z_x4 c_x4_0 c_x4_1 c_x4_2 c_x4_3 c_x4_4 c_x4_5 f_x4_0 f_x4_1 f_x4_2 f_x4_3 f_x4_4 f_x4_5 x_l4 z_l4 c_l4_0 c_l4_1 c_l4_2 f_l4_0 f_l4_1 f_l4_2 x_c4 z_c4 c_c4_0 c_c4_1 c_c4_2 c_c4_3 c_c4_4 c_c4_5 f_c4_0 f_c4_1 f_c4_2 f_c4_3 f_c4_4 f_c4_5 x_d4 z_d4 c_d4_0 c_d4_1 c_d4_2 c_d4_3 c_d4_4 c_d4_5 f_d4_0 f_d4_1 f_d4_2 f_d4_3 f_d4_4 f_d4_5
  go_wp2_with fail
  refine (rchange_is HB.out ht hl E1 E2 E3 E4 _).mono ?_
  rintro e w6 ⟨rfl, hb⟩
  have hB6 : Below w.heap.size w w6 := below_thru (by go_grown) hb
  have hs6 : w.heap.size ≤ w6.heap.size := hB6.size
  have x_x6 : Box w6 (w.heap.size) [.int .i64 bu, .int .i64 ra, .int .i64 pe, .int .i64 le, .int .i64 pt, .int .u64 a] := (by refine Box.below ?_ hb; repeat (first | (with_reducible assumption) | (with_reducible refine Box.drew ?_) | (with_reducible refine Box.drewN ?_ _) | ((with_reducible refine Box.new ?_); simp; done) | (with_reducible apply Box.set2) | ((with_reducible apply Box.put); (with_reducible assumption); rfl) | (with_reducible refine Box.alloc ?_ _) | (with_reducible refine Box.other ?_ (by first | (dsimp only; omega) | omega) _)))
  have z_x6 := x_x6.lt
  have c_x6_0 := x_x6.c 0 _ rfl
  have f_x6_0 := x_x6.f 0 _ rfl
  have c_x6_1 := x_x6.c 1 _ rfl
  have f_x6_1 := x_x6.f 1 _ rfl
  have c_x6_2 := x_x6.c 2 _ rfl
  have f_x6_2 := x_x6.f 2 _ rfl
  have c_x6_3 := x_x6.c 3 _ rfl
  have f_x6_3 := x_x6.f 3 _ rfl
  have c_x6_4 := x_x6.c 4 _ rfl
  have f_x6_4 := x_x6.f 4 _ rfl
  have c_x6_5 := x_x6.c 5 _ rfl
  have f_x6_5 := x_x6.f 5 _ rfl
  have x_l6 : Box w6 (w.heap.size + 1) [.int .i64 lb, .int .i64 lr, .int .i64 lp] := (by refine Box.below ?_ hb; repeat (first | (with_reducible assumption) | (with_reducible refine Box.drew ?_) | (with_reducible refine Box.drewN ?_ _) | ((with_reducible refine Box.new ?_); simp; done) | (with_reducible apply Box.set2) | ((with_reducible apply Box.put); (with_reducible assumption); rfl) | (with_reducible refine Box.alloc ?_ _) | (with_reducible refine Box.other ?_ (by first | (dsimp only; omega) | omega) _)))
  have z_l6 := x_l6.lt
  have c_l6_0 := x_l6.c 0 _ rfl
  have f_l6_0 := x_l6.f 0 _ rfl
  have c_l6_1 := x_l6.c 1 _ rfl
  have f_l6_1 := x_l6.f 1 _ rfl
  have c_l6_2 := x_l6.c 2 _ rfl
  have f_l6_2 := x_l6.f 2 _ rfl
  have x_c6 : Box w6 (w1.heap.size) [.int .i64 0, .int .i64 0, .int .i64 0, .int .i64 0, .int .i64 0, .int .u64 0] := (by refine Box.below ?_ hb; repeat (first | (with_reducible assumption) | (with_reducible refine Box.drew ?_) | (with_reducible refine Box.drewN ?_ _) | ((with_reducible refine Box.new ?_); simp; done) | (with_reducible apply Box.set2) | ((with_reducible apply Box.put); (with_reducible assumption); rfl) | (with_reducible refine Box.alloc ?_ _) | (with_reducible refine Box.other ?_ (by first | (dsimp only; omega) | omega) _)))
  have z_c6 := x_c6.lt
  have c_c6_0 := x_c6.c 0 _ rfl
  have f_c6_0 := x_c6.f 0 _ rfl
  have c_c6_1 := x_c6.c 1 _ rfl
  have f_c6_1 := x_c6.f 1 _ rfl
  have c_c6_2 := x_c6.c 2 _ rfl
  have f_c6_2 := x_c6.f 2 _ rfl
  have c_c6_3 := x_c6.c 3 _ rfl
  have f_c6_3 := x_c6.f 3 _ rfl
  have c_c6_4 := x_c6.c 4 _ rfl
  have f_c6_4 := x_c6.f 4 _ rfl
  have c_c6_5 := x_c6.c 5 _ rfl
  have f_c6_5 := x_c6.f 5 _ rfl
  have x_d6 : Box w6 (w2.heap.size) [.int .i64 0, .int .i64 0, .int .i64 0, .int .i64 0, .int .i64 0, .int .u64 0] := (by refine Box.below ?_ hb; repeat (first | (with_reducible assumption) | (with_reducible refine Box.drew ?_) | (with_reducible refine Box.drewN ?_ _) | ((with_reducible refine Box.new ?_); simp; done) | (with_reducible apply Box.set2) | ((with_reducible apply Box.put); (with_reducible assumption); rfl) | (with_reducible refine Box.alloc ?_ _) | (with_reducible refine Box.other ?_ (by first | (dsimp only; omega) | omega) _)))
  have z_d6 := x_d6.lt
  have c_d6_0 := x_d6.c 0 _ rfl
  have f_d6_0 := x_d6.f 0 _ rfl
  have c_d6_1 := x_d6.c 1 _ rfl
  have f_d6_1 := x_d6.f 1 _ rfl
  have c_d6_2 := x_d6.c 2 _ rfl
  have f_d6_2 := x_d6.f 2 _ rfl
  have c_d6_3 := x_d6.c 3 _ rfl
  have f_d6_3 := x_d6.f 3 _ rfl
  have c_d6_4 := x_d6.c 4 _ rfl
  have f_d6_4 := x_d6.f 4 _ rfl
  have c_d6_5 := x_d6.c 5 _ rfl
  have f_d6_5 := x_d6.f 5 _ rfl
  have x_k6 : Box w6 (w5.heap.size) [.int .i64 lb, .int .i64 lr, .int .i64 lp, .int .i64 M, .int .i64 0, .int .u64 T] := (by refine Box.below ?_ hb; repeat (first | (with_reducible assumption) | (with_reducible refine Box.drew ?_) | (with_reducible refine Box.drewN ?_ _) | ((with_reducible refine Box.new ?_); simp; done) | (with_reducible apply Box.set2) | ((with_reducible apply Box.put); (with_reducible assumption); rfl) | (with_reducible refine Box.alloc ?_ _) | (with_reducible refine Box.other ?_ (by first | (dsimp only; omega) | omega) _)))
  have z_k6 := x_k6.lt
  have c_k6_0 := x_k6.c 0 _ rfl
  have f_k6_0 := x_k6.f 0 _ rfl
  have c_k6_1 := x_k6.c 1 _ rfl
  have f_k6_1 := x_k6.f 1 _ rfl
  have c_k6_2 := x_k6.c 2 _ rfl
  have f_k6_2 := x_k6.f 2 _ rfl
  have c_k6_3 := x_k6.c 3 _ rfl
  have f_k6_3 := x_k6.f 3 _ rfl
  have c_k6_4 := x_k6.c 4 _ rfl
  have f_k6_4 := x_k6.f 4 _ rfl
  have c_k6_5 := x_k6.c 5 _ rfl
  have f_k6_5 := x_k6.f 5 _ rfl
  have t6 := hb.size
  try simp at t6
  clear hb hB5 hs5 x_x5 z_x5 c_x5_0 c_x5_1 c_x5_2 c_x5_3 c_x5_4 c_x5_5 f_x5_0 f_x5_1 f_x5_2 f_x5_3 f_x5_4 f_x5_5 x_l5 z_l5 c_l5_0 c_l5_1 c_l5_2 f_l5_0 f_l5_1 f_l5_2 x_c5 z_c5 c_c5_0 c_c5_1 c_c5_2 c_c5_3 c_c5_4 c_c5_5 f_c5_0 f_c5_1 f_c5_2 f_c5_3 f_c5_4 f_c5_5 x_d5 z_d5 c_d5_0 c_d5_1 c_d5_2 c_d5_3 c_d5_4 c_d5_5 f_d5_0 f_d5_1 f_d5_2 f_d5_3 f_d5_4 f_d5_5
  go_wp2_with fail
  go_returns
  exact ⟨rfl, by go_grown⟩

set_option maxRecDepth 100000 in
set_option maxHeartbeats 3200000 in
theorem charges_low_n {lb lr lp bu ra pe le pt a c t n : Int} (hb : Buc bu ra pe le pt a) (ht : isU t) (hl : Hid (limE lb lr lp = 8)) (hc : 0 ≤ c) (hd : le < c) (hw : Hid (IsWait bu ra pe le pt a c n)) (w : World) :
    Calls Try.prog 5 #[.agg #[.int .i64 bu, .int .i64 ra, .int .i64 pe, .int .i64 le, .int .i64 pt, .int .u64 a], .int .i64 c, .agg #[.int .i64 lb, .int .i64 lr, .int .i64 lp], .int .u64 t] w fun e w' => e = .returned (.bool true) ∧ Below w.heap.size w w' := by
  obtain ⟨L, e1⟩ : ∃ x, filL bu ra pe le pt a t = x := ⟨_, rfl⟩
  obtain ⟨Q, e2⟩ : ∃ x, filP bu ra pe le pt a t = x := ⟨_, rfl⟩
  obtain ⟨T, e3⟩ : ∃ x, filA a t = x := ⟨_, rfl⟩
  obtain ⟨M, e4⟩ : ∃ x, min L lb = x := ⟨_, rfl⟩
  obtain ⟨D, e5⟩ : ∃ x, le - c = x := ⟨_, rfl⟩
  have E1 := Lib.hid e1
  have E2 := Lib.hid e2
  have E3 := Lib.hid e3
  have E4 := Lib.hid e4
  have E5 := Lib.hid e5
  have h := Lib.hid hb.ok
  have HB := Lib.hid hb
  have hle : le ≤ 1000000000 := by have := hb.l1; have := hb.nums; omega
  clear e1 e2 e3 e4 e5 hb
  go_enter Try.func5, Try.ntmps5
  go_wp2_with fail
  refine (charge_low h hc hd _).mono ?_
  rintro e w1 ⟨rfl, hb⟩
  have hB1 : Below w.heap.size w w1 := below_thru (by go_grown) hb
  have hs1 : w.heap.size ≤ w1.heap.size := hB1.size
  have x_x1 : Box w1 (w.heap.size) [.int .i64 bu, .int .i64 ra, .int .i64 pe, .int .i64 le, .int .i64 pt, .int .u64 a] := (by refine Box.below ?_ hb; repeat (first | (with_reducible assumption) | (with_reducible refine Box.drew ?_) | (with_reducible refine Box.drewN ?_ _) | ((with_reducible refine Box.new ?_); simp; done) | (with_reducible apply Box.set2) | ((with_reducible apply Box.put); (with_reducible assumption); rfl) | (with_reducible refine Box.alloc ?_ _) | (with_reducible refine Box.other ?_ (by first | (dsimp only; omega) | omega) _)))
  have z_x1 := x_x1.lt
  have c_x1_0 := x_x1.c 0 _ rfl
  have f_x1_0 := x_x1.f 0 _ rfl
  have c_x1_1 := x_x1.c 1 _ rfl
  have f_x1_1 := x_x1.f 1 _ rfl
  have c_x1_2 := x_x1.c 2 _ rfl
  have f_x1_2 := x_x1.f 2 _ rfl
  have c_x1_3 := x_x1.c 3 _ rfl
  have f_x1_3 := x_x1.f 3 _ rfl
  have c_x1_4 := x_x1.c 4 _ rfl
  have f_x1_4 := x_x1.f 4 _ rfl
  have c_x1_5 := x_x1.c 5 _ rfl
  have f_x1_5 := x_x1.f 5 _ rfl
  have x_l1 : Box w1 (w.heap.size + 1) [.int .i64 lb, .int .i64 lr, .int .i64 lp] := (by refine Box.below ?_ hb; repeat (first | (with_reducible assumption) | (with_reducible refine Box.drew ?_) | (with_reducible refine Box.drewN ?_ _) | ((with_reducible refine Box.new ?_); simp; done) | (with_reducible apply Box.set2) | ((with_reducible apply Box.put); (with_reducible assumption); rfl) | (with_reducible refine Box.alloc ?_ _) | (with_reducible refine Box.other ?_ (by first | (dsimp only; omega) | omega) _)))
  have z_l1 := x_l1.lt
  have c_l1_0 := x_l1.c 0 _ rfl
  have f_l1_0 := x_l1.f 0 _ rfl
  have c_l1_1 := x_l1.c 1 _ rfl
  have f_l1_1 := x_l1.f 1 _ rfl
  have c_l1_2 := x_l1.c 2 _ rfl
  have f_l1_2 := x_l1.f 2 _ rfl
  have t1 := hb.size
  try simp at t1
  clear hb
  go_wp2_with fail
  refine (rcharge_low h hc hd _).mono ?_
  rintro e w2 ⟨rfl, hb⟩
  have hB2 : Below w.heap.size w w2 := below_thru (by go_grown) hb
  have hs2 : w.heap.size ≤ w2.heap.size := hB2.size
  have x_x2 : Box w2 (w.heap.size) [.int .i64 bu, .int .i64 ra, .int .i64 pe, .int .i64 le, .int .i64 pt, .int .u64 a] := (by refine Box.below ?_ hb; repeat (first | (with_reducible assumption) | (with_reducible refine Box.drew ?_) | (with_reducible refine Box.drewN ?_ _) | ((with_reducible refine Box.new ?_); simp; done) | (with_reducible apply Box.set2) | ((with_reducible apply Box.put); (with_reducible assumption); rfl) | (with_reducible refine Box.alloc ?_ _) | (with_reducible refine Box.other ?_ (by first | (dsimp only; omega) | omega) _)))
  have z_x2 := x_x2.lt
  have c_x2_0 := x_x2.c 0 _ rfl
  have f_x2_0 := x_x2.f 0 _ rfl
  have c_x2_1 := x_x2.c 1 _ rfl
  have f_x2_1 := x_x2.f 1 _ rfl
  have c_x2_2 := x_x2.c 2 _ rfl
  have f_x2_2 := x_x2.f 2 _ rfl
  have c_x2_3 := x_x2.c 3 _ rfl
  have f_x2_3 := x_x2.f 3 _ rfl
  have c_x2_4 := x_x2.c 4 _ rfl
  have f_x2_4 := x_x2.f 4 _ rfl
  have c_x2_5 := x_x2.c 5 _ rfl
  have f_x2_5 := x_x2.f 5 _ rfl
  have x_l2 : Box w2 (w.heap.size + 1) [.int .i64 lb, .int .i64 lr, .int .i64 lp] := (by refine Box.below ?_ hb; repeat (first | (with_reducible assumption) | (with_reducible refine Box.drew ?_) | (with_reducible refine Box.drewN ?_ _) | ((with_reducible refine Box.new ?_); simp; done) | (with_reducible apply Box.set2) | ((with_reducible apply Box.put); (with_reducible assumption); rfl) | (with_reducible refine Box.alloc ?_ _) | (with_reducible refine Box.other ?_ (by first | (dsimp only; omega) | omega) _)))
  have z_l2 := x_l2.lt
  have c_l2_0 := x_l2.c 0 _ rfl
  have f_l2_0 := x_l2.f 0 _ rfl
  have c_l2_1 := x_l2.c 1 _ rfl
  have f_l2_1 := x_l2.f 1 _ rfl
  have c_l2_2 := x_l2.c 2 _ rfl
  have f_l2_2 := x_l2.f 2 _ rfl
  have x_c2 : Box w2 (w1.heap.size) [.int .i64 0, .int .i64 0, .int .i64 0, .int .i64 0, .int .i64 0, .int .u64 0] := (by refine Box.below ?_ hb; repeat (first | (with_reducible assumption) | (with_reducible refine Box.drew ?_) | (with_reducible refine Box.drewN ?_ _) | ((with_reducible refine Box.new ?_); simp; done) | (with_reducible apply Box.set2) | ((with_reducible apply Box.put); (with_reducible assumption); rfl) | (with_reducible refine Box.alloc ?_ _) | (with_reducible refine Box.other ?_ (by first | (dsimp only; omega) | omega) _)))
  have z_c2 := x_c2.lt
  have c_c2_0 := x_c2.c 0 _ rfl
  have f_c2_0 := x_c2.f 0 _ rfl
  have c_c2_1 := x_c2.c 1 _ rfl
  have f_c2_1 := x_c2.f 1 _ rfl
  have c_c2_2 := x_c2.c 2 _ rfl
  have f_c2_2 := x_c2.f 2 _ rfl
  have c_c2_3 := x_c2.c 3 _ rfl
  have f_c2_3 := x_c2.f 3 _ rfl
  have c_c2_4 := x_c2.c 4 _ rfl
  have f_c2_4 := x_c2.f 4 _ rfl
  have c_c2_5 := x_c2.c 5 _ rfl
  have f_c2_5 := x_c2.f 5 _ rfl
  have t2 := hb.size
  try simp at t2
  clear hb hB1 hs1 x_x1 z_x1 c_x1_0 c_x1_1 c_x1_2 c_x1_3 c_x1_4 c_x1_5 f_x1_0 f_x1_1 f_x1_2 f_x1_3 f_x1_4 f_x1_5 x_l1 z_l1 c_l1_0 c_l1_1 c_l1_2 f_l1_0 f_l1_1 f_l1_2
  go_wp2_with fail
  refine (wait_ok HB.out hc hw _).mono ?_
  rintro e w3 ⟨rfl, hb⟩
  have hB3 : Below w.heap.size w w3 := below_thru (by go_grown) hb
  have hs3 : w.heap.size ≤ w3.heap.size := hB3.size
  have x_x3 : Box w3 (w.heap.size) [.int .i64 bu, .int .i64 ra, .int .i64 pe, .int .i64 le, .int .i64 pt, .int .u64 a] := (by refine Box.below ?_ hb; repeat (first | (with_reducible assumption) | (with_reducible refine Box.drew ?_) | (with_reducible refine Box.drewN ?_ _) | ((with_reducible refine Box.new ?_); simp; done) | (with_reducible apply Box.set2) | ((with_reducible apply Box.put); (with_reducible assumption); rfl) | (with_reducible refine Box.alloc ?_ _) | (with_reducible refine Box.other ?_ (by first | (dsimp only; omega) | omega) _)))
  have z_x3 := x_x3.lt
  have c_x3_0 := x_x3.c 0 _ rfl
  have f_x3_0 := x_x3.f 0 _ rfl
  have c_x3_1 := x_x3.c 1 _ rfl
  have f_x3_1 := x_x3.f 1 _ rfl
  have c_x3_2 := x_x3.c 2 _ rfl
  have f_x3_2 := x_x3.f 2 _ rfl
  have c_x3_3 := x_x3.c 3 _ rfl
  have f_x3_3 := x_x3.f 3 _ rfl
  have c_x3_4 := x_x3.c 4 _ rfl
  have f_x3_4 := x_x3.f 4 _ rfl
  have c_x3_5 := x_x3.c 5 _ rfl
  have f_x3_5 := x_x3.f 5 _ rfl
  have x_l3 : Box w3 (w.heap.size + 1) [.int .i64 lb, .int .i64 lr, .int .i64 lp] := (by refine Box.below ?_ hb; repeat (first | (with_reducible assumption) | (with_reducible refine Box.drew ?_) | (with_reducible refine Box.drewN ?_ _) | ((with_reducible refine Box.new ?_); simp; done) | (with_reducible apply Box.set2) | ((with_reducible apply Box.put); (with_reducible assumption); rfl) | (with_reducible refine Box.alloc ?_ _) | (with_reducible refine Box.other ?_ (by first | (dsimp only; omega) | omega) _)))
  have z_l3 := x_l3.lt
  have c_l3_0 := x_l3.c 0 _ rfl
  have f_l3_0 := x_l3.f 0 _ rfl
  have c_l3_1 := x_l3.c 1 _ rfl
  have f_l3_1 := x_l3.f 1 _ rfl
  have c_l3_2 := x_l3.c 2 _ rfl
  have f_l3_2 := x_l3.f 2 _ rfl
  have x_c3 : Box w3 (w1.heap.size) [.int .i64 0, .int .i64 0, .int .i64 0, .int .i64 0, .int .i64 0, .int .u64 0] := (by refine Box.below ?_ hb; repeat (first | (with_reducible assumption) | (with_reducible refine Box.drew ?_) | (with_reducible refine Box.drewN ?_ _) | ((with_reducible refine Box.new ?_); simp; done) | (with_reducible apply Box.set2) | ((with_reducible apply Box.put); (with_reducible assumption); rfl) | (with_reducible refine Box.alloc ?_ _) | (with_reducible refine Box.other ?_ (by first | (dsimp only; omega) | omega) _)))
  have z_c3 := x_c3.lt
  have c_c3_0 := x_c3.c 0 _ rfl
  have f_c3_0 := x_c3.f 0 _ rfl
  have c_c3_1 := x_c3.c 1 _ rfl
  have f_c3_1 := x_c3.f 1 _ rfl
  have c_c3_2 := x_c3.c 2 _ rfl
  have f_c3_2 := x_c3.f 2 _ rfl
  have c_c3_3 := x_c3.c 3 _ rfl
  have f_c3_3 := x_c3.f 3 _ rfl
  have c_c3_4 := x_c3.c 4 _ rfl
  have f_c3_4 := x_c3.f 4 _ rfl
  have c_c3_5 := x_c3.c 5 _ rfl
  have f_c3_5 := x_c3.f 5 _ rfl
  have x_d3 : Box w3 (w2.heap.size) [.int .i64 0, .int .i64 0, .int .i64 0, .int .i64 0, .int .i64 0, .int .u64 0] := (by refine Box.below ?_ hb; repeat (first | (with_reducible assumption) | (with_reducible refine Box.drew ?_) | (with_reducible refine Box.drewN ?_ _) | ((with_reducible refine Box.new ?_); simp; done) | (with_reducible apply Box.set2) | ((with_reducible apply Box.put); (with_reducible assumption); rfl) | (with_reducible refine Box.alloc ?_ _) | (with_reducible refine Box.other ?_ (by first | (dsimp only; omega) | omega) _)))
  have z_d3 := x_d3.lt
  have c_d3_0 := x_d3.c 0 _ rfl
  have f_d3_0 := x_d3.f 0 _ rfl
  have c_d3_1 := x_d3.c 1 _ rfl
  have f_d3_1 := x_d3.f 1 _ rfl
  have c_d3_2 := x_d3.c 2 _ rfl
  have f_d3_2 := x_d3.f 2 _ rfl
  have c_d3_3 := x_d3.c 3 _ rfl
  have f_d3_3 := x_d3.f 3 _ rfl
  have c_d3_4 := x_d3.c 4 _ rfl
  have f_d3_4 := x_d3.f 4 _ rfl
  have c_d3_5 := x_d3.c 5 _ rfl
  have f_d3_5 := x_d3.f 5 _ rfl
  have t3 := hb.size
  try simp at t3
  clear hb hB2 hs2 x_x2 z_x2 c_x2_0 c_x2_1 c_x2_2 c_x2_3 c_x2_4 c_x2_5 f_x2_0 f_x2_1 f_x2_2 f_x2_3 f_x2_4 f_x2_5 x_l2 z_l2 c_l2_0 c_l2_1 c_l2_2 f_l2_0 f_l2_1 f_l2_2 x_c2 z_c2 c_c2_0 c_c2_1 c_c2_2 c_c2_3 c_c2_4 c_c2_5 f_c2_0 f_c2_1 f_c2_2 f_c2_3 f_c2_4 f_c2_5
  go_wp2_with fail
  refine (rwait_ok HB.out hc hw _).mono ?_
  rintro e w4 ⟨rfl, hb⟩
  have hB4 : Below w.heap.size w w4 := below_thru (by go_grown) hb
  have hs4 : w.heap.size ≤ w4.heap.size := hB4.size
  have x_x4 : Box w4 (w.heap.size) [.int .i64 bu, .int .i64 ra, .int .i64 pe, .int .i64 le, .int .i64 pt, .int .u64 a] := (by refine Box.below ?_ hb; repeat (first | (with_reducible assumption) | (with_reducible refine Box.drew ?_) | (with_reducible refine Box.drewN ?_ _) | ((with_reducible refine Box.new ?_); simp; done) | (with_reducible apply Box.set2) | ((with_reducible apply Box.put); (with_reducible assumption); rfl) | (with_reducible refine Box.alloc ?_ _) | (with_reducible refine Box.other ?_ (by first | (dsimp only; omega) | omega) _)))
  have z_x4 := x_x4.lt
  have c_x4_0 := x_x4.c 0 _ rfl
  have f_x4_0 := x_x4.f 0 _ rfl
  have c_x4_1 := x_x4.c 1 _ rfl
  have f_x4_1 := x_x4.f 1 _ rfl
  have c_x4_2 := x_x4.c 2 _ rfl
  have f_x4_2 := x_x4.f 2 _ rfl
  have c_x4_3 := x_x4.c 3 _ rfl
  have f_x4_3 := x_x4.f 3 _ rfl
  have c_x4_4 := x_x4.c 4 _ rfl
  have f_x4_4 := x_x4.f 4 _ rfl
  have c_x4_5 := x_x4.c 5 _ rfl
  have f_x4_5 := x_x4.f 5 _ rfl
  have x_l4 : Box w4 (w.heap.size + 1) [.int .i64 lb, .int .i64 lr, .int .i64 lp] := (by refine Box.below ?_ hb; repeat (first | (with_reducible assumption) | (with_reducible refine Box.drew ?_) | (with_reducible refine Box.drewN ?_ _) | ((with_reducible refine Box.new ?_); simp; done) | (with_reducible apply Box.set2) | ((with_reducible apply Box.put); (with_reducible assumption); rfl) | (with_reducible refine Box.alloc ?_ _) | (with_reducible refine Box.other ?_ (by first | (dsimp only; omega) | omega) _)))
  have z_l4 := x_l4.lt
  have c_l4_0 := x_l4.c 0 _ rfl
  have f_l4_0 := x_l4.f 0 _ rfl
  have c_l4_1 := x_l4.c 1 _ rfl
  have f_l4_1 := x_l4.f 1 _ rfl
  have c_l4_2 := x_l4.c 2 _ rfl
  have f_l4_2 := x_l4.f 2 _ rfl
  have x_c4 : Box w4 (w1.heap.size) [.int .i64 0, .int .i64 0, .int .i64 0, .int .i64 0, .int .i64 0, .int .u64 0] := (by refine Box.below ?_ hb; repeat (first | (with_reducible assumption) | (with_reducible refine Box.drew ?_) | (with_reducible refine Box.drewN ?_ _) | ((with_reducible refine Box.new ?_); simp; done) | (with_reducible apply Box.set2) | ((with_reducible apply Box.put); (with_reducible assumption); rfl) | (with_reducible refine Box.alloc ?_ _) | (with_reducible refine Box.other ?_ (by first | (dsimp only; omega) | omega) _)))
  have z_c4 := x_c4.lt
  have c_c4_0 := x_c4.c 0 _ rfl
  have f_c4_0 := x_c4.f 0 _ rfl
  have c_c4_1 := x_c4.c 1 _ rfl
  have f_c4_1 := x_c4.f 1 _ rfl
  have c_c4_2 := x_c4.c 2 _ rfl
  have f_c4_2 := x_c4.f 2 _ rfl
  have c_c4_3 := x_c4.c 3 _ rfl
  have f_c4_3 := x_c4.f 3 _ rfl
  have c_c4_4 := x_c4.c 4 _ rfl
  have f_c4_4 := x_c4.f 4 _ rfl
  have c_c4_5 := x_c4.c 5 _ rfl
  have f_c4_5 := x_c4.f 5 _ rfl
  have x_d4 : Box w4 (w2.heap.size) [.int .i64 0, .int .i64 0, .int .i64 0, .int .i64 0, .int .i64 0, .int .u64 0] := (by refine Box.below ?_ hb; repeat (first | (with_reducible assumption) | (with_reducible refine Box.drew ?_) | (with_reducible refine Box.drewN ?_ _) | ((with_reducible refine Box.new ?_); simp; done) | (with_reducible apply Box.set2) | ((with_reducible apply Box.put); (with_reducible assumption); rfl) | (with_reducible refine Box.alloc ?_ _) | (with_reducible refine Box.other ?_ (by first | (dsimp only; omega) | omega) _)))
  have z_d4 := x_d4.lt
  have c_d4_0 := x_d4.c 0 _ rfl
  have f_d4_0 := x_d4.f 0 _ rfl
  have c_d4_1 := x_d4.c 1 _ rfl
  have f_d4_1 := x_d4.f 1 _ rfl
  have c_d4_2 := x_d4.c 2 _ rfl
  have f_d4_2 := x_d4.f 2 _ rfl
  have c_d4_3 := x_d4.c 3 _ rfl
  have f_d4_3 := x_d4.f 3 _ rfl
  have c_d4_4 := x_d4.c 4 _ rfl
  have f_d4_4 := x_d4.f 4 _ rfl
  have c_d4_5 := x_d4.c 5 _ rfl
  have f_d4_5 := x_d4.f 5 _ rfl
  have t4 := hb.size
  try simp at t4
  clear hb hB3 hs3 x_x3 z_x3 c_x3_0 c_x3_1 c_x3_2 c_x3_3 c_x3_4 c_x3_5 f_x3_0 f_x3_1 f_x3_2 f_x3_3 f_x3_4 f_x3_5 x_l3 z_l3 c_l3_0 c_l3_1 c_l3_2 f_l3_0 f_l3_1 f_l3_2 x_c3 z_c3 c_c3_0 c_c3_1 c_c3_2 c_c3_3 c_c3_4 c_c3_5 f_c3_0 f_c3_1 f_c3_2 f_c3_3 f_c3_4 f_c3_5 x_d3 z_d3 c_d3_0 c_d3_1 c_d3_2 c_d3_3 c_d3_4 c_d3_5 f_d3_0 f_d3_1 f_d3_2 f_d3_3 f_d3_4 f_d3_5
  go_wp2_with fail
  refine (change_lim HB.out ht hl _).mono ?_
  rintro e w5 ⟨rfl, hb⟩
  have hB5 : Below w.heap.size w w5 := below_thru (by go_grown) hb
  have hs5 : w.heap.size ≤ w5.heap.size := hB5.size
  have x_x5 : Box w5 (w.heap.size) [.int .i64 bu, .int .i64 ra, .int .i64 pe, .int .i64 le, .int .i64 pt, .int .u64 a] := (by refine Box.below ?_ hb; repeat (first | (with_reducible assumption) | (with_reducible refine Box.drew ?_) | (with_reducible refine Box.drewN ?_ _) | ((with_reducible refine Box.new ?_); simp; done) | (with_reducible apply Box.set2) | ((with_reducible apply Box.put); (with_reducible assumption); rfl) | (with_reducible refine Box.alloc ?_ _) | (with_reducible refine Box.other ?_ (by first | (dsimp only; omega) | omega) _)))
  have z_x5 := x_x5.lt
  have c_x5_0 := x_x5.c 0 _ rfl
  have f_x5_0 := x_x5.f 0 _ rfl
  have c_x5_1 := x_x5.c 1 _ rfl
  have f_x5_1 := x_x5.f 1 _ rfl
  have c_x5_2 := x_x5.c 2 _ rfl
  have f_x5_2 := x_x5.f 2 _ rfl
  have c_x5_3 := x_x5.c 3 _ rfl
  have f_x5_3 := x_x5.f 3 _ rfl
  have c_x5_4 := x_x5.c 4 _ rfl
  have f_x5_4 := x_x5.f 4 _ rfl
  have c_x5_5 := x_x5.c 5 _ rfl
  have f_x5_5 := x_x5.f 5 _ rfl
  have x_l5 : Box w5 (w.heap.size + 1) [.int .i64 lb, .int .i64 lr, .int .i64 lp] := (by refine Box.below ?_ hb; repeat (first | (with_reducible assumption) | (with_reducible refine Box.drew ?_) | (with_reducible refine Box.drewN ?_ _) | ((with_reducible refine Box.new ?_); simp; done) | (with_reducible apply Box.set2) | ((with_reducible apply Box.put); (with_reducible assumption); rfl) | (with_reducible refine Box.alloc ?_ _) | (with_reducible refine Box.other ?_ (by first | (dsimp only; omega) | omega) _)))
  have z_l5 := x_l5.lt
  have c_l5_0 := x_l5.c 0 _ rfl
  have f_l5_0 := x_l5.f 0 _ rfl
  have c_l5_1 := x_l5.c 1 _ rfl
  have f_l5_1 := x_l5.f 1 _ rfl
  have c_l5_2 := x_l5.c 2 _ rfl
  have f_l5_2 := x_l5.f 2 _ rfl
  have x_c5 : Box w5 (w1.heap.size) [.int .i64 0, .int .i64 0, .int .i64 0, .int .i64 0, .int .i64 0, .int .u64 0] := (by refine Box.below ?_ hb; repeat (first | (with_reducible assumption) | (with_reducible refine Box.drew ?_) | (with_reducible refine Box.drewN ?_ _) | ((with_reducible refine Box.new ?_); simp; done) | (with_reducible apply Box.set2) | ((with_reducible apply Box.put); (with_reducible assumption); rfl) | (with_reducible refine Box.alloc ?_ _) | (with_reducible refine Box.other ?_ (by first | (dsimp only; omega) | omega) _)))
  have z_c5 := x_c5.lt
  have c_c5_0 := x_c5.c 0 _ rfl
  have f_c5_0 := x_c5.f 0 _ rfl
  have c_c5_1 := x_c5.c 1 _ rfl
  have f_c5_1 := x_c5.f 1 _ rfl
  have c_c5_2 := x_c5.c 2 _ rfl
  have f_c5_2 := x_c5.f 2 _ rfl
  have c_c5_3 := x_c5.c 3 _ rfl
  have f_c5_3 := x_c5.f 3 _ rfl
  have c_c5_4 := x_c5.c 4 _ rfl
  have f_c5_4 := x_c5.f 4 _ rfl
  have c_c5_5 := x_c5.c 5 _ rfl
  have f_c5_5 := x_c5.f 5 _ rfl
  have x_d5 : Box w5 (w2.heap.size) [.int .i64 0, .int .i64 0, .int .i64 0, .int .i64 0, .int .i64 0, .int .u64 0] := (by refine Box.below ?_ hb; repeat (first | (with_reducible assumption) | (with_reducible refine Box.drew ?_) | (with_reducible refine Box.drewN ?_ _) | ((with_reducible refine Box.new ?_); simp; done) | (with_reducible apply Box.set2) | ((with_reducible apply Box.put); (with_reducible assumption); rfl) | (with_reducible refine Box.alloc ?_ _) | (with_reducible refine Box.other ?_ (by first | (dsimp only; omega) | omega) _)))
  have z_d5 := x_d5.lt
  have c_d5_0 := x_d5.c 0 _ rfl
  have f_d5_0 := x_d5.f 0 _ rfl
  have c_d5_1 := x_d5.c 1 _ rfl
  have f_d5_1 := x_d5.f 1 _ rfl
  have c_d5_2 := x_d5.c 2 _ rfl
  have f_d5_2 := x_d5.f 2 _ rfl
  have c_d5_3 := x_d5.c 3 _ rfl
  have f_d5_3 := x_d5.f 3 _ rfl
  have c_d5_4 := x_d5.c 4 _ rfl
  have f_d5_4 := x_d5.f 4 _ rfl
  have c_d5_5 := x_d5.c 5 _ rfl
  have f_d5_5 := x_d5.f 5 _ rfl
  have t5 := hb.size
  try simp at t5
  clear hb hB4 hs4 x_x4 z_x4 c_x4_0 c_x4_1 c_x4_2 c_x4_3 c_x4_4 c_x4_5 f_x4_0 f_x4_1 f_x4_2 f_x4_3 f_x4_4 f_x4_5 x_l4 z_l4 c_l4_0 c_l4_1 c_l4_2 f_l4_0 f_l4_1 f_l4_2 x_c4 z_c4 c_c4_0 c_c4_1 c_c4_2 c_c4_3 c_c4_4 c_c4_5 f_c4_0 f_c4_1 f_c4_2 f_c4_3 f_c4_4 f_c4_5 x_d4 z_d4 c_d4_0 c_d4_1 c_d4_2 c_d4_3 c_d4_4 c_d4_5 f_d4_0 f_d4_1 f_d4_2 f_d4_3 f_d4_4 f_d4_5
  go_wp2_with fail
  refine (rchange_lim h hl _).mono ?_
  rintro e w6 ⟨rfl, hb⟩
  have hB6 : Below w.heap.size w w6 := below_thru (by go_grown) hb
  have hs6 : w.heap.size ≤ w6.heap.size := hB6.size
  have x_x6 : Box w6 (w.heap.size) [.int .i64 bu, .int .i64 ra, .int .i64 pe, .int .i64 le, .int .i64 pt, .int .u64 a] := (by refine Box.below ?_ hb; repeat (first | (with_reducible assumption) | (with_reducible refine Box.drew ?_) | (with_reducible refine Box.drewN ?_ _) | ((with_reducible refine Box.new ?_); simp; done) | (with_reducible apply Box.set2) | ((with_reducible apply Box.put); (with_reducible assumption); rfl) | (with_reducible refine Box.alloc ?_ _) | (with_reducible refine Box.other ?_ (by first | (dsimp only; omega) | omega) _)))
  have z_x6 := x_x6.lt
  have c_x6_0 := x_x6.c 0 _ rfl
  have f_x6_0 := x_x6.f 0 _ rfl
  have c_x6_1 := x_x6.c 1 _ rfl
  have f_x6_1 := x_x6.f 1 _ rfl
  have c_x6_2 := x_x6.c 2 _ rfl
  have f_x6_2 := x_x6.f 2 _ rfl
  have c_x6_3 := x_x6.c 3 _ rfl
  have f_x6_3 := x_x6.f 3 _ rfl
  have c_x6_4 := x_x6.c 4 _ rfl
  have f_x6_4 := x_x6.f 4 _ rfl
  have c_x6_5 := x_x6.c 5 _ rfl
  have f_x6_5 := x_x6.f 5 _ rfl
  have x_l6 : Box w6 (w.heap.size + 1) [.int .i64 lb, .int .i64 lr, .int .i64 lp] := (by refine Box.below ?_ hb; repeat (first | (with_reducible assumption) | (with_reducible refine Box.drew ?_) | (with_reducible refine Box.drewN ?_ _) | ((with_reducible refine Box.new ?_); simp; done) | (with_reducible apply Box.set2) | ((with_reducible apply Box.put); (with_reducible assumption); rfl) | (with_reducible refine Box.alloc ?_ _) | (with_reducible refine Box.other ?_ (by first | (dsimp only; omega) | omega) _)))
  have z_l6 := x_l6.lt
  have c_l6_0 := x_l6.c 0 _ rfl
  have f_l6_0 := x_l6.f 0 _ rfl
  have c_l6_1 := x_l6.c 1 _ rfl
  have f_l6_1 := x_l6.f 1 _ rfl
  have c_l6_2 := x_l6.c 2 _ rfl
  have f_l6_2 := x_l6.f 2 _ rfl
  have x_c6 : Box w6 (w1.heap.size) [.int .i64 0, .int .i64 0, .int .i64 0, .int .i64 0, .int .i64 0, .int .u64 0] := (by refine Box.below ?_ hb; repeat (first | (with_reducible assumption) | (with_reducible refine Box.drew ?_) | (with_reducible refine Box.drewN ?_ _) | ((with_reducible refine Box.new ?_); simp; done) | (with_reducible apply Box.set2) | ((with_reducible apply Box.put); (with_reducible assumption); rfl) | (with_reducible refine Box.alloc ?_ _) | (with_reducible refine Box.other ?_ (by first | (dsimp only; omega) | omega) _)))
  have z_c6 := x_c6.lt
  have c_c6_0 := x_c6.c 0 _ rfl
  have f_c6_0 := x_c6.f 0 _ rfl
  have c_c6_1 := x_c6.c 1 _ rfl
  have f_c6_1 := x_c6.f 1 _ rfl
  have c_c6_2 := x_c6.c 2 _ rfl
  have f_c6_2 := x_c6.f 2 _ rfl
  have c_c6_3 := x_c6.c 3 _ rfl
  have f_c6_3 := x_c6.f 3 _ rfl
  have c_c6_4 := x_c6.c 4 _ rfl
  have f_c6_4 := x_c6.f 4 _ rfl
  have c_c6_5 := x_c6.c 5 _ rfl
  have f_c6_5 := x_c6.f 5 _ rfl
  have x_d6 : Box w6 (w2.heap.size) [.int .i64 0, .int .i64 0, .int .i64 0, .int .i64 0, .int .i64 0, .int .u64 0] := (by refine Box.below ?_ hb; repeat (first | (with_reducible assumption) | (with_reducible refine Box.drew ?_) | (with_reducible refine Box.drewN ?_ _) | ((with_reducible refine Box.new ?_); simp; done) | (with_reducible apply Box.set2) | ((with_reducible apply Box.put); (with_reducible assumption); rfl) | (with_reducible refine Box.alloc ?_ _) | (with_reducible refine Box.other ?_ (by first | (dsimp only; omega) | omega) _)))
  have z_d6 := x_d6.lt
  have c_d6_0 := x_d6.c 0 _ rfl
  have f_d6_0 := x_d6.f 0 _ rfl
  have c_d6_1 := x_d6.c 1 _ rfl
  have f_d6_1 := x_d6.f 1 _ rfl
  have c_d6_2 := x_d6.c 2 _ rfl
  have f_d6_2 := x_d6.f 2 _ rfl
  have c_d6_3 := x_d6.c 3 _ rfl
  have f_d6_3 := x_d6.f 3 _ rfl
  have c_d6_4 := x_d6.c 4 _ rfl
  have f_d6_4 := x_d6.f 4 _ rfl
  have c_d6_5 := x_d6.c 5 _ rfl
  have f_d6_5 := x_d6.f 5 _ rfl
  have x_k6 : Box w6 (w5.heap.size) [.int .i64 0, .int .i64 0, .int .i64 0, .int .i64 0, .int .i64 0, .int .u64 0] := (by refine Box.below ?_ hb; repeat (first | (with_reducible assumption) | (with_reducible refine Box.drew ?_) | (with_reducible refine Box.drewN ?_ _) | ((with_reducible refine Box.new ?_); simp; done) | (with_reducible apply Box.set2) | ((with_reducible apply Box.put); (with_reducible assumption); rfl) | (with_reducible refine Box.alloc ?_ _) | (with_reducible refine Box.other ?_ (by first | (dsimp only; omega) | omega) _)))
  have z_k6 := x_k6.lt
  have c_k6_0 := x_k6.c 0 _ rfl
  have f_k6_0 := x_k6.f 0 _ rfl
  have c_k6_1 := x_k6.c 1 _ rfl
  have f_k6_1 := x_k6.f 1 _ rfl
  have c_k6_2 := x_k6.c 2 _ rfl
  have f_k6_2 := x_k6.f 2 _ rfl
  have c_k6_3 := x_k6.c 3 _ rfl
  have f_k6_3 := x_k6.f 3 _ rfl
  have c_k6_4 := x_k6.c 4 _ rfl
  have f_k6_4 := x_k6.f 4 _ rfl
  have c_k6_5 := x_k6.c 5 _ rfl
  have f_k6_5 := x_k6.f 5 _ rfl
  have t6 := hb.size
  try simp at t6
  clear hb hB5 hs5 x_x5 z_x5 c_x5_0 c_x5_1 c_x5_2 c_x5_3 c_x5_4 c_x5_5 f_x5_0 f_x5_1 f_x5_2 f_x5_3 f_x5_4 f_x5_5 x_l5 z_l5 c_l5_0 c_l5_1 c_l5_2 f_l5_0 f_l5_1 f_l5_2 x_c5 z_c5 c_c5_0 c_c5_1 c_c5_2 c_c5_3 c_c5_4 c_c5_5 f_c5_0 f_c5_1 f_c5_2 f_c5_3 f_c5_4 f_c5_5 x_d5 z_d5 c_d5_0 c_d5_1 c_d5_2 c_d5_3 c_d5_4 c_d5_5 f_d5_0 f_d5_1 f_d5_2 f_d5_3 f_d5_4 f_d5_5
  go_wp2_with fail
  go_returns
  exact ⟨rfl, by go_grown⟩

set_option maxRecDepth 100000 in
set_option maxHeartbeats 3200000 in
theorem charges_ok_y {lb lr lp bu ra pe le pt a c t n : Int} (hb : Buc bu ra pe le pt a) (ht : isU t) (hl : Hid (limE lb lr lp = 0)) (hc : 0 ≤ c) (hd : c ≤ le) (hw : Hid (IsWait bu ra pe le pt a c n)) (w : World) :
    Calls Try.prog 5 #[.agg #[.int .i64 bu, .int .i64 ra, .int .i64 pe, .int .i64 le, .int .i64 pt, .int .u64 a], .int .i64 c, .agg #[.int .i64 lb, .int .i64 lr, .int .i64 lp], .int .u64 t] w fun e w' => e = .returned (.bool true) ∧ Below w.heap.size w w' := by
  obtain ⟨L, e1⟩ : ∃ x, filL bu ra pe le pt a t = x := ⟨_, rfl⟩
  obtain ⟨Q, e2⟩ : ∃ x, filP bu ra pe le pt a t = x := ⟨_, rfl⟩
  obtain ⟨T, e3⟩ : ∃ x, filA a t = x := ⟨_, rfl⟩
  obtain ⟨M, e4⟩ : ∃ x, min L lb = x := ⟨_, rfl⟩
  obtain ⟨D, e5⟩ : ∃ x, le - c = x := ⟨_, rfl⟩
  have E1 := Lib.hid e1
  have E2 := Lib.hid e2
  have E3 := Lib.hid e3
  have E4 := Lib.hid e4
  have E5 := Lib.hid e5
  have h := Lib.hid hb.ok
  have HB := Lib.hid hb
  have hle : le ≤ 1000000000 := by have := hb.l1; have := hb.nums; omega
  clear e1 e2 e3 e4 e5 hb
  go_enter Try.func5, Try.ntmps5
  go_wp2_with fail
  refine (charge_is h hc hd hle E5 _).mono ?_
  rintro e w1 ⟨rfl, hb⟩
  have hB1 : Below w.heap.size w w1 := below_thru (by go_grown) hb
  have hs1 : w.heap.size ≤ w1.heap.size := hB1.size
  have x_x1 : Box w1 (w.heap.size) [.int .i64 bu, .int .i64 ra, .int .i64 pe, .int .i64 le, .int .i64 pt, .int .u64 a] := (by refine Box.below ?_ hb; repeat (first | (with_reducible assumption) | (with_reducible refine Box.drew ?_) | (with_reducible refine Box.drewN ?_ _) | ((with_reducible refine Box.new ?_); simp; done) | (with_reducible apply Box.set2) | ((with_reducible apply Box.put); (with_reducible assumption); rfl) | (with_reducible refine Box.alloc ?_ _) | (with_reducible refine Box.other ?_ (by first | (dsimp only; omega) | omega) _)))
  have z_x1 := x_x1.lt
  have c_x1_0 := x_x1.c 0 _ rfl
  have f_x1_0 := x_x1.f 0 _ rfl
  have c_x1_1 := x_x1.c 1 _ rfl
  have f_x1_1 := x_x1.f 1 _ rfl
  have c_x1_2 := x_x1.c 2 _ rfl
  have f_x1_2 := x_x1.f 2 _ rfl
  have c_x1_3 := x_x1.c 3 _ rfl
  have f_x1_3 := x_x1.f 3 _ rfl
  have c_x1_4 := x_x1.c 4 _ rfl
  have f_x1_4 := x_x1.f 4 _ rfl
  have c_x1_5 := x_x1.c 5 _ rfl
  have f_x1_5 := x_x1.f 5 _ rfl
  have x_l1 : Box w1 (w.heap.size + 1) [.int .i64 lb, .int .i64 lr, .int .i64 lp] := (by refine Box.below ?_ hb; repeat (first | (with_reducible assumption) | (with_reducible refine Box.drew ?_) | (with_reducible refine Box.drewN ?_ _) | ((with_reducible refine Box.new ?_); simp; done) | (with_reducible apply Box.set2) | ((with_reducible apply Box.put); (with_reducible assumption); rfl) | (with_reducible refine Box.alloc ?_ _) | (with_reducible refine Box.other ?_ (by first | (dsimp only; omega) | omega) _)))
  have z_l1 := x_l1.lt
  have c_l1_0 := x_l1.c 0 _ rfl
  have f_l1_0 := x_l1.f 0 _ rfl
  have c_l1_1 := x_l1.c 1 _ rfl
  have f_l1_1 := x_l1.f 1 _ rfl
  have c_l1_2 := x_l1.c 2 _ rfl
  have f_l1_2 := x_l1.f 2 _ rfl
  have t1 := hb.size
  try simp at t1
  clear hb
  go_wp2_with fail
  refine (rcharge_is h hc hd hle E5 _).mono ?_
  rintro e w2 ⟨rfl, hb⟩
  have hB2 : Below w.heap.size w w2 := below_thru (by go_grown) hb
  have hs2 : w.heap.size ≤ w2.heap.size := hB2.size
  have x_x2 : Box w2 (w.heap.size) [.int .i64 bu, .int .i64 ra, .int .i64 pe, .int .i64 le, .int .i64 pt, .int .u64 a] := (by refine Box.below ?_ hb; repeat (first | (with_reducible assumption) | (with_reducible refine Box.drew ?_) | (with_reducible refine Box.drewN ?_ _) | ((with_reducible refine Box.new ?_); simp; done) | (with_reducible apply Box.set2) | ((with_reducible apply Box.put); (with_reducible assumption); rfl) | (with_reducible refine Box.alloc ?_ _) | (with_reducible refine Box.other ?_ (by first | (dsimp only; omega) | omega) _)))
  have z_x2 := x_x2.lt
  have c_x2_0 := x_x2.c 0 _ rfl
  have f_x2_0 := x_x2.f 0 _ rfl
  have c_x2_1 := x_x2.c 1 _ rfl
  have f_x2_1 := x_x2.f 1 _ rfl
  have c_x2_2 := x_x2.c 2 _ rfl
  have f_x2_2 := x_x2.f 2 _ rfl
  have c_x2_3 := x_x2.c 3 _ rfl
  have f_x2_3 := x_x2.f 3 _ rfl
  have c_x2_4 := x_x2.c 4 _ rfl
  have f_x2_4 := x_x2.f 4 _ rfl
  have c_x2_5 := x_x2.c 5 _ rfl
  have f_x2_5 := x_x2.f 5 _ rfl
  have x_l2 : Box w2 (w.heap.size + 1) [.int .i64 lb, .int .i64 lr, .int .i64 lp] := (by refine Box.below ?_ hb; repeat (first | (with_reducible assumption) | (with_reducible refine Box.drew ?_) | (with_reducible refine Box.drewN ?_ _) | ((with_reducible refine Box.new ?_); simp; done) | (with_reducible apply Box.set2) | ((with_reducible apply Box.put); (with_reducible assumption); rfl) | (with_reducible refine Box.alloc ?_ _) | (with_reducible refine Box.other ?_ (by first | (dsimp only; omega) | omega) _)))
  have z_l2 := x_l2.lt
  have c_l2_0 := x_l2.c 0 _ rfl
  have f_l2_0 := x_l2.f 0 _ rfl
  have c_l2_1 := x_l2.c 1 _ rfl
  have f_l2_1 := x_l2.f 1 _ rfl
  have c_l2_2 := x_l2.c 2 _ rfl
  have f_l2_2 := x_l2.f 2 _ rfl
  have x_c2 : Box w2 (w1.heap.size) [.int .i64 bu, .int .i64 ra, .int .i64 pe, .int .i64 D, .int .i64 pt, .int .u64 a] := (by refine Box.below ?_ hb; repeat (first | (with_reducible assumption) | (with_reducible refine Box.drew ?_) | (with_reducible refine Box.drewN ?_ _) | ((with_reducible refine Box.new ?_); simp; done) | (with_reducible apply Box.set2) | ((with_reducible apply Box.put); (with_reducible assumption); rfl) | (with_reducible refine Box.alloc ?_ _) | (with_reducible refine Box.other ?_ (by first | (dsimp only; omega) | omega) _)))
  have z_c2 := x_c2.lt
  have c_c2_0 := x_c2.c 0 _ rfl
  have f_c2_0 := x_c2.f 0 _ rfl
  have c_c2_1 := x_c2.c 1 _ rfl
  have f_c2_1 := x_c2.f 1 _ rfl
  have c_c2_2 := x_c2.c 2 _ rfl
  have f_c2_2 := x_c2.f 2 _ rfl
  have c_c2_3 := x_c2.c 3 _ rfl
  have f_c2_3 := x_c2.f 3 _ rfl
  have c_c2_4 := x_c2.c 4 _ rfl
  have f_c2_4 := x_c2.f 4 _ rfl
  have c_c2_5 := x_c2.c 5 _ rfl
  have f_c2_5 := x_c2.f 5 _ rfl
  have t2 := hb.size
  try simp at t2
  clear hb hB1 hs1 x_x1 z_x1 c_x1_0 c_x1_1 c_x1_2 c_x1_3 c_x1_4 c_x1_5 f_x1_0 f_x1_1 f_x1_2 f_x1_3 f_x1_4 f_x1_5 x_l1 z_l1 c_l1_0 c_l1_1 c_l1_2 f_l1_0 f_l1_1 f_l1_2
  go_wp2_with fail
  refine (wait_ok HB.out hc hw _).mono ?_
  rintro e w3 ⟨rfl, hb⟩
  have hB3 : Below w.heap.size w w3 := below_thru (by go_grown) hb
  have hs3 : w.heap.size ≤ w3.heap.size := hB3.size
  have x_x3 : Box w3 (w.heap.size) [.int .i64 bu, .int .i64 ra, .int .i64 pe, .int .i64 le, .int .i64 pt, .int .u64 a] := (by refine Box.below ?_ hb; repeat (first | (with_reducible assumption) | (with_reducible refine Box.drew ?_) | (with_reducible refine Box.drewN ?_ _) | ((with_reducible refine Box.new ?_); simp; done) | (with_reducible apply Box.set2) | ((with_reducible apply Box.put); (with_reducible assumption); rfl) | (with_reducible refine Box.alloc ?_ _) | (with_reducible refine Box.other ?_ (by first | (dsimp only; omega) | omega) _)))
  have z_x3 := x_x3.lt
  have c_x3_0 := x_x3.c 0 _ rfl
  have f_x3_0 := x_x3.f 0 _ rfl
  have c_x3_1 := x_x3.c 1 _ rfl
  have f_x3_1 := x_x3.f 1 _ rfl
  have c_x3_2 := x_x3.c 2 _ rfl
  have f_x3_2 := x_x3.f 2 _ rfl
  have c_x3_3 := x_x3.c 3 _ rfl
  have f_x3_3 := x_x3.f 3 _ rfl
  have c_x3_4 := x_x3.c 4 _ rfl
  have f_x3_4 := x_x3.f 4 _ rfl
  have c_x3_5 := x_x3.c 5 _ rfl
  have f_x3_5 := x_x3.f 5 _ rfl
  have x_l3 : Box w3 (w.heap.size + 1) [.int .i64 lb, .int .i64 lr, .int .i64 lp] := (by refine Box.below ?_ hb; repeat (first | (with_reducible assumption) | (with_reducible refine Box.drew ?_) | (with_reducible refine Box.drewN ?_ _) | ((with_reducible refine Box.new ?_); simp; done) | (with_reducible apply Box.set2) | ((with_reducible apply Box.put); (with_reducible assumption); rfl) | (with_reducible refine Box.alloc ?_ _) | (with_reducible refine Box.other ?_ (by first | (dsimp only; omega) | omega) _)))
  have z_l3 := x_l3.lt
  have c_l3_0 := x_l3.c 0 _ rfl
  have f_l3_0 := x_l3.f 0 _ rfl
  have c_l3_1 := x_l3.c 1 _ rfl
  have f_l3_1 := x_l3.f 1 _ rfl
  have c_l3_2 := x_l3.c 2 _ rfl
  have f_l3_2 := x_l3.f 2 _ rfl
  have x_c3 : Box w3 (w1.heap.size) [.int .i64 bu, .int .i64 ra, .int .i64 pe, .int .i64 D, .int .i64 pt, .int .u64 a] := (by refine Box.below ?_ hb; repeat (first | (with_reducible assumption) | (with_reducible refine Box.drew ?_) | (with_reducible refine Box.drewN ?_ _) | ((with_reducible refine Box.new ?_); simp; done) | (with_reducible apply Box.set2) | ((with_reducible apply Box.put); (with_reducible assumption); rfl) | (with_reducible refine Box.alloc ?_ _) | (with_reducible refine Box.other ?_ (by first | (dsimp only; omega) | omega) _)))
  have z_c3 := x_c3.lt
  have c_c3_0 := x_c3.c 0 _ rfl
  have f_c3_0 := x_c3.f 0 _ rfl
  have c_c3_1 := x_c3.c 1 _ rfl
  have f_c3_1 := x_c3.f 1 _ rfl
  have c_c3_2 := x_c3.c 2 _ rfl
  have f_c3_2 := x_c3.f 2 _ rfl
  have c_c3_3 := x_c3.c 3 _ rfl
  have f_c3_3 := x_c3.f 3 _ rfl
  have c_c3_4 := x_c3.c 4 _ rfl
  have f_c3_4 := x_c3.f 4 _ rfl
  have c_c3_5 := x_c3.c 5 _ rfl
  have f_c3_5 := x_c3.f 5 _ rfl
  have x_d3 : Box w3 (w2.heap.size) [.int .i64 bu, .int .i64 ra, .int .i64 pe, .int .i64 D, .int .i64 pt, .int .u64 a] := (by refine Box.below ?_ hb; repeat (first | (with_reducible assumption) | (with_reducible refine Box.drew ?_) | (with_reducible refine Box.drewN ?_ _) | ((with_reducible refine Box.new ?_); simp; done) | (with_reducible apply Box.set2) | ((with_reducible apply Box.put); (with_reducible assumption); rfl) | (with_reducible refine Box.alloc ?_ _) | (with_reducible refine Box.other ?_ (by first | (dsimp only; omega) | omega) _)))
  have z_d3 := x_d3.lt
  have c_d3_0 := x_d3.c 0 _ rfl
  have f_d3_0 := x_d3.f 0 _ rfl
  have c_d3_1 := x_d3.c 1 _ rfl
  have f_d3_1 := x_d3.f 1 _ rfl
  have c_d3_2 := x_d3.c 2 _ rfl
  have f_d3_2 := x_d3.f 2 _ rfl
  have c_d3_3 := x_d3.c 3 _ rfl
  have f_d3_3 := x_d3.f 3 _ rfl
  have c_d3_4 := x_d3.c 4 _ rfl
  have f_d3_4 := x_d3.f 4 _ rfl
  have c_d3_5 := x_d3.c 5 _ rfl
  have f_d3_5 := x_d3.f 5 _ rfl
  have t3 := hb.size
  try simp at t3
  clear hb hB2 hs2 x_x2 z_x2 c_x2_0 c_x2_1 c_x2_2 c_x2_3 c_x2_4 c_x2_5 f_x2_0 f_x2_1 f_x2_2 f_x2_3 f_x2_4 f_x2_5 x_l2 z_l2 c_l2_0 c_l2_1 c_l2_2 f_l2_0 f_l2_1 f_l2_2 x_c2 z_c2 c_c2_0 c_c2_1 c_c2_2 c_c2_3 c_c2_4 c_c2_5 f_c2_0 f_c2_1 f_c2_2 f_c2_3 f_c2_4 f_c2_5
  go_wp2_with fail
  refine (rwait_ok HB.out hc hw _).mono ?_
  rintro e w4 ⟨rfl, hb⟩
  have hB4 : Below w.heap.size w w4 := below_thru (by go_grown) hb
  have hs4 : w.heap.size ≤ w4.heap.size := hB4.size
  have x_x4 : Box w4 (w.heap.size) [.int .i64 bu, .int .i64 ra, .int .i64 pe, .int .i64 le, .int .i64 pt, .int .u64 a] := (by refine Box.below ?_ hb; repeat (first | (with_reducible assumption) | (with_reducible refine Box.drew ?_) | (with_reducible refine Box.drewN ?_ _) | ((with_reducible refine Box.new ?_); simp; done) | (with_reducible apply Box.set2) | ((with_reducible apply Box.put); (with_reducible assumption); rfl) | (with_reducible refine Box.alloc ?_ _) | (with_reducible refine Box.other ?_ (by first | (dsimp only; omega) | omega) _)))
  have z_x4 := x_x4.lt
  have c_x4_0 := x_x4.c 0 _ rfl
  have f_x4_0 := x_x4.f 0 _ rfl
  have c_x4_1 := x_x4.c 1 _ rfl
  have f_x4_1 := x_x4.f 1 _ rfl
  have c_x4_2 := x_x4.c 2 _ rfl
  have f_x4_2 := x_x4.f 2 _ rfl
  have c_x4_3 := x_x4.c 3 _ rfl
  have f_x4_3 := x_x4.f 3 _ rfl
  have c_x4_4 := x_x4.c 4 _ rfl
  have f_x4_4 := x_x4.f 4 _ rfl
  have c_x4_5 := x_x4.c 5 _ rfl
  have f_x4_5 := x_x4.f 5 _ rfl
  have x_l4 : Box w4 (w.heap.size + 1) [.int .i64 lb, .int .i64 lr, .int .i64 lp] := (by refine Box.below ?_ hb; repeat (first | (with_reducible assumption) | (with_reducible refine Box.drew ?_) | (with_reducible refine Box.drewN ?_ _) | ((with_reducible refine Box.new ?_); simp; done) | (with_reducible apply Box.set2) | ((with_reducible apply Box.put); (with_reducible assumption); rfl) | (with_reducible refine Box.alloc ?_ _) | (with_reducible refine Box.other ?_ (by first | (dsimp only; omega) | omega) _)))
  have z_l4 := x_l4.lt
  have c_l4_0 := x_l4.c 0 _ rfl
  have f_l4_0 := x_l4.f 0 _ rfl
  have c_l4_1 := x_l4.c 1 _ rfl
  have f_l4_1 := x_l4.f 1 _ rfl
  have c_l4_2 := x_l4.c 2 _ rfl
  have f_l4_2 := x_l4.f 2 _ rfl
  have x_c4 : Box w4 (w1.heap.size) [.int .i64 bu, .int .i64 ra, .int .i64 pe, .int .i64 D, .int .i64 pt, .int .u64 a] := (by refine Box.below ?_ hb; repeat (first | (with_reducible assumption) | (with_reducible refine Box.drew ?_) | (with_reducible refine Box.drewN ?_ _) | ((with_reducible refine Box.new ?_); simp; done) | (with_reducible apply Box.set2) | ((with_reducible apply Box.put); (with_reducible assumption); rfl) | (with_reducible refine Box.alloc ?_ _) | (with_reducible refine Box.other ?_ (by first | (dsimp only; omega) | omega) _)))
  have z_c4 := x_c4.lt
  have c_c4_0 := x_c4.c 0 _ rfl
  have f_c4_0 := x_c4.f 0 _ rfl
  have c_c4_1 := x_c4.c 1 _ rfl
  have f_c4_1 := x_c4.f 1 _ rfl
  have c_c4_2 := x_c4.c 2 _ rfl
  have f_c4_2 := x_c4.f 2 _ rfl
  have c_c4_3 := x_c4.c 3 _ rfl
  have f_c4_3 := x_c4.f 3 _ rfl
  have c_c4_4 := x_c4.c 4 _ rfl
  have f_c4_4 := x_c4.f 4 _ rfl
  have c_c4_5 := x_c4.c 5 _ rfl
  have f_c4_5 := x_c4.f 5 _ rfl
  have x_d4 : Box w4 (w2.heap.size) [.int .i64 bu, .int .i64 ra, .int .i64 pe, .int .i64 D, .int .i64 pt, .int .u64 a] := (by refine Box.below ?_ hb; repeat (first | (with_reducible assumption) | (with_reducible refine Box.drew ?_) | (with_reducible refine Box.drewN ?_ _) | ((with_reducible refine Box.new ?_); simp; done) | (with_reducible apply Box.set2) | ((with_reducible apply Box.put); (with_reducible assumption); rfl) | (with_reducible refine Box.alloc ?_ _) | (with_reducible refine Box.other ?_ (by first | (dsimp only; omega) | omega) _)))
  have z_d4 := x_d4.lt
  have c_d4_0 := x_d4.c 0 _ rfl
  have f_d4_0 := x_d4.f 0 _ rfl
  have c_d4_1 := x_d4.c 1 _ rfl
  have f_d4_1 := x_d4.f 1 _ rfl
  have c_d4_2 := x_d4.c 2 _ rfl
  have f_d4_2 := x_d4.f 2 _ rfl
  have c_d4_3 := x_d4.c 3 _ rfl
  have f_d4_3 := x_d4.f 3 _ rfl
  have c_d4_4 := x_d4.c 4 _ rfl
  have f_d4_4 := x_d4.f 4 _ rfl
  have c_d4_5 := x_d4.c 5 _ rfl
  have f_d4_5 := x_d4.f 5 _ rfl
  have t4 := hb.size
  try simp at t4
  clear hb hB3 hs3 x_x3 z_x3 c_x3_0 c_x3_1 c_x3_2 c_x3_3 c_x3_4 c_x3_5 f_x3_0 f_x3_1 f_x3_2 f_x3_3 f_x3_4 f_x3_5 x_l3 z_l3 c_l3_0 c_l3_1 c_l3_2 f_l3_0 f_l3_1 f_l3_2 x_c3 z_c3 c_c3_0 c_c3_1 c_c3_2 c_c3_3 c_c3_4 c_c3_5 f_c3_0 f_c3_1 f_c3_2 f_c3_3 f_c3_4 f_c3_5 x_d3 z_d3 c_d3_0 c_d3_1 c_d3_2 c_d3_3 c_d3_4 c_d3_5 f_d3_0 f_d3_1 f_d3_2 f_d3_3 f_d3_4 f_d3_5
  go_wp2_with fail
  refine (change_is HB.out ht hl E1 E2 E3 E4 _).mono ?_
  rintro e w5 ⟨rfl, hb⟩
  have hB5 : Below w.heap.size w w5 := below_thru (by go_grown) hb
  have hs5 : w.heap.size ≤ w5.heap.size := hB5.size
  have x_x5 : Box w5 (w.heap.size) [.int .i64 bu, .int .i64 ra, .int .i64 pe, .int .i64 le, .int .i64 pt, .int .u64 a] := (by refine Box.below ?_ hb; repeat (first | (with_reducible assumption) | (with_reducible refine Box.drew ?_) | (with_reducible refine Box.drewN ?_ _) | ((with_reducible refine Box.new ?_); simp; done) | (with_reducible apply Box.set2) | ((with_reducible apply Box.put); (with_reducible assumption); rfl) | (with_reducible refine Box.alloc ?_ _) | (with_reducible refine Box.other ?_ (by first | (dsimp only; omega) | omega) _)))
  have z_x5 := x_x5.lt
  have c_x5_0 := x_x5.c 0 _ rfl
  have f_x5_0 := x_x5.f 0 _ rfl
  have c_x5_1 := x_x5.c 1 _ rfl
  have f_x5_1 := x_x5.f 1 _ rfl
  have c_x5_2 := x_x5.c 2 _ rfl
  have f_x5_2 := x_x5.f 2 _ rfl
  have c_x5_3 := x_x5.c 3 _ rfl
  have f_x5_3 := x_x5.f 3 _ rfl
  have c_x5_4 := x_x5.c 4 _ rfl
  have f_x5_4 := x_x5.f 4 _ rfl
  have c_x5_5 := x_x5.c 5 _ rfl
  have f_x5_5 := x_x5.f 5 _ rfl
  have x_l5 : Box w5 (w.heap.size + 1) [.int .i64 lb, .int .i64 lr, .int .i64 lp] := (by refine Box.below ?_ hb; repeat (first | (with_reducible assumption) | (with_reducible refine Box.drew ?_) | (with_reducible refine Box.drewN ?_ _) | ((with_reducible refine Box.new ?_); simp; done) | (with_reducible apply Box.set2) | ((with_reducible apply Box.put); (with_reducible assumption); rfl) | (with_reducible refine Box.alloc ?_ _) | (with_reducible refine Box.other ?_ (by first | (dsimp only; omega) | omega) _)))
  have z_l5 := x_l5.lt
  have c_l5_0 := x_l5.c 0 _ rfl
  have f_l5_0 := x_l5.f 0 _ rfl
  have c_l5_1 := x_l5.c 1 _ rfl
  have f_l5_1 := x_l5.f 1 _ rfl
  have c_l5_2 := x_l5.c 2 _ rfl
  have f_l5_2 := x_l5.f 2 _ rfl
  have x_c5 : Box w5 (w1.heap.size) [.int .i64 bu, .int .i64 ra, .int .i64 pe, .int .i64 D, .int .i64 pt, .int .u64 a] := (by refine Box.below ?_ hb; repeat (first | (with_reducible assumption) | (with_reducible refine Box.drew ?_) | (with_reducible refine Box.drewN ?_ _) | ((with_reducible refine Box.new ?_); simp; done) | (with_reducible apply Box.set2) | ((with_reducible apply Box.put); (with_reducible assumption); rfl) | (with_reducible refine Box.alloc ?_ _) | (with_reducible refine Box.other ?_ (by first | (dsimp only; omega) | omega) _)))
  have z_c5 := x_c5.lt
  have c_c5_0 := x_c5.c 0 _ rfl
  have f_c5_0 := x_c5.f 0 _ rfl
  have c_c5_1 := x_c5.c 1 _ rfl
  have f_c5_1 := x_c5.f 1 _ rfl
  have c_c5_2 := x_c5.c 2 _ rfl
  have f_c5_2 := x_c5.f 2 _ rfl
  have c_c5_3 := x_c5.c 3 _ rfl
  have f_c5_3 := x_c5.f 3 _ rfl
  have c_c5_4 := x_c5.c 4 _ rfl
  have f_c5_4 := x_c5.f 4 _ rfl
  have c_c5_5 := x_c5.c 5 _ rfl
  have f_c5_5 := x_c5.f 5 _ rfl
  have x_d5 : Box w5 (w2.heap.size) [.int .i64 bu, .int .i64 ra, .int .i64 pe, .int .i64 D, .int .i64 pt, .int .u64 a] := (by refine Box.below ?_ hb; repeat (first | (with_reducible assumption) | (with_reducible refine Box.drew ?_) | (with_reducible refine Box.drewN ?_ _) | ((with_reducible refine Box.new ?_); simp; done) | (with_reducible apply Box.set2) | ((with_reducible apply Box.put); (with_reducible assumption); rfl) | (with_reducible refine Box.alloc ?_ _) | (with_reducible refine Box.other ?_ (by first | (dsimp only; omega) | omega) _)))
  have z_d5 := x_d5.lt
  have c_d5_0 := x_d5.c 0 _ rfl
  have f_d5_0 := x_d5.f 0 _ rfl
  have c_d5_1 := x_d5.c 1 _ rfl
  have f_d5_1 := x_d5.f 1 _ rfl
  have c_d5_2 := x_d5.c 2 _ rfl
  have f_d5_2 := x_d5.f 2 _ rfl
  have c_d5_3 := x_d5.c 3 _ rfl
  have f_d5_3 := x_d5.f 3 _ rfl
  have c_d5_4 := x_d5.c 4 _ rfl
  have f_d5_4 := x_d5.f 4 _ rfl
  have c_d5_5 := x_d5.c 5 _ rfl
  have f_d5_5 := x_d5.f 5 _ rfl
  have t5 := hb.size
  try simp at t5
  clear hb hB4 hs4 x_x4 z_x4 c_x4_0 c_x4_1 c_x4_2 c_x4_3 c_x4_4 c_x4_5 f_x4_0 f_x4_1 f_x4_2 f_x4_3 f_x4_4 f_x4_5 x_l4 z_l4 c_l4_0 c_l4_1 c_l4_2 f_l4_0 f_l4_1 f_l4_2 x_c4 z_c4 c_c4_0 c_c4_1 c_c4_2 c_c4_3 c_c4_4 c_c4_5 f_c4_0 f_c4_1 f_c4_2 f_c4_3 f_c4_4 f_c4_5 x_d4 z_d4 c_d4_0 c_d4_1 c_d4_2 c_d4_3 c_d4_4 c_d4_5 f_d4_0 f_d4_1 f_d4_2 f_d4_3 f_d4_4 f_d4_5
  go_wp2_with fail
  refine (rchange_is HB.out ht hl E1 E2 E3 E4 _).mono ?_
  rintro e w6 ⟨rfl, hb⟩
  have hB6 : Below w.heap.size w w6 := below_thru (by go_grown) hb
  have hs6 : w.heap.size ≤ w6.heap.size := hB6.size
  have x_x6 : Box w6 (w.heap.size) [.int .i64 bu, .int .i64 ra, .int .i64 pe, .int .i64 le, .int .i64 pt, .int .u64 a] := (by refine Box.below ?_ hb; repeat (first | (with_reducible assumption) | (with_reducible refine Box.drew ?_) | (with_reducible refine Box.drewN ?_ _) | ((with_reducible refine Box.new ?_); simp; done) | (with_reducible apply Box.set2) | ((with_reducible apply Box.put); (with_reducible assumption); rfl) | (with_reducible refine Box.alloc ?_ _) | (with_reducible refine Box.other ?_ (by first | (dsimp only; omega) | omega) _)))
  have z_x6 := x_x6.lt
  have c_x6_0 := x_x6.c 0 _ rfl
  have f_x6_0 := x_x6.f 0 _ rfl
  have c_x6_1 := x_x6.c 1 _ rfl
  have f_x6_1 := x_x6.f 1 _ rfl
  have c_x6_2 := x_x6.c 2 _ rfl
  have f_x6_2 := x_x6.f 2 _ rfl
  have c_x6_3 := x_x6.c 3 _ rfl
  have f_x6_3 := x_x6.f 3 _ rfl
  have c_x6_4 := x_x6.c 4 _ rfl
  have f_x6_4 := x_x6.f 4 _ rfl
  have c_x6_5 := x_x6.c 5 _ rfl
  have f_x6_5 := x_x6.f 5 _ rfl
  have x_l6 : Box w6 (w.heap.size + 1) [.int .i64 lb, .int .i64 lr, .int .i64 lp] := (by refine Box.below ?_ hb; repeat (first | (with_reducible assumption) | (with_reducible refine Box.drew ?_) | (with_reducible refine Box.drewN ?_ _) | ((with_reducible refine Box.new ?_); simp; done) | (with_reducible apply Box.set2) | ((with_reducible apply Box.put); (with_reducible assumption); rfl) | (with_reducible refine Box.alloc ?_ _) | (with_reducible refine Box.other ?_ (by first | (dsimp only; omega) | omega) _)))
  have z_l6 := x_l6.lt
  have c_l6_0 := x_l6.c 0 _ rfl
  have f_l6_0 := x_l6.f 0 _ rfl
  have c_l6_1 := x_l6.c 1 _ rfl
  have f_l6_1 := x_l6.f 1 _ rfl
  have c_l6_2 := x_l6.c 2 _ rfl
  have f_l6_2 := x_l6.f 2 _ rfl
  have x_c6 : Box w6 (w1.heap.size) [.int .i64 bu, .int .i64 ra, .int .i64 pe, .int .i64 D, .int .i64 pt, .int .u64 a] := (by refine Box.below ?_ hb; repeat (first | (with_reducible assumption) | (with_reducible refine Box.drew ?_) | (with_reducible refine Box.drewN ?_ _) | ((with_reducible refine Box.new ?_); simp; done) | (with_reducible apply Box.set2) | ((with_reducible apply Box.put); (with_reducible assumption); rfl) | (with_reducible refine Box.alloc ?_ _) | (with_reducible refine Box.other ?_ (by first | (dsimp only; omega) | omega) _)))
  have z_c6 := x_c6.lt
  have c_c6_0 := x_c6.c 0 _ rfl
  have f_c6_0 := x_c6.f 0 _ rfl
  have c_c6_1 := x_c6.c 1 _ rfl
  have f_c6_1 := x_c6.f 1 _ rfl
  have c_c6_2 := x_c6.c 2 _ rfl
  have f_c6_2 := x_c6.f 2 _ rfl
  have c_c6_3 := x_c6.c 3 _ rfl
  have f_c6_3 := x_c6.f 3 _ rfl
  have c_c6_4 := x_c6.c 4 _ rfl
  have f_c6_4 := x_c6.f 4 _ rfl
  have c_c6_5 := x_c6.c 5 _ rfl
  have f_c6_5 := x_c6.f 5 _ rfl
  have x_d6 : Box w6 (w2.heap.size) [.int .i64 bu, .int .i64 ra, .int .i64 pe, .int .i64 D, .int .i64 pt, .int .u64 a] := (by refine Box.below ?_ hb; repeat (first | (with_reducible assumption) | (with_reducible refine Box.drew ?_) | (with_reducible refine Box.drewN ?_ _) | ((with_reducible refine Box.new ?_); simp; done) | (with_reducible apply Box.set2) | ((with_reducible apply Box.put); (with_reducible assumption); rfl) | (with_reducible refine Box.alloc ?_ _) | (with_reducible refine Box.other ?_ (by first | (dsimp only; omega) | omega) _)))
  have z_d6 := x_d6.lt
  have c_d6_0 := x_d6.c 0 _ rfl
  have f_d6_0 := x_d6.f 0 _ rfl
  have c_d6_1 := x_d6.c 1 _ rfl
  have f_d6_1 := x_d6.f 1 _ rfl
  have c_d6_2 := x_d6.c 2 _ rfl
  have f_d6_2 := x_d6.f 2 _ rfl
  have c_d6_3 := x_d6.c 3 _ rfl
  have f_d6_3 := x_d6.f 3 _ rfl
  have c_d6_4 := x_d6.c 4 _ rfl
  have f_d6_4 := x_d6.f 4 _ rfl
  have c_d6_5 := x_d6.c 5 _ rfl
  have f_d6_5 := x_d6.f 5 _ rfl
  have x_k6 : Box w6 (w5.heap.size) [.int .i64 lb, .int .i64 lr, .int .i64 lp, .int .i64 M, .int .i64 0, .int .u64 T] := (by refine Box.below ?_ hb; repeat (first | (with_reducible assumption) | (with_reducible refine Box.drew ?_) | (with_reducible refine Box.drewN ?_ _) | ((with_reducible refine Box.new ?_); simp; done) | (with_reducible apply Box.set2) | ((with_reducible apply Box.put); (with_reducible assumption); rfl) | (with_reducible refine Box.alloc ?_ _) | (with_reducible refine Box.other ?_ (by first | (dsimp only; omega) | omega) _)))
  have z_k6 := x_k6.lt
  have c_k6_0 := x_k6.c 0 _ rfl
  have f_k6_0 := x_k6.f 0 _ rfl
  have c_k6_1 := x_k6.c 1 _ rfl
  have f_k6_1 := x_k6.f 1 _ rfl
  have c_k6_2 := x_k6.c 2 _ rfl
  have f_k6_2 := x_k6.f 2 _ rfl
  have c_k6_3 := x_k6.c 3 _ rfl
  have f_k6_3 := x_k6.f 3 _ rfl
  have c_k6_4 := x_k6.c 4 _ rfl
  have f_k6_4 := x_k6.f 4 _ rfl
  have c_k6_5 := x_k6.c 5 _ rfl
  have f_k6_5 := x_k6.f 5 _ rfl
  have t6 := hb.size
  try simp at t6
  clear hb hB5 hs5 x_x5 z_x5 c_x5_0 c_x5_1 c_x5_2 c_x5_3 c_x5_4 c_x5_5 f_x5_0 f_x5_1 f_x5_2 f_x5_3 f_x5_4 f_x5_5 x_l5 z_l5 c_l5_0 c_l5_1 c_l5_2 f_l5_0 f_l5_1 f_l5_2 x_c5 z_c5 c_c5_0 c_c5_1 c_c5_2 c_c5_3 c_c5_4 c_c5_5 f_c5_0 f_c5_1 f_c5_2 f_c5_3 f_c5_4 f_c5_5 x_d5 z_d5 c_d5_0 c_d5_1 c_d5_2 c_d5_3 c_d5_4 c_d5_5 f_d5_0 f_d5_1 f_d5_2 f_d5_3 f_d5_4 f_d5_5
  go_wp2_with fail
  go_returns
  exact ⟨rfl, by go_grown⟩

set_option maxRecDepth 100000 in
set_option maxHeartbeats 3200000 in
theorem charges_ok_n {lb lr lp bu ra pe le pt a c t n : Int} (hb : Buc bu ra pe le pt a) (ht : isU t) (hl : Hid (limE lb lr lp = 8)) (hc : 0 ≤ c) (hd : c ≤ le) (hw : Hid (IsWait bu ra pe le pt a c n)) (w : World) :
    Calls Try.prog 5 #[.agg #[.int .i64 bu, .int .i64 ra, .int .i64 pe, .int .i64 le, .int .i64 pt, .int .u64 a], .int .i64 c, .agg #[.int .i64 lb, .int .i64 lr, .int .i64 lp], .int .u64 t] w fun e w' => e = .returned (.bool true) ∧ Below w.heap.size w w' := by
  obtain ⟨L, e1⟩ : ∃ x, filL bu ra pe le pt a t = x := ⟨_, rfl⟩
  obtain ⟨Q, e2⟩ : ∃ x, filP bu ra pe le pt a t = x := ⟨_, rfl⟩
  obtain ⟨T, e3⟩ : ∃ x, filA a t = x := ⟨_, rfl⟩
  obtain ⟨M, e4⟩ : ∃ x, min L lb = x := ⟨_, rfl⟩
  obtain ⟨D, e5⟩ : ∃ x, le - c = x := ⟨_, rfl⟩
  have E1 := Lib.hid e1
  have E2 := Lib.hid e2
  have E3 := Lib.hid e3
  have E4 := Lib.hid e4
  have E5 := Lib.hid e5
  have h := Lib.hid hb.ok
  have HB := Lib.hid hb
  have hle : le ≤ 1000000000 := by have := hb.l1; have := hb.nums; omega
  clear e1 e2 e3 e4 e5 hb
  go_enter Try.func5, Try.ntmps5
  go_wp2_with fail
  refine (charge_is h hc hd hle E5 _).mono ?_
  rintro e w1 ⟨rfl, hb⟩
  have hB1 : Below w.heap.size w w1 := below_thru (by go_grown) hb
  have hs1 : w.heap.size ≤ w1.heap.size := hB1.size
  have x_x1 : Box w1 (w.heap.size) [.int .i64 bu, .int .i64 ra, .int .i64 pe, .int .i64 le, .int .i64 pt, .int .u64 a] := (by refine Box.below ?_ hb; repeat (first | (with_reducible assumption) | (with_reducible refine Box.drew ?_) | (with_reducible refine Box.drewN ?_ _) | ((with_reducible refine Box.new ?_); simp; done) | (with_reducible apply Box.set2) | ((with_reducible apply Box.put); (with_reducible assumption); rfl) | (with_reducible refine Box.alloc ?_ _) | (with_reducible refine Box.other ?_ (by first | (dsimp only; omega) | omega) _)))
  have z_x1 := x_x1.lt
  have c_x1_0 := x_x1.c 0 _ rfl
  have f_x1_0 := x_x1.f 0 _ rfl
  have c_x1_1 := x_x1.c 1 _ rfl
  have f_x1_1 := x_x1.f 1 _ rfl
  have c_x1_2 := x_x1.c 2 _ rfl
  have f_x1_2 := x_x1.f 2 _ rfl
  have c_x1_3 := x_x1.c 3 _ rfl
  have f_x1_3 := x_x1.f 3 _ rfl
  have c_x1_4 := x_x1.c 4 _ rfl
  have f_x1_4 := x_x1.f 4 _ rfl
  have c_x1_5 := x_x1.c 5 _ rfl
  have f_x1_5 := x_x1.f 5 _ rfl
  have x_l1 : Box w1 (w.heap.size + 1) [.int .i64 lb, .int .i64 lr, .int .i64 lp] := (by refine Box.below ?_ hb; repeat (first | (with_reducible assumption) | (with_reducible refine Box.drew ?_) | (with_reducible refine Box.drewN ?_ _) | ((with_reducible refine Box.new ?_); simp; done) | (with_reducible apply Box.set2) | ((with_reducible apply Box.put); (with_reducible assumption); rfl) | (with_reducible refine Box.alloc ?_ _) | (with_reducible refine Box.other ?_ (by first | (dsimp only; omega) | omega) _)))
  have z_l1 := x_l1.lt
  have c_l1_0 := x_l1.c 0 _ rfl
  have f_l1_0 := x_l1.f 0 _ rfl
  have c_l1_1 := x_l1.c 1 _ rfl
  have f_l1_1 := x_l1.f 1 _ rfl
  have c_l1_2 := x_l1.c 2 _ rfl
  have f_l1_2 := x_l1.f 2 _ rfl
  have t1 := hb.size
  try simp at t1
  clear hb
  go_wp2_with fail
  refine (rcharge_is h hc hd hle E5 _).mono ?_
  rintro e w2 ⟨rfl, hb⟩
  have hB2 : Below w.heap.size w w2 := below_thru (by go_grown) hb
  have hs2 : w.heap.size ≤ w2.heap.size := hB2.size
  have x_x2 : Box w2 (w.heap.size) [.int .i64 bu, .int .i64 ra, .int .i64 pe, .int .i64 le, .int .i64 pt, .int .u64 a] := (by refine Box.below ?_ hb; repeat (first | (with_reducible assumption) | (with_reducible refine Box.drew ?_) | (with_reducible refine Box.drewN ?_ _) | ((with_reducible refine Box.new ?_); simp; done) | (with_reducible apply Box.set2) | ((with_reducible apply Box.put); (with_reducible assumption); rfl) | (with_reducible refine Box.alloc ?_ _) | (with_reducible refine Box.other ?_ (by first | (dsimp only; omega) | omega) _)))
  have z_x2 := x_x2.lt
  have c_x2_0 := x_x2.c 0 _ rfl
  have f_x2_0 := x_x2.f 0 _ rfl
  have c_x2_1 := x_x2.c 1 _ rfl
  have f_x2_1 := x_x2.f 1 _ rfl
  have c_x2_2 := x_x2.c 2 _ rfl
  have f_x2_2 := x_x2.f 2 _ rfl
  have c_x2_3 := x_x2.c 3 _ rfl
  have f_x2_3 := x_x2.f 3 _ rfl
  have c_x2_4 := x_x2.c 4 _ rfl
  have f_x2_4 := x_x2.f 4 _ rfl
  have c_x2_5 := x_x2.c 5 _ rfl
  have f_x2_5 := x_x2.f 5 _ rfl
  have x_l2 : Box w2 (w.heap.size + 1) [.int .i64 lb, .int .i64 lr, .int .i64 lp] := (by refine Box.below ?_ hb; repeat (first | (with_reducible assumption) | (with_reducible refine Box.drew ?_) | (with_reducible refine Box.drewN ?_ _) | ((with_reducible refine Box.new ?_); simp; done) | (with_reducible apply Box.set2) | ((with_reducible apply Box.put); (with_reducible assumption); rfl) | (with_reducible refine Box.alloc ?_ _) | (with_reducible refine Box.other ?_ (by first | (dsimp only; omega) | omega) _)))
  have z_l2 := x_l2.lt
  have c_l2_0 := x_l2.c 0 _ rfl
  have f_l2_0 := x_l2.f 0 _ rfl
  have c_l2_1 := x_l2.c 1 _ rfl
  have f_l2_1 := x_l2.f 1 _ rfl
  have c_l2_2 := x_l2.c 2 _ rfl
  have f_l2_2 := x_l2.f 2 _ rfl
  have x_c2 : Box w2 (w1.heap.size) [.int .i64 bu, .int .i64 ra, .int .i64 pe, .int .i64 D, .int .i64 pt, .int .u64 a] := (by refine Box.below ?_ hb; repeat (first | (with_reducible assumption) | (with_reducible refine Box.drew ?_) | (with_reducible refine Box.drewN ?_ _) | ((with_reducible refine Box.new ?_); simp; done) | (with_reducible apply Box.set2) | ((with_reducible apply Box.put); (with_reducible assumption); rfl) | (with_reducible refine Box.alloc ?_ _) | (with_reducible refine Box.other ?_ (by first | (dsimp only; omega) | omega) _)))
  have z_c2 := x_c2.lt
  have c_c2_0 := x_c2.c 0 _ rfl
  have f_c2_0 := x_c2.f 0 _ rfl
  have c_c2_1 := x_c2.c 1 _ rfl
  have f_c2_1 := x_c2.f 1 _ rfl
  have c_c2_2 := x_c2.c 2 _ rfl
  have f_c2_2 := x_c2.f 2 _ rfl
  have c_c2_3 := x_c2.c 3 _ rfl
  have f_c2_3 := x_c2.f 3 _ rfl
  have c_c2_4 := x_c2.c 4 _ rfl
  have f_c2_4 := x_c2.f 4 _ rfl
  have c_c2_5 := x_c2.c 5 _ rfl
  have f_c2_5 := x_c2.f 5 _ rfl
  have t2 := hb.size
  try simp at t2
  clear hb hB1 hs1 x_x1 z_x1 c_x1_0 c_x1_1 c_x1_2 c_x1_3 c_x1_4 c_x1_5 f_x1_0 f_x1_1 f_x1_2 f_x1_3 f_x1_4 f_x1_5 x_l1 z_l1 c_l1_0 c_l1_1 c_l1_2 f_l1_0 f_l1_1 f_l1_2
  go_wp2_with fail
  refine (wait_ok HB.out hc hw _).mono ?_
  rintro e w3 ⟨rfl, hb⟩
  have hB3 : Below w.heap.size w w3 := below_thru (by go_grown) hb
  have hs3 : w.heap.size ≤ w3.heap.size := hB3.size
  have x_x3 : Box w3 (w.heap.size) [.int .i64 bu, .int .i64 ra, .int .i64 pe, .int .i64 le, .int .i64 pt, .int .u64 a] := (by refine Box.below ?_ hb; repeat (first | (with_reducible assumption) | (with_reducible refine Box.drew ?_) | (with_reducible refine Box.drewN ?_ _) | ((with_reducible refine Box.new ?_); simp; done) | (with_reducible apply Box.set2) | ((with_reducible apply Box.put); (with_reducible assumption); rfl) | (with_reducible refine Box.alloc ?_ _) | (with_reducible refine Box.other ?_ (by first | (dsimp only; omega) | omega) _)))
  have z_x3 := x_x3.lt
  have c_x3_0 := x_x3.c 0 _ rfl
  have f_x3_0 := x_x3.f 0 _ rfl
  have c_x3_1 := x_x3.c 1 _ rfl
  have f_x3_1 := x_x3.f 1 _ rfl
  have c_x3_2 := x_x3.c 2 _ rfl
  have f_x3_2 := x_x3.f 2 _ rfl
  have c_x3_3 := x_x3.c 3 _ rfl
  have f_x3_3 := x_x3.f 3 _ rfl
  have c_x3_4 := x_x3.c 4 _ rfl
  have f_x3_4 := x_x3.f 4 _ rfl
  have c_x3_5 := x_x3.c 5 _ rfl
  have f_x3_5 := x_x3.f 5 _ rfl
  have x_l3 : Box w3 (w.heap.size + 1) [.int .i64 lb, .int .i64 lr, .int .i64 lp] := (by refine Box.below ?_ hb; repeat (first | (with_reducible assumption) | (with_reducible refine Box.drew ?_) | (with_reducible refine Box.drewN ?_ _) | ((with_reducible refine Box.new ?_); simp; done) | (with_reducible apply Box.set2) | ((with_reducible apply Box.put); (with_reducible assumption); rfl) | (with_reducible refine Box.alloc ?_ _) | (with_reducible refine Box.other ?_ (by first | (dsimp only; omega) | omega) _)))
  have z_l3 := x_l3.lt
  have c_l3_0 := x_l3.c 0 _ rfl
  have f_l3_0 := x_l3.f 0 _ rfl
  have c_l3_1 := x_l3.c 1 _ rfl
  have f_l3_1 := x_l3.f 1 _ rfl
  have c_l3_2 := x_l3.c 2 _ rfl
  have f_l3_2 := x_l3.f 2 _ rfl
  have x_c3 : Box w3 (w1.heap.size) [.int .i64 bu, .int .i64 ra, .int .i64 pe, .int .i64 D, .int .i64 pt, .int .u64 a] := (by refine Box.below ?_ hb; repeat (first | (with_reducible assumption) | (with_reducible refine Box.drew ?_) | (with_reducible refine Box.drewN ?_ _) | ((with_reducible refine Box.new ?_); simp; done) | (with_reducible apply Box.set2) | ((with_reducible apply Box.put); (with_reducible assumption); rfl) | (with_reducible refine Box.alloc ?_ _) | (with_reducible refine Box.other ?_ (by first | (dsimp only; omega) | omega) _)))
  have z_c3 := x_c3.lt
  have c_c3_0 := x_c3.c 0 _ rfl
  have f_c3_0 := x_c3.f 0 _ rfl
  have c_c3_1 := x_c3.c 1 _ rfl
  have f_c3_1 := x_c3.f 1 _ rfl
  have c_c3_2 := x_c3.c 2 _ rfl
  have f_c3_2 := x_c3.f 2 _ rfl
  have c_c3_3 := x_c3.c 3 _ rfl
  have f_c3_3 := x_c3.f 3 _ rfl
  have c_c3_4 := x_c3.c 4 _ rfl
  have f_c3_4 := x_c3.f 4 _ rfl
  have c_c3_5 := x_c3.c 5 _ rfl
  have f_c3_5 := x_c3.f 5 _ rfl
  have x_d3 : Box w3 (w2.heap.size) [.int .i64 bu, .int .i64 ra, .int .i64 pe, .int .i64 D, .int .i64 pt, .int .u64 a] := (by refine Box.below ?_ hb; repeat (first | (with_reducible assumption) | (with_reducible refine Box.drew ?_) | (with_reducible refine Box.drewN ?_ _) | ((with_reducible refine Box.new ?_); simp; done) | (with_reducible apply Box.set2) | ((with_reducible apply Box.put); (with_reducible assumption); rfl) | (with_reducible refine Box.alloc ?_ _) | (with_reducible refine Box.other ?_ (by first | (dsimp only; omega) | omega) _)))
  have z_d3 := x_d3.lt
  have c_d3_0 := x_d3.c 0 _ rfl
  have f_d3_0 := x_d3.f 0 _ rfl
  have c_d3_1 := x_d3.c 1 _ rfl
  have f_d3_1 := x_d3.f 1 _ rfl
  have c_d3_2 := x_d3.c 2 _ rfl
  have f_d3_2 := x_d3.f 2 _ rfl
  have c_d3_3 := x_d3.c 3 _ rfl
  have f_d3_3 := x_d3.f 3 _ rfl
  have c_d3_4 := x_d3.c 4 _ rfl
  have f_d3_4 := x_d3.f 4 _ rfl
  have c_d3_5 := x_d3.c 5 _ rfl
  have f_d3_5 := x_d3.f 5 _ rfl
  have t3 := hb.size
  try simp at t3
  clear hb hB2 hs2 x_x2 z_x2 c_x2_0 c_x2_1 c_x2_2 c_x2_3 c_x2_4 c_x2_5 f_x2_0 f_x2_1 f_x2_2 f_x2_3 f_x2_4 f_x2_5 x_l2 z_l2 c_l2_0 c_l2_1 c_l2_2 f_l2_0 f_l2_1 f_l2_2 x_c2 z_c2 c_c2_0 c_c2_1 c_c2_2 c_c2_3 c_c2_4 c_c2_5 f_c2_0 f_c2_1 f_c2_2 f_c2_3 f_c2_4 f_c2_5
  go_wp2_with fail
  refine (rwait_ok HB.out hc hw _).mono ?_
  rintro e w4 ⟨rfl, hb⟩
  have hB4 : Below w.heap.size w w4 := below_thru (by go_grown) hb
  have hs4 : w.heap.size ≤ w4.heap.size := hB4.size
  have x_x4 : Box w4 (w.heap.size) [.int .i64 bu, .int .i64 ra, .int .i64 pe, .int .i64 le, .int .i64 pt, .int .u64 a] := (by refine Box.below ?_ hb; repeat (first | (with_reducible assumption) | (with_reducible refine Box.drew ?_) | (with_reducible refine Box.drewN ?_ _) | ((with_reducible refine Box.new ?_); simp; done) | (with_reducible apply Box.set2) | ((with_reducible apply Box.put); (with_reducible assumption); rfl) | (with_reducible refine Box.alloc ?_ _) | (with_reducible refine Box.other ?_ (by first | (dsimp only; omega) | omega) _)))
  have z_x4 := x_x4.lt
  have c_x4_0 := x_x4.c 0 _ rfl
  have f_x4_0 := x_x4.f 0 _ rfl
  have c_x4_1 := x_x4.c 1 _ rfl
  have f_x4_1 := x_x4.f 1 _ rfl
  have c_x4_2 := x_x4.c 2 _ rfl
  have f_x4_2 := x_x4.f 2 _ rfl
  have c_x4_3 := x_x4.c 3 _ rfl
  have f_x4_3 := x_x4.f 3 _ rfl
  have c_x4_4 := x_x4.c 4 _ rfl
  have f_x4_4 := x_x4.f 4 _ rfl
  have c_x4_5 := x_x4.c 5 _ rfl
  have f_x4_5 := x_x4.f 5 _ rfl
  have x_l4 : Box w4 (w.heap.size + 1) [.int .i64 lb, .int .i64 lr, .int .i64 lp] := (by refine Box.below ?_ hb; repeat (first | (with_reducible assumption) | (with_reducible refine Box.drew ?_) | (with_reducible refine Box.drewN ?_ _) | ((with_reducible refine Box.new ?_); simp; done) | (with_reducible apply Box.set2) | ((with_reducible apply Box.put); (with_reducible assumption); rfl) | (with_reducible refine Box.alloc ?_ _) | (with_reducible refine Box.other ?_ (by first | (dsimp only; omega) | omega) _)))
  have z_l4 := x_l4.lt
  have c_l4_0 := x_l4.c 0 _ rfl
  have f_l4_0 := x_l4.f 0 _ rfl
  have c_l4_1 := x_l4.c 1 _ rfl
  have f_l4_1 := x_l4.f 1 _ rfl
  have c_l4_2 := x_l4.c 2 _ rfl
  have f_l4_2 := x_l4.f 2 _ rfl
  have x_c4 : Box w4 (w1.heap.size) [.int .i64 bu, .int .i64 ra, .int .i64 pe, .int .i64 D, .int .i64 pt, .int .u64 a] := (by refine Box.below ?_ hb; repeat (first | (with_reducible assumption) | (with_reducible refine Box.drew ?_) | (with_reducible refine Box.drewN ?_ _) | ((with_reducible refine Box.new ?_); simp; done) | (with_reducible apply Box.set2) | ((with_reducible apply Box.put); (with_reducible assumption); rfl) | (with_reducible refine Box.alloc ?_ _) | (with_reducible refine Box.other ?_ (by first | (dsimp only; omega) | omega) _)))
  have z_c4 := x_c4.lt
  have c_c4_0 := x_c4.c 0 _ rfl
  have f_c4_0 := x_c4.f 0 _ rfl
  have c_c4_1 := x_c4.c 1 _ rfl
  have f_c4_1 := x_c4.f 1 _ rfl
  have c_c4_2 := x_c4.c 2 _ rfl
  have f_c4_2 := x_c4.f 2 _ rfl
  have c_c4_3 := x_c4.c 3 _ rfl
  have f_c4_3 := x_c4.f 3 _ rfl
  have c_c4_4 := x_c4.c 4 _ rfl
  have f_c4_4 := x_c4.f 4 _ rfl
  have c_c4_5 := x_c4.c 5 _ rfl
  have f_c4_5 := x_c4.f 5 _ rfl
  have x_d4 : Box w4 (w2.heap.size) [.int .i64 bu, .int .i64 ra, .int .i64 pe, .int .i64 D, .int .i64 pt, .int .u64 a] := (by refine Box.below ?_ hb; repeat (first | (with_reducible assumption) | (with_reducible refine Box.drew ?_) | (with_reducible refine Box.drewN ?_ _) | ((with_reducible refine Box.new ?_); simp; done) | (with_reducible apply Box.set2) | ((with_reducible apply Box.put); (with_reducible assumption); rfl) | (with_reducible refine Box.alloc ?_ _) | (with_reducible refine Box.other ?_ (by first | (dsimp only; omega) | omega) _)))
  have z_d4 := x_d4.lt
  have c_d4_0 := x_d4.c 0 _ rfl
  have f_d4_0 := x_d4.f 0 _ rfl
  have c_d4_1 := x_d4.c 1 _ rfl
  have f_d4_1 := x_d4.f 1 _ rfl
  have c_d4_2 := x_d4.c 2 _ rfl
  have f_d4_2 := x_d4.f 2 _ rfl
  have c_d4_3 := x_d4.c 3 _ rfl
  have f_d4_3 := x_d4.f 3 _ rfl
  have c_d4_4 := x_d4.c 4 _ rfl
  have f_d4_4 := x_d4.f 4 _ rfl
  have c_d4_5 := x_d4.c 5 _ rfl
  have f_d4_5 := x_d4.f 5 _ rfl
  have t4 := hb.size
  try simp at t4
  clear hb hB3 hs3 x_x3 z_x3 c_x3_0 c_x3_1 c_x3_2 c_x3_3 c_x3_4 c_x3_5 f_x3_0 f_x3_1 f_x3_2 f_x3_3 f_x3_4 f_x3_5 x_l3 z_l3 c_l3_0 c_l3_1 c_l3_2 f_l3_0 f_l3_1 f_l3_2 x_c3 z_c3 c_c3_0 c_c3_1 c_c3_2 c_c3_3 c_c3_4 c_c3_5 f_c3_0 f_c3_1 f_c3_2 f_c3_3 f_c3_4 f_c3_5 x_d3 z_d3 c_d3_0 c_d3_1 c_d3_2 c_d3_3 c_d3_4 c_d3_5 f_d3_0 f_d3_1 f_d3_2 f_d3_3 f_d3_4 f_d3_5
  go_wp2_with fail
  refine (change_lim HB.out ht hl _).mono ?_
  rintro e w5 ⟨rfl, hb⟩
  have hB5 : Below w.heap.size w w5 := below_thru (by go_grown) hb
  have hs5 : w.heap.size ≤ w5.heap.size := hB5.size
  have x_x5 : Box w5 (w.heap.size) [.int .i64 bu, .int .i64 ra, .int .i64 pe, .int .i64 le, .int .i64 pt, .int .u64 a] := (by refine Box.below ?_ hb; repeat (first | (with_reducible assumption) | (with_reducible refine Box.drew ?_) | (with_reducible refine Box.drewN ?_ _) | ((with_reducible refine Box.new ?_); simp; done) | (with_reducible apply Box.set2) | ((with_reducible apply Box.put); (with_reducible assumption); rfl) | (with_reducible refine Box.alloc ?_ _) | (with_reducible refine Box.other ?_ (by first | (dsimp only; omega) | omega) _)))
  have z_x5 := x_x5.lt
  have c_x5_0 := x_x5.c 0 _ rfl
  have f_x5_0 := x_x5.f 0 _ rfl
  have c_x5_1 := x_x5.c 1 _ rfl
  have f_x5_1 := x_x5.f 1 _ rfl
  have c_x5_2 := x_x5.c 2 _ rfl
  have f_x5_2 := x_x5.f 2 _ rfl
  have c_x5_3 := x_x5.c 3 _ rfl
  have f_x5_3 := x_x5.f 3 _ rfl
  have c_x5_4 := x_x5.c 4 _ rfl
  have f_x5_4 := x_x5.f 4 _ rfl
  have c_x5_5 := x_x5.c 5 _ rfl
  have f_x5_5 := x_x5.f 5 _ rfl
  have x_l5 : Box w5 (w.heap.size + 1) [.int .i64 lb, .int .i64 lr, .int .i64 lp] := (by refine Box.below ?_ hb; repeat (first | (with_reducible assumption) | (with_reducible refine Box.drew ?_) | (with_reducible refine Box.drewN ?_ _) | ((with_reducible refine Box.new ?_); simp; done) | (with_reducible apply Box.set2) | ((with_reducible apply Box.put); (with_reducible assumption); rfl) | (with_reducible refine Box.alloc ?_ _) | (with_reducible refine Box.other ?_ (by first | (dsimp only; omega) | omega) _)))
  have z_l5 := x_l5.lt
  have c_l5_0 := x_l5.c 0 _ rfl
  have f_l5_0 := x_l5.f 0 _ rfl
  have c_l5_1 := x_l5.c 1 _ rfl
  have f_l5_1 := x_l5.f 1 _ rfl
  have c_l5_2 := x_l5.c 2 _ rfl
  have f_l5_2 := x_l5.f 2 _ rfl
  have x_c5 : Box w5 (w1.heap.size) [.int .i64 bu, .int .i64 ra, .int .i64 pe, .int .i64 D, .int .i64 pt, .int .u64 a] := (by refine Box.below ?_ hb; repeat (first | (with_reducible assumption) | (with_reducible refine Box.drew ?_) | (with_reducible refine Box.drewN ?_ _) | ((with_reducible refine Box.new ?_); simp; done) | (with_reducible apply Box.set2) | ((with_reducible apply Box.put); (with_reducible assumption); rfl) | (with_reducible refine Box.alloc ?_ _) | (with_reducible refine Box.other ?_ (by first | (dsimp only; omega) | omega) _)))
  have z_c5 := x_c5.lt
  have c_c5_0 := x_c5.c 0 _ rfl
  have f_c5_0 := x_c5.f 0 _ rfl
  have c_c5_1 := x_c5.c 1 _ rfl
  have f_c5_1 := x_c5.f 1 _ rfl
  have c_c5_2 := x_c5.c 2 _ rfl
  have f_c5_2 := x_c5.f 2 _ rfl
  have c_c5_3 := x_c5.c 3 _ rfl
  have f_c5_3 := x_c5.f 3 _ rfl
  have c_c5_4 := x_c5.c 4 _ rfl
  have f_c5_4 := x_c5.f 4 _ rfl
  have c_c5_5 := x_c5.c 5 _ rfl
  have f_c5_5 := x_c5.f 5 _ rfl
  have x_d5 : Box w5 (w2.heap.size) [.int .i64 bu, .int .i64 ra, .int .i64 pe, .int .i64 D, .int .i64 pt, .int .u64 a] := (by refine Box.below ?_ hb; repeat (first | (with_reducible assumption) | (with_reducible refine Box.drew ?_) | (with_reducible refine Box.drewN ?_ _) | ((with_reducible refine Box.new ?_); simp; done) | (with_reducible apply Box.set2) | ((with_reducible apply Box.put); (with_reducible assumption); rfl) | (with_reducible refine Box.alloc ?_ _) | (with_reducible refine Box.other ?_ (by first | (dsimp only; omega) | omega) _)))
  have z_d5 := x_d5.lt
  have c_d5_0 := x_d5.c 0 _ rfl
  have f_d5_0 := x_d5.f 0 _ rfl
  have c_d5_1 := x_d5.c 1 _ rfl
  have f_d5_1 := x_d5.f 1 _ rfl
  have c_d5_2 := x_d5.c 2 _ rfl
  have f_d5_2 := x_d5.f 2 _ rfl
  have c_d5_3 := x_d5.c 3 _ rfl
  have f_d5_3 := x_d5.f 3 _ rfl
  have c_d5_4 := x_d5.c 4 _ rfl
  have f_d5_4 := x_d5.f 4 _ rfl
  have c_d5_5 := x_d5.c 5 _ rfl
  have f_d5_5 := x_d5.f 5 _ rfl
  have t5 := hb.size
  try simp at t5
  clear hb hB4 hs4 x_x4 z_x4 c_x4_0 c_x4_1 c_x4_2 c_x4_3 c_x4_4 c_x4_5 f_x4_0 f_x4_1 f_x4_2 f_x4_3 f_x4_4 f_x4_5 x_l4 z_l4 c_l4_0 c_l4_1 c_l4_2 f_l4_0 f_l4_1 f_l4_2 x_c4 z_c4 c_c4_0 c_c4_1 c_c4_2 c_c4_3 c_c4_4 c_c4_5 f_c4_0 f_c4_1 f_c4_2 f_c4_3 f_c4_4 f_c4_5 x_d4 z_d4 c_d4_0 c_d4_1 c_d4_2 c_d4_3 c_d4_4 c_d4_5 f_d4_0 f_d4_1 f_d4_2 f_d4_3 f_d4_4 f_d4_5
  go_wp2_with fail
  refine (rchange_lim h hl _).mono ?_
  rintro e w6 ⟨rfl, hb⟩
  have hB6 : Below w.heap.size w w6 := below_thru (by go_grown) hb
  have hs6 : w.heap.size ≤ w6.heap.size := hB6.size
  have x_x6 : Box w6 (w.heap.size) [.int .i64 bu, .int .i64 ra, .int .i64 pe, .int .i64 le, .int .i64 pt, .int .u64 a] := (by refine Box.below ?_ hb; repeat (first | (with_reducible assumption) | (with_reducible refine Box.drew ?_) | (with_reducible refine Box.drewN ?_ _) | ((with_reducible refine Box.new ?_); simp; done) | (with_reducible apply Box.set2) | ((with_reducible apply Box.put); (with_reducible assumption); rfl) | (with_reducible refine Box.alloc ?_ _) | (with_reducible refine Box.other ?_ (by first | (dsimp only; omega) | omega) _)))
  have z_x6 := x_x6.lt
  have c_x6_0 := x_x6.c 0 _ rfl
  have f_x6_0 := x_x6.f 0 _ rfl
  have c_x6_1 := x_x6.c 1 _ rfl
  have f_x6_1 := x_x6.f 1 _ rfl
  have c_x6_2 := x_x6.c 2 _ rfl
  have f_x6_2 := x_x6.f 2 _ rfl
  have c_x6_3 := x_x6.c 3 _ rfl
  have f_x6_3 := x_x6.f 3 _ rfl
  have c_x6_4 := x_x6.c 4 _ rfl
  have f_x6_4 := x_x6.f 4 _ rfl
  have c_x6_5 := x_x6.c 5 _ rfl
  have f_x6_5 := x_x6.f 5 _ rfl
  have x_l6 : Box w6 (w.heap.size + 1) [.int .i64 lb, .int .i64 lr, .int .i64 lp] := (by refine Box.below ?_ hb; repeat (first | (with_reducible assumption) | (with_reducible refine Box.drew ?_) | (with_reducible refine Box.drewN ?_ _) | ((with_reducible refine Box.new ?_); simp; done) | (with_reducible apply Box.set2) | ((with_reducible apply Box.put); (with_reducible assumption); rfl) | (with_reducible refine Box.alloc ?_ _) | (with_reducible refine Box.other ?_ (by first | (dsimp only; omega) | omega) _)))
  have z_l6 := x_l6.lt
  have c_l6_0 := x_l6.c 0 _ rfl
  have f_l6_0 := x_l6.f 0 _ rfl
  have c_l6_1 := x_l6.c 1 _ rfl
  have f_l6_1 := x_l6.f 1 _ rfl
  have c_l6_2 := x_l6.c 2 _ rfl
  have f_l6_2 := x_l6.f 2 _ rfl
  have x_c6 : Box w6 (w1.heap.size) [.int .i64 bu, .int .i64 ra, .int .i64 pe, .int .i64 D, .int .i64 pt, .int .u64 a] := (by refine Box.below ?_ hb; repeat (first | (with_reducible assumption) | (with_reducible refine Box.drew ?_) | (with_reducible refine Box.drewN ?_ _) | ((with_reducible refine Box.new ?_); simp; done) | (with_reducible apply Box.set2) | ((with_reducible apply Box.put); (with_reducible assumption); rfl) | (with_reducible refine Box.alloc ?_ _) | (with_reducible refine Box.other ?_ (by first | (dsimp only; omega) | omega) _)))
  have z_c6 := x_c6.lt
  have c_c6_0 := x_c6.c 0 _ rfl
  have f_c6_0 := x_c6.f 0 _ rfl
  have c_c6_1 := x_c6.c 1 _ rfl
  have f_c6_1 := x_c6.f 1 _ rfl
  have c_c6_2 := x_c6.c 2 _ rfl
  have f_c6_2 := x_c6.f 2 _ rfl
  have c_c6_3 := x_c6.c 3 _ rfl
  have f_c6_3 := x_c6.f 3 _ rfl
  have c_c6_4 := x_c6.c 4 _ rfl
  have f_c6_4 := x_c6.f 4 _ rfl
  have c_c6_5 := x_c6.c 5 _ rfl
  have f_c6_5 := x_c6.f 5 _ rfl
  have x_d6 : Box w6 (w2.heap.size) [.int .i64 bu, .int .i64 ra, .int .i64 pe, .int .i64 D, .int .i64 pt, .int .u64 a] := (by refine Box.below ?_ hb; repeat (first | (with_reducible assumption) | (with_reducible refine Box.drew ?_) | (with_reducible refine Box.drewN ?_ _) | ((with_reducible refine Box.new ?_); simp; done) | (with_reducible apply Box.set2) | ((with_reducible apply Box.put); (with_reducible assumption); rfl) | (with_reducible refine Box.alloc ?_ _) | (with_reducible refine Box.other ?_ (by first | (dsimp only; omega) | omega) _)))
  have z_d6 := x_d6.lt
  have c_d6_0 := x_d6.c 0 _ rfl
  have f_d6_0 := x_d6.f 0 _ rfl
  have c_d6_1 := x_d6.c 1 _ rfl
  have f_d6_1 := x_d6.f 1 _ rfl
  have c_d6_2 := x_d6.c 2 _ rfl
  have f_d6_2 := x_d6.f 2 _ rfl
  have c_d6_3 := x_d6.c 3 _ rfl
  have f_d6_3 := x_d6.f 3 _ rfl
  have c_d6_4 := x_d6.c 4 _ rfl
  have f_d6_4 := x_d6.f 4 _ rfl
  have c_d6_5 := x_d6.c 5 _ rfl
  have f_d6_5 := x_d6.f 5 _ rfl
  have x_k6 : Box w6 (w5.heap.size) [.int .i64 0, .int .i64 0, .int .i64 0, .int .i64 0, .int .i64 0, .int .u64 0] := (by refine Box.below ?_ hb; repeat (first | (with_reducible assumption) | (with_reducible refine Box.drew ?_) | (with_reducible refine Box.drewN ?_ _) | ((with_reducible refine Box.new ?_); simp; done) | (with_reducible apply Box.set2) | ((with_reducible apply Box.put); (with_reducible assumption); rfl) | (with_reducible refine Box.alloc ?_ _) | (with_reducible refine Box.other ?_ (by first | (dsimp only; omega) | omega) _)))
  have z_k6 := x_k6.lt
  have c_k6_0 := x_k6.c 0 _ rfl
  have f_k6_0 := x_k6.f 0 _ rfl
  have c_k6_1 := x_k6.c 1 _ rfl
  have f_k6_1 := x_k6.f 1 _ rfl
  have c_k6_2 := x_k6.c 2 _ rfl
  have f_k6_2 := x_k6.f 2 _ rfl
  have c_k6_3 := x_k6.c 3 _ rfl
  have f_k6_3 := x_k6.f 3 _ rfl
  have c_k6_4 := x_k6.c 4 _ rfl
  have f_k6_4 := x_k6.f 4 _ rfl
  have c_k6_5 := x_k6.c 5 _ rfl
  have f_k6_5 := x_k6.f 5 _ rfl
  have t6 := hb.size
  try simp at t6
  clear hb hB5 hs5 x_x5 z_x5 c_x5_0 c_x5_1 c_x5_2 c_x5_3 c_x5_4 c_x5_5 f_x5_0 f_x5_1 f_x5_2 f_x5_3 f_x5_4 f_x5_5 x_l5 z_l5 c_l5_0 c_l5_1 c_l5_2 f_l5_0 f_l5_1 f_l5_2 x_c5 z_c5 c_c5_0 c_c5_1 c_c5_2 c_c5_3 c_c5_4 c_c5_5 f_c5_0 f_c5_1 f_c5_2 f_c5_3 f_c5_4 f_c5_5 x_d5 z_d5 c_d5_0 c_d5_1 c_d5_2 c_d5_3 c_d5_4 c_d5_5 f_d5_0 f_d5_1 f_d5_2 f_d5_3 f_d5_4 f_d5_5
  go_wp2_with fail
  go_returns
  exact ⟨rfl, by go_grown⟩

end Go.Proofs.Ytikhdfmdbpcajaa
