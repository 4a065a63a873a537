/-
  Package bucket, walked: waiting, changing.
-/
import Derived.Test.YtegbcagcfmijcaaBucket
namespace Go.Proofs.Ytegbcagcfmijcaa
open Go.RowKit

set_option maxRecDepth 100000 in
set_option maxHeartbeats 1600000 in
theorem wait_bad {bu ra pe le pt a c : Int} (h : Hid (bucE bu ra pe le pt = 8)) (w : World) :
    Calls Try.prog 18 #[.agg #[.int .i64 bu, .int .i64 ra, .int .i64 pe, .int .i64 le, .int .i64 pt, .int .u64 a], .int .i64 c] w fun e w' => e = .returned (.tuple #[.int .u64 0, .int .i64 8]) ∧ Below w.heap.size w w' := by
  go_enter Try.func18, Try.ntmps18
  go_wp2_with fail
  refine (cost_bad h _).mono ?_
  rintro e w1 ⟨rfl, hb⟩
  have hB1 : Below w.heap.size w w1 := below_thru (by go_grown) hb
  have hs1 : w.heap.size ≤ w1.heap.size := hB1.size
  have x_x1 : Box w1 (w.heap.size) [.int .i64 bu, .int .i64 ra, .int .i64 pe, .int .i64 le, .int .i64 pt, .int .u64 a] := (by refine Box.below ?_ hb; repeat (first | (with_reducible assumption) | (with_reducible refine Box.drew ?_) | (with_reducible refine Box.drewN ?_ _) | ((with_reducible refine Box.new ?_); simp; done) | (with_reducible apply Box.set2) | ((with_reducible apply Box.put); (with_reducible assumption); rfl) | (with_reducible refine Box.alloc ?_ _) | (with_reducible refine Box.other ?_ (by first | (dsimp only; omega) | omega) _)))
  have z_x1 := x_x1.lt
  have c_x1_0 := x_x1.c 0 _ rfl
  have f_x1_0 := x_x1.f 0 _ rfl
  have c_x1_1 := x_x1.c 1 _ rfl
  have f_x1_1 := x_x1.f 1 _ rfl
  have c_x1_2 := x_x1.c 2 _ rfl
  have f_x1_2 := x_x1.f 2 _ rfl
  have c_x1_3 := x_x1.c 3 _ rfl
  have f_x1_3 := x_x1.f 3 _ rfl
  have c_x1_4 := x_x1.c 4 _ rfl
  have f_x1_4 := x_x1.f 4 _ rfl
  have c_x1_5 := x_x1.c 5 _ rfl
  have f_x1_5 := x_x1.f 5 _ rfl
  have t1 := hb.size
  try simp at t1
  clear hb
  go_wp2_with fail
  go_returns
  exact ⟨rfl, by go_grown⟩

set_option maxRecDepth 100000 in
set_option maxHeartbeats 1600000 in
theorem wait_arg {bu ra pe le pt a c : Int} (h : Hid (bucE bu ra pe le pt = 0)) (hc : c < 0) (w : World) :
    Calls Try.prog 18 #[.agg #[.int .i64 bu, .int .i64 ra, .int .i64 pe, .int .i64 le, .int .i64 pt, .int .u64 a], .int .i64 c] w fun e w' => e = .returned (.tuple #[.int .u64 0, .int .i64 2]) ∧ Below w.heap.size w w' := by
  go_enter Try.func18, Try.ntmps18
  go_wp2_with fail
  refine (cost_arg h hc _).mono ?_
  rintro e w1 ⟨rfl, hb⟩
  have hB1 : Below w.heap.size w w1 := below_thru (by go_grown) hb
  have hs1 : w.heap.size ≤ w1.heap.size := hB1.size
  have x_x1 : Box w1 (w.heap.size) [.int .i64 bu, .int .i64 ra, .int .i64 pe, .int .i64 le, .int .i64 pt, .int .u64 a] := (by refine Box.below ?_ hb; repeat (first | (with_reducible assumption) | (with_reducible refine Box.drew ?_) | (with_reducible refine Box.drewN ?_ _) | ((with_reducible refine Box.new ?_); simp; done) | (with_reducible apply Box.set2) | ((with_reducible apply Box.put); (with_reducible assumption); rfl) | (with_reducible refine Box.alloc ?_ _) | (with_reducible refine Box.other ?_ (by first | (dsimp only; omega) | omega) _)))
  have z_x1 := x_x1.lt
  have c_x1_0 := x_x1.c 0 _ rfl
  have f_x1_0 := x_x1.f 0 _ rfl
  have c_x1_1 := x_x1.c 1 _ rfl
  have f_x1_1 := x_x1.f 1 _ rfl
  have c_x1_2 := x_x1.c 2 _ rfl
  have f_x1_2 := x_x1.f 2 _ rfl
  have c_x1_3 := x_x1.c 3 _ rfl
  have f_x1_3 := x_x1.f 3 _ rfl
  have c_x1_4 := x_x1.c 4 _ rfl
  have f_x1_4 := x_x1.f 4 _ rfl
  have c_x1_5 := x_x1.c 5 _ rfl
  have f_x1_5 := x_x1.f 5 _ rfl
  have t1 := hb.size
  try simp at t1
  clear hb
  go_wp2_with fail
  go_returns
  exact ⟨rfl, by go_grown⟩

set_option maxRecDepth 100000 in
set_option maxHeartbeats 1600000 in
theorem wait_le {bu ra pe le pt a c : Int} (h : Hid (bucE bu ra pe le pt = 0)) (hc : 0 ≤ c) (hl : c ≤ le) (w : World) :
    Calls Try.prog 18 #[.agg #[.int .i64 bu, .int .i64 ra, .int .i64 pe, .int .i64 le, .int .i64 pt, .int .u64 a], .int .i64 c] w fun e w' => e = .returned (.tuple #[.int .u64 0, .int .i64 0]) ∧ Below w.heap.size w w' := by
  have d1 : decide (c ≤ le) = true := decide_eq_true hl
  clear hl
  go_enter Try.func18, Try.ntmps18
  go_wp2_with fail
  refine (cost_ok h hc _).mono ?_
  rintro e w1 ⟨rfl, hb⟩
  have hB1 : Below w.heap.size w w1 := below_thru (by go_grown) hb
  have hs1 : w.heap.size ≤ w1.heap.size := hB1.size
  have x_x1 : Box w1 (w.heap.size) [.int .i64 bu, .int .i64 ra, .int .i64 pe, .int .i64 le, .int .i64 pt, .int .u64 a] := (by refine Box.below ?_ hb; repeat (first | (with_reducible assumption) | (with_reducible refine Box.drew ?_) | (with_reducible refine Box.drewN ?_ _) | ((with_reducible refine Box.new ?_); simp; done) | (with_reducible apply Box.set2) | ((with_reducible apply Box.put); (with_reducible assumption); rfl) | (with_reducible refine Box.alloc ?_ _) | (with_reducible refine Box.other ?_ (by first | (dsimp only; omega) | omega) _)))
  have z_x1 := x_x1.lt
  have c_x1_0 := x_x1.c 0 _ rfl
  have f_x1_0 := x_x1.f 0 _ rfl
  have c_x1_1 := x_x1.c 1 _ rfl
  have f_x1_1 := x_x1.f 1 _ rfl
  have c_x1_2 := x_x1.c 2 _ rfl
  have f_x1_2 := x_x1.f 2 _ rfl
  have c_x1_3 := x_x1.c 3 _ rfl
  have f_x1_3 := x_x1.f 3 _ rfl
  have c_x1_4 := x_x1.c 4 _ rfl
  have f_x1_4 := x_x1.f 4 _ rfl
  have c_x1_5 := x_x1.c 5 _ rfl
  have f_x1_5 := x_x1.f 5 _ rfl
  have t1 := hb.size
  try simp at t1
  clear hb
  go_wp2_with fail
  go_returns
  exact ⟨rfl, by go_grown⟩

set_option maxRecDepth 100000 in
set_option maxHeartbeats 1600000 in
theorem wait_over {bu ra pe le pt a c : Int} (h : Hid (bucE bu ra pe le pt = 0)) (hc : 0 ≤ c) (hl : le < c) (ho : bu < c) (w : World) :
    Calls Try.prog 18 #[.agg #[.int .i64 bu, .int .i64 ra, .int .i64 pe, .int .i64 le, .int .i64 pt, .int .u64 a], .int .i64 c] w fun e w' => e = .returned (.tuple #[.int .u64 18446744073709551615, .int .i64 0]) ∧ Below w.heap.size w w' := by
  have d1 : decide (c ≤ le) = false := decide_eq_false (by omega)
  have d2 : decide (bu < c) = true := decide_eq_true ho
  clear hl ho
  go_enter Try.func18, Try.ntmps18
  go_wp2_with fail
  refine (cost_ok h hc _).mono ?_
  rintro e w1 ⟨rfl, hb⟩
  have hB1 : Below w.heap.size w w1 := below_thru (by go_grown) hb
  have hs1 : w.heap.size ≤ w1.heap.size := hB1.size
  have x_x1 : Box w1 (w.heap.size) [.int .i64 bu, .int .i64 ra, .int .i64 pe, .int .i64 le, .int .i64 pt, .int .u64 a] := (by refine Box.below ?_ hb; repeat (first | (with_reducible assumption) | (with_reducible refine Box.drew ?_) | (with_reducible refine Box.drewN ?_ _) | ((with_reducible refine Box.new ?_); simp; done) | (with_reducible apply Box.set2) | ((with_reducible apply Box.put); (with_reducible assumption); rfl) | (with_reducible refine Box.alloc ?_ _) | (with_reducible refine Box.other ?_ (by first | (dsimp only; omega) | omega) _)))
  have z_x1 := x_x1.lt
  have c_x1_0 := x_x1.c 0 _ rfl
  have f_x1_0 := x_x1.f 0 _ rfl
  have c_x1_1 := x_x1.c 1 _ rfl
  have f_x1_1 := x_x1.f 1 _ rfl
  have c_x1_2 := x_x1.c 2 _ rfl
  have f_x1_2 := x_x1.f 2 _ rfl
  have c_x1_3 := x_x1.c 3 _ rfl
  have f_x1_3 := x_x1.f 3 _ rfl
  have c_x1_4 := x_x1.c 4 _ rfl
  have f_x1_4 := x_x1.f 4 _ rfl
  have c_x1_5 := x_x1.c 5 _ rfl
  have f_x1_5 := x_x1.f 5 _ rfl
  have t1 := hb.size
  try simp at t1
  clear hb
  go_wp2_with fail
  go_returns
  exact ⟨rfl, by go_grown⟩

set_option maxRecDepth 100000 in
set_option maxHeartbeats 1600000 in
theorem wait_still {bu ra pe le pt a c : Int} (h : Hid (bucE bu ra pe le pt = 0)) (hc : 0 ≤ c) (hl : le < c) (ho : c ≤ bu) (hr : ra = 0) (w : World) :
    Calls Try.prog 18 #[.agg #[.int .i64 bu, .int .i64 ra, .int .i64 pe, .int .i64 le, .int .i64 pt, .int .u64 a], .int .i64 c] w fun e w' => e = .returned (.tuple #[.int .u64 18446744073709551615, .int .i64 0]) ∧ Below w.heap.size w w' := by
  have d1 : decide (c ≤ le) = false := decide_eq_false (by omega)
  have d2 : decide (bu < c) = false := decide_eq_false (by omega)
  have d3 : (ra == 0) = true := by rw [hr]; rfl
  clear hl ho hr
  go_enter Try.func18, Try.ntmps18
  go_wp2_with fail
  refine (cost_ok h hc _).mono ?_
  rintro e w1 ⟨rfl, hb⟩
  have hB1 : Below w.heap.size w w1 := below_thru (by go_grown) hb
  have hs1 : w.heap.size ≤ w1.heap.size := hB1.size
  have x_x1 : Box w1 (w.heap.size) [.int .i64 bu, .int .i64 ra, .int .i64 pe, .int .i64 le, .int .i64 pt, .int .u64 a] := (by refine Box.below ?_ hb; repeat (first | (with_reducible assumption) | (with_reducible refine Box.drew ?_) | (with_reducible refine Box.drewN ?_ _) | ((with_reducible refine Box.new ?_); simp; done) | (with_reducible apply Box.set2) | ((with_reducible apply Box.put); (with_reducible assumption); rfl) | (with_reducible refine Box.alloc ?_ _) | (with_reducible refine Box.other ?_ (by first | (dsimp only; omega) | omega) _)))
  have z_x1 := x_x1.lt
  have c_x1_0 := x_x1.c 0 _ rfl
  have f_x1_0 := x_x1.f 0 _ rfl
  have c_x1_1 := x_x1.c 1 _ rfl
  have f_x1_1 := x_x1.f 1 _ rfl
  have c_x1_2 := x_x1.c 2 _ rfl
  have f_x1_2 := x_x1.f 2 _ rfl
  have c_x1_3 := x_x1.c 3 _ rfl
  have f_x1_3 := x_x1.f 3 _ rfl
  have c_x1_4 := x_x1.c 4 _ rfl
  have f_x1_4 := x_x1.f 4 _ rfl
  have c_x1_5 := x_x1.c 5 _ rfl
  have f_x1_5 := x_x1.f 5 _ rfl
  have t1 := hb.size
  try simp at t1
  clear hb
  go_wp2_with fail
  go_returns
  exact ⟨rfl, by go_grown⟩

set_option maxRecDepth 100000 in
set_option maxHeartbeats 1600000 in
theorem wait_some {bu ra pe le pt a c n : Int} (hb : Buc bu ra pe le pt a) (hc : 0 ≤ c) (hl : le < c) (ho : c ≤ bu) (hr : ra ≠ 0) (F1 : Hid (upV ((c - le) * pe - pt) ra = n)) (hn : isU n) (hm : n ≤ 18446744073709551615 - a) (w : World) :
    Calls Try.prog 18 #[.agg #[.int .i64 bu, .int .i64 ra, .int .i64 pe, .int .i64 le, .int .i64 pt, .int .u64 a], .int .i64 c] w fun e w' => e = .returned (.tuple #[.int .u64 n, .int .i64 0]) ∧ Below w.heap.size w w' := by
  have h := Lib.hid hb.ok
  have HB := Lib.hid hb
  have ht := hb.tick
  unfold isU at ht
  have wr : IntKind.u64.wrap (18446744073709551615 - a) = 18446744073709551615 - a := IntWalk.u64_in _ (by omega)
  have hl2 := Lib.hid hl
  have ho2 := Lib.hid ho
  have d1 : decide (c ≤ le) = false := decide_eq_false (by omega)
  have d2 : decide (bu < c) = false := decide_eq_false (by omega)
  have d3 : (ra == 0) = false := beq_eq_false_iff_ne.2 hr
  have d4 : decide (n ≤ 18446744073709551615 - a) = true := decide_eq_true hm
  clear hl ho hm hb
  go_enter Try.func18, Try.ntmps18
  go_wp2_with fail
  refine (cost_ok h hc _).mono ?_
  rintro e w1 ⟨rfl, hb⟩
  have hB1 : Below w.heap.size w w1 := below_thru (by go_grown) hb
  have hs1 : w.heap.size ≤ w1.heap.size := hB1.size
  have x_x1 : Box w1 (w.heap.size) [.int .i64 bu, .int .i64 ra, .int .i64 pe, .int .i64 le, .int .i64 pt, .int .u64 a] := (by refine Box.below ?_ hb; repeat (first | (with_reducible assumption) | (with_reducible refine Box.drew ?_) | (with_reducible refine Box.drewN ?_ _) | ((with_reducible refine Box.new ?_); simp; done) | (with_reducible apply Box.set2) | ((with_reducible apply Box.put); (with_reducible assumption); rfl) | (with_reducible refine Box.alloc ?_ _) | (with_reducible refine Box.other ?_ (by first | (dsimp only; omega) | omega) _)))
  have z_x1 := x_x1.lt
  have c_x1_0 := x_x1.c 0 _ rfl
  have f_x1_0 := x_x1.f 0 _ rfl
  have c_x1_1 := x_x1.c 1 _ rfl
  have f_x1_1 := x_x1.f 1 _ rfl
  have c_x1_2 := x_x1.c 2 _ rfl
  have f_x1_2 := x_x1.f 2 _ rfl
  have c_x1_3 := x_x1.c 3 _ rfl
  have f_x1_3 := x_x1.f 3 _ rfl
  have c_x1_4 := x_x1.c 4 _ rfl
  have f_x1_4 := x_x1.f 4 _ rfl
  have c_x1_5 := x_x1.c 5 _ rfl
  have f_x1_5 := x_x1.f 5 _ rfl
  have t1 := hb.size
  try simp at t1
  clear hb
  go_wp2_with fail
  refine (ticks_is HB.out ho2.out hl2.out hr F1 hn _).mono ?_
  rintro e w2 ⟨rfl, hb⟩
  have hB2 : Below w.heap.size w w2 := below_thru (by go_grown) hb
  have hs2 : w.heap.size ≤ w2.heap.size := hB2.size
  have x_x2 : Box w2 (w.heap.size) [.int .i64 bu, .int .i64 ra, .int .i64 pe, .int .i64 le, .int .i64 pt, .int .u64 a] := (by refine Box.below ?_ hb; repeat (first | (with_reducible assumption) | (with_reducible refine Box.drew ?_) | (with_reducible refine Box.drewN ?_ _) | ((with_reducible refine Box.new ?_); simp; done) | (with_reducible apply Box.set2) | ((with_reducible apply Box.put); (with_reducible assumption); rfl) | (with_reducible refine Box.alloc ?_ _) | (with_reducible refine Box.other ?_ (by first | (dsimp only; omega) | omega) _)))
  have z_x2 := x_x2.lt
  have c_x2_0 := x_x2.c 0 _ rfl
  have f_x2_0 := x_x2.f 0 _ rfl
  have c_x2_1 := x_x2.c 1 _ rfl
  have f_x2_1 := x_x2.f 1 _ rfl
  have c_x2_2 := x_x2.c 2 _ rfl
  have f_x2_2 := x_x2.f 2 _ rfl
  have c_x2_3 := x_x2.c 3 _ rfl
  have f_x2_3 := x_x2.f 3 _ rfl
  have c_x2_4 := x_x2.c 4 _ rfl
  have f_x2_4 := x_x2.f 4 _ rfl
  have c_x2_5 := x_x2.c 5 _ rfl
  have f_x2_5 := x_x2.f 5 _ rfl
  have t2 := hb.size
  try simp at t2
  clear hb hB1 hs1 x_x1 z_x1 c_x1_0 c_x1_1 c_x1_2 c_x1_3 c_x1_4 c_x1_5 f_x1_0 f_x1_1 f_x1_2 f_x1_3 f_x1_4 f_x1_5
  go_wp2_with fail
  go_returns
  exact ⟨rfl, by go_grown⟩

set_option maxRecDepth 100000 in
set_option maxHeartbeats 1600000 in
theorem wait_far {bu ra pe le pt a c n : Int} (hb : Buc bu ra pe le pt a) (hc : 0 ≤ c) (hl : le < c) (ho : c ≤ bu) (hr : ra ≠ 0) (F1 : Hid (upV ((c - le) * pe - pt) ra = n)) (hn : isU n) (hm : 18446744073709551615 - a < n) (w : World) :
    Calls Try.prog 18 #[.agg #[.int .i64 bu, .int .i64 ra, .int .i64 pe, .int .i64 le, .int .i64 pt, .int .u64 a], .int .i64 c] w fun e w' => e = .returned (.tuple #[.int .u64 18446744073709551615, .int .i64 0]) ∧ Below w.heap.size w w' := by
  have h := Lib.hid hb.ok
  have HB := Lib.hid hb
  have ht := hb.tick
  unfold isU at ht
  have wr : IntKind.u64.wrap (18446744073709551615 - a) = 18446744073709551615 - a := IntWalk.u64_in _ (by omega)
  have hl2 := Lib.hid hl
  have ho2 := Lib.hid ho
  have d1 : decide (c ≤ le) = false := decide_eq_false (by omega)
  have d2 : decide (bu < c) = false := decide_eq_false (by omega)
  have d3 : (ra == 0) = false := beq_eq_false_iff_ne.2 hr
  have d4 : decide (n ≤ 18446744073709551615 - a) = false := decide_eq_false (by omega)
  clear hl ho hm hb
  go_enter Try.func18, Try.ntmps18
  go_wp2_with fail
  refine (cost_ok h hc _).mono ?_
  rintro e w1 ⟨rfl, hb⟩
  have hB1 : Below w.heap.size w w1 := below_thru (by go_grown) hb
  have hs1 : w.heap.size ≤ w1.heap.size := hB1.size
  have x_x1 : Box w1 (w.heap.size) [.int .i64 bu, .int .i64 ra, .int .i64 pe, .int .i64 le, .int .i64 pt, .int .u64 a] := (by refine Box.below ?_ hb; repeat (first | (with_reducible assumption) | (with_reducible refine Box.drew ?_) | (with_reducible refine Box.drewN ?_ _) | ((with_reducible refine Box.new ?_); simp; done) | (with_reducible apply Box.set2) | ((with_reducible apply Box.put); (with_reducible assumption); rfl) | (with_reducible refine Box.alloc ?_ _) | (with_reducible refine Box.other ?_ (by first | (dsimp only; omega) | omega) _)))
  have z_x1 := x_x1.lt
  have c_x1_0 := x_x1.c 0 _ rfl
  have f_x1_0 := x_x1.f 0 _ rfl
  have c_x1_1 := x_x1.c 1 _ rfl
  have f_x1_1 := x_x1.f 1 _ rfl
  have c_x1_2 := x_x1.c 2 _ rfl
  have f_x1_2 := x_x1.f 2 _ rfl
  have c_x1_3 := x_x1.c 3 _ rfl
  have f_x1_3 := x_x1.f 3 _ rfl
  have c_x1_4 := x_x1.c 4 _ rfl
  have f_x1_4 := x_x1.f 4 _ rfl
  have c_x1_5 := x_x1.c 5 _ rfl
  have f_x1_5 := x_x1.f 5 _ rfl
  have t1 := hb.size
  try simp at t1
  clear hb
  go_wp2_with fail
  refine (ticks_is HB.out ho2.out hl2.out hr F1 hn _).mono ?_
  rintro e w2 ⟨rfl, hb⟩
  have hB2 : Below w.heap.size w w2 := below_thru (by go_grown) hb
  have hs2 : w.heap.size ≤ w2.heap.size := hB2.size
  have x_x2 : Box w2 (w.heap.size) [.int .i64 bu, .int .i64 ra, .int .i64 pe, .int .i64 le, .int .i64 pt, .int .u64 a] := (by refine Box.below ?_ hb; repeat (first | (with_reducible assumption) | (with_reducible refine Box.drew ?_) | (with_reducible refine Box.drewN ?_ _) | ((with_reducible refine Box.new ?_); simp; done) | (with_reducible apply Box.set2) | ((with_reducible apply Box.put); (with_reducible assumption); rfl) | (with_reducible refine Box.alloc ?_ _) | (with_reducible refine Box.other ?_ (by first | (dsimp only; omega) | omega) _)))
  have z_x2 := x_x2.lt
  have c_x2_0 := x_x2.c 0 _ rfl
  have f_x2_0 := x_x2.f 0 _ rfl
  have c_x2_1 := x_x2.c 1 _ rfl
  have f_x2_1 := x_x2.f 1 _ rfl
  have c_x2_2 := x_x2.c 2 _ rfl
  have f_x2_2 := x_x2.f 2 _ rfl
  have c_x2_3 := x_x2.c 3 _ rfl
  have f_x2_3 := x_x2.f 3 _ rfl
  have c_x2_4 := x_x2.c 4 _ rfl
  have f_x2_4 := x_x2.f 4 _ rfl
  have c_x2_5 := x_x2.c 5 _ rfl
  have f_x2_5 := x_x2.f 5 _ rfl
  have t2 := hb.size
  try simp at t2
  clear hb hB1 hs1 x_x1 z_x1 c_x1_0 c_x1_1 c_x1_2 c_x1_3 c_x1_4 c_x1_5 f_x1_0 f_x1_1 f_x1_2 f_x1_3 f_x1_4 f_x1_5
  go_wp2_with fail
  go_returns
  exact ⟨rfl, by go_grown⟩

theorem wait_ok {bu ra pe le pt a c n : Int} (hb : Buc bu ra pe le pt a) (hc : 0 ≤ c) (hn : Hid (IsWait bu ra pe le pt a c n)) (w : World) :
    Calls Try.prog 18 #[.agg #[.int .i64 bu, .int .i64 ra, .int .i64 pe, .int .i64 le, .int .i64 pt, .int .u64 a], .int .i64 c] w fun e w' =>
      e = .returned (.tuple #[.int .u64 n, .int .i64 0]) ∧ Below w.heap.size w w' := by
  have h := Lib.hid hb.ok
  obtain ⟨z1, z2, z3, z4, z5, z6⟩ := hb.nums
  have hl0 := hb.l0
  have hq0 := hb.q0
  have hq1 := hb.q1
  have ht := hb.tick
  unfold isU at ht
  by_cases c1 : c ≤ le
  · rw [hn.out.unique hb (isWait_zero hb c1)]
    exact wait_le h hc c1 w
  · by_cases c2 : bu < c
    · rw [hn.out.unique hb (isWait_never hb (.inl c2))]
      exact wait_over h hc (by omega) c2 w
    · have e1 : (c - le) * pe = c * pe - le * pe := Int.sub_mul c le pe
      have g1 : (c - le) * pe ≤ 1000000000 * 1000000000 := Int.mul_le_mul (by omega) (by omega) (by omega) (by omega)
      have g2 : 1 * pe ≤ (c - le) * pe := Int.mul_le_mul_of_nonneg_right (by omega) (by omega)
      have hvol : vol pe le pt = le * pe + pt := rfl
      by_cases c3 : ra = 0
      · rw [hn.out.unique hb (isWait_never hb (.inr (by rw [c3, Int.mul_zero]; omega)))]
        exact wait_still h hc (by omega) (by omega) c3 w
      · obtain ⟨m, em⟩ : ∃ m, upV ((c - le) * pe - pt) ra = m := ⟨_, rfl⟩
        obtain ⟨s1, s2, s3⟩ := up_spec (show 0 < ra by omega) (show 0 ≤ (c - le) * pe - pt by omega) em
        have s4 : m ≤ 1000000000000000000 := by
          rcases Int.lt_or_le 0 m with q | q
          · have := s2 q
            have := Int.mul_le_mul_of_nonneg_left (show 1 ≤ ra by omega) (show 0 ≤ m - 1 by omega)
            omega
          · omega
        have hu : isU m := by unfold isU; omega
        by_cases c4 : m ≤ 18446744073709551615 - a
        · rw [hn.out.unique hb (isWait_some hb (by omega) s3 c4 (by omega) (fun q => by have := s2 q; omega))]
          exact wait_some hb hc (by omega) (by omega) c3 (Lib.hid em) hu c4 w
        · have k1 : vol pe le pt + (18446744073709551615 - a) * ra < c * pe := by
            have := s2 (by omega)
            have := Int.mul_le_mul_of_nonneg_right (show 18446744073709551615 - a ≤ m - 1 by omega) z3
            omega
          rw [hn.out.unique hb (isWait_never hb (.inr k1))]
          exact wait_far hb hc (by omega) (by omega) c3 (Lib.hid em) hu (by omega) w

end Go.Proofs.Ytegbcagcfmijcaa
