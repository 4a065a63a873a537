/-
  BucketTwo, walked over the contracts of package bucket: it returns true.
-/
import Derived.Test.YtikhdfmdbpcajaaLawKit03
namespace Go.Proofs.Ytikhdfmdbpcajaa
open Go.RowKit

set_option maxRecDepth 100000 in
set_option maxHeartbeats 6400000 in
theorem two_bad {bu ra pe le pt a s t : Int} (h : Hid (bucE bu ra pe le pt = 8)) (w : World) :
    Calls Try.prog 6 #[.agg #[.int .i64 bu, .int .i64 ra, .int .i64 pe, .int .i64 le, .int .i64 pt, .int .u64 a], .int .u64 s, .int .u64 t] w fun e w' => e = .returned (.bool true) ∧ Below w.heap.size w w' := by
  go_enter Try.func6, Try.ntmps6
  go_wp2_with fail
  refine (rcheck_is h _).mono ?_
  rintro e w1 ⟨rfl, hb⟩
  have hB1 : Below w.heap.size w w1 := below_thru (by go_grown) hb
  have hs1 : w.heap.size ≤ w1.heap.size := hB1.size
  have x_x1 : Box w1 (w.heap.size) [.int .i64 bu, .int .i64 ra, .int .i64 pe, .int .i64 le, .int .i64 pt, .int .u64 a] := (by refine Box.below ?_ hb; repeat (first | (with_reducible assumption) | (with_reducible refine Box.drew ?_) | (with_reducible refine Box.drewN ?_ _) | ((with_reducible refine Box.new ?_); simp; done) | (with_reducible apply Box.set2) | ((with_reducible apply Box.put); (with_reducible assumption); rfl) | (with_reducible refine Box.alloc ?_ _) | (with_reducible refine Box.other ?_ (by first | (dsimp only; omega) | omega) _)))
  have z_x1 := x_x1.lt
  have c_x1_0 := x_x1.c 0 _ rfl
  have f_x1_0 := x_x1.f 0 _ rfl
  have c_x1_1 := x_x1.c 1 _ rfl
  have f_x1_1 := x_x1.f 1 _ rfl
  have c_x1_2 := x_x1.c 2 _ rfl
  have f_x1_2 := x_x1.f 2 _ rfl
  have c_x1_3 := x_x1.c 3 _ rfl
  have f_x1_3 := x_x1.f 3 _ rfl
  have c_x1_4 := x_x1.c 4 _ rfl
  have f_x1_4 := x_x1.f 4 _ rfl
  have c_x1_5 := x_x1.c 5 _ rfl
  have f_x1_5 := x_x1.f 5 _ rfl
  have t1 := hb.size
  try simp at t1
  clear hb
  go_wp2_with fail
  refine (alive03_any _).mono ?_
  rintro e w2 ⟨rfl, hb⟩
  have hB2 : Below w.heap.size w w2 := below_thru (by go_grown) hb
  have hs2 : w.heap.size ≤ w2.heap.size := hB2.size
  have x_x2 : Box w2 (w.heap.size) [.int .i64 bu, .int .i64 ra, .int .i64 pe, .int .i64 le, .int .i64 pt, .int .u64 a] := (by refine Box.below ?_ hb; repeat (first | (with_reducible assumption) | (with_reducible refine Box.drew ?_) | (with_reducible refine Box.drewN ?_ _) | ((with_reducible refine Box.new ?_); simp; done) | (with_reducible apply Box.set2) | ((with_reducible apply Box.put); (with_reducible assumption); rfl) | (with_reducible refine Box.alloc ?_ _) | (with_reducible refine Box.other ?_ (by first | (dsimp only; omega) | omega) _)))
  have z_x2 := x_x2.lt
  have c_x2_0 := x_x2.c 0 _ rfl
  have f_x2_0 := x_x2.f 0 _ rfl
  have c_x2_1 := x_x2.c 1 _ rfl
  have f_x2_1 := x_x2.f 1 _ rfl
  have c_x2_2 := x_x2.c 2 _ rfl
  have f_x2_2 := x_x2.f 2 _ rfl
  have c_x2_3 := x_x2.c 3 _ rfl
  have f_x2_3 := x_x2.f 3 _ rfl
  have c_x2_4 := x_x2.c 4 _ rfl
  have f_x2_4 := x_x2.f 4 _ rfl
  have c_x2_5 := x_x2.c 5 _ rfl
  have f_x2_5 := x_x2.f 5 _ rfl
  have t2 := hb.size
  try simp at t2
  clear hb hB1 hs1 x_x1 z_x1 c_x1_0 c_x1_1 c_x1_2 c_x1_3 c_x1_4 c_x1_5 f_x1_0 f_x1_1 f_x1_2 f_x1_3 f_x1_4 f_x1_5
  go_wp2_with fail
  go_returns
  exact ⟨rfl, by go_grown⟩

set_option maxRecDepth 100000 in
set_option maxHeartbeats 6400000 in
theorem two_s {bu ra pe le pt a s t : Int} (h : Hid (bucE bu ra pe le pt = 0)) (hs : s < a) (w : World) :
    Calls Try.prog 6 #[.agg #[.int .i64 bu, .int .i64 ra, .int .i64 pe, .int .i64 le, .int .i64 pt, .int .u64 a], .int .u64 s, .int .u64 t] w fun e w' => e = .returned (.bool true) ∧ Below w.heap.size w w' := by
  have d1 : decide (s < a) = true := decide_eq_true hs
  clear hs
  go_enter Try.func6, Try.ntmps6
  go_wp2_with fail
  refine (rcheck_is h _).mono ?_
  rintro e w1 ⟨rfl, hb⟩
  have hB1 : Below w.heap.size w w1 := below_thru (by go_grown) hb
  have hs1 : w.heap.size ≤ w1.heap.size := hB1.size
  have x_x1 : Box w1 (w.heap.size) [.int .i64 bu, .int .i64 ra, .int .i64 pe, .int .i64 le, .int .i64 pt, .int .u64 a] := (by refine Box.below ?_ hb; repeat (first | (with_reducible assumption) | (with_reducible refine Box.drew ?_) | (with_reducible refine Box.drewN ?_ _) | ((with_reducible refine Box.new ?_); simp; done) | (with_reducible apply Box.set2) | ((with_reducible apply Box.put); (with_reducible assumption); rfl) | (with_reducible refine Box.alloc ?_ _) | (with_reducible refine Box.other ?_ (by first | (dsimp only; omega) | omega) _)))
  have z_x1 := x_x1.lt
  have c_x1_0 := x_x1.c 0 _ rfl
  have f_x1_0 := x_x1.f 0 _ rfl
  have c_x1_1 := x_x1.c 1 _ rfl
  have f_x1_1 := x_x1.f 1 _ rfl
  have c_x1_2 := x_x1.c 2 _ rfl
  have f_x1_2 := x_x1.f 2 _ rfl
  have c_x1_3 := x_x1.c 3 _ rfl
  have f_x1_3 := x_x1.f 3 _ rfl
  have c_x1_4 := x_x1.c 4 _ rfl
  have f_x1_4 := x_x1.f 4 _ rfl
  have c_x1_5 := x_x1.c 5 _ rfl
  have f_x1_5 := x_x1.f 5 _ rfl
  have t1 := hb.size
  try simp at t1
  clear hb
  go_wp2_with fail
  refine (alive03_any _).mono ?_
  rintro e w2 ⟨rfl, hb⟩
  have hB2 : Below w.heap.size w w2 := below_thru (by go_grown) hb
  have hs2 : w.heap.size ≤ w2.heap.size := hB2.size
  have x_x2 : Box w2 (w.heap.size) [.int .i64 bu, .int .i64 ra, .int .i64 pe, .int .i64 le, .int .i64 pt, .int .u64 a] := (by refine Box.below ?_ hb; repeat (first | (with_reducible assumption) | (with_reducible refine Box.drew ?_) | (with_reducible refine Box.drewN ?_ _) | ((with_reducible refine Box.new ?_); simp; done) | (with_reducible apply Box.set2) | ((with_reducible apply Box.put); (with_reducible assumption); rfl) | (with_reducible refine Box.alloc ?_ _) | (with_reducible refine Box.other ?_ (by first | (dsimp only; omega) | omega) _)))
  have z_x2 := x_x2.lt
  have c_x2_0 := x_x2.c 0 _ rfl
  have f_x2_0 := x_x2.f 0 _ rfl
  have c_x2_1 := x_x2.c 1 _ rfl
  have f_x2_1 := x_x2.f 1 _ rfl
  have c_x2_2 := x_x2.c 2 _ rfl
  have f_x2_2 := x_x2.f 2 _ rfl
  have c_x2_3 := x_x2.c 3 _ rfl
  have f_x2_3 := x_x2.f 3 _ rfl
  have c_x2_4 := x_x2.c 4 _ rfl
  have f_x2_4 := x_x2.f 4 _ rfl
  have c_x2_5 := x_x2.c 5 _ rfl
  have f_x2_5 := x_x2.f 5 _ rfl
  have t2 := hb.size
  try simp at t2
  clear hb hB1 hs1 x_x1 z_x1 c_x1_0 c_x1_1 c_x1_2 c_x1_3 c_x1_4 c_x1_5 f_x1_0 f_x1_1 f_x1_2 f_x1_3 f_x1_4 f_x1_5
  go_wp2_with fail
  go_returns
  exact ⟨rfl, by go_grown⟩

set_option maxRecDepth 100000 in
set_option maxHeartbeats 6400000 in
theorem two_t {bu ra pe le pt a s t : Int} (h : Hid (bucE bu ra pe le pt = 0)) (hs : a ≤ s) (ht : t < s) (w : World) :
    Calls Try.prog 6 #[.agg #[.int .i64 bu, .int .i64 ra, .int .i64 pe, .int .i64 le, .int .i64 pt, .int .u64 a], .int .u64 s, .int .u64 t] w fun e w' => e = .returned (.bool true) ∧ Below w.heap.size w w' := by
  have d1 : decide (s < a) = false := decide_eq_false (by omega)
  have d2 : decide (t < s) = true := decide_eq_true ht
  clear hs ht
  go_enter Try.func6, Try.ntmps6
  go_wp2_with fail
  refine (rcheck_is h _).mono ?_
  rintro e w1 ⟨rfl, hb⟩
  have hB1 : Below w.heap.size w w1 := below_thru (by go_grown) hb
  have hs1 : w.heap.size ≤ w1.heap.size := hB1.size
  have x_x1 : Box w1 (w.heap.size) [.int .i64 bu, .int .i64 ra, .int .i64 pe, .int .i64 le, .int .i64 pt, .int .u64 a] := (by refine Box.below ?_ hb; repeat (first | (with_reducible assumption) | (with_reducible refine Box.drew ?_) | (with_reducible refine Box.drewN ?_ _) | ((with_reducible refine Box.new ?_); simp; done) | (with_reducible apply Box.set2) | ((with_reducible apply Box.put); (with_reducible assumption); rfl) | (with_reducible refine Box.alloc ?_ _) | (with_reducible refine Box.other ?_ (by first | (dsimp only; omega) | omega) _)))
  have z_x1 := x_x1.lt
  have c_x1_0 := x_x1.c 0 _ rfl
  have f_x1_0 := x_x1.f 0 _ rfl
  have c_x1_1 := x_x1.c 1 _ rfl
  have f_x1_1 := x_x1.f 1 _ rfl
  have c_x1_2 := x_x1.c 2 _ rfl
  have f_x1_2 := x_x1.f 2 _ rfl
  have c_x1_3 := x_x1.c 3 _ rfl
  have f_x1_3 := x_x1.f 3 _ rfl
  have c_x1_4 := x_x1.c 4 _ rfl
  have f_x1_4 := x_x1.f 4 _ rfl
  have c_x1_5 := x_x1.c 5 _ rfl
  have f_x1_5 := x_x1.f 5 _ rfl
  have t1 := hb.size
  try simp at t1
  clear hb
  go_wp2_with fail
  refine (alive03_any _).mono ?_
  rintro e w2 ⟨rfl, hb⟩
  have hB2 : Below w.heap.size w w2 := below_thru (by go_grown) hb
  have hs2 : w.heap.size ≤ w2.heap.size := hB2.size
  have x_x2 : Box w2 (w.heap.size) [.int .i64 bu, .int .i64 ra, .int .i64 pe, .int .i64 le, .int .i64 pt, .int .u64 a] := (by refine Box.below ?_ hb; repeat (first | (with_reducible assumption) | (with_reducible refine Box.drew ?_) | (with_reducible refine Box.drewN ?_ _) | ((with_reducible refine Box.new ?_); simp; done) | (with_reducible apply Box.set2) | ((with_reducible apply Box.put); (with_reducible assumption); rfl) | (with_reducible refine Box.alloc ?_ _) | (with_reducible refine Box.other ?_ (by first | (dsimp only; omega) | omega) _)))
  have z_x2 := x_x2.lt
  have c_x2_0 := x_x2.c 0 _ rfl
  have f_x2_0 := x_x2.f 0 _ rfl
  have c_x2_1 := x_x2.c 1 _ rfl
  have f_x2_1 := x_x2.f 1 _ rfl
  have c_x2_2 := x_x2.c 2 _ rfl
  have f_x2_2 := x_x2.f 2 _ rfl
  have c_x2_3 := x_x2.c 3 _ rfl
  have f_x2_3 := x_x2.f 3 _ rfl
  have c_x2_4 := x_x2.c 4 _ rfl
  have f_x2_4 := x_x2.f 4 _ rfl
  have c_x2_5 := x_x2.c 5 _ rfl
  have f_x2_5 := x_x2.f 5 _ rfl
  have t2 := hb.size
  try simp at t2
  clear hb hB1 hs1 x_x1 z_x1 c_x1_0 c_x1_1 c_x1_2 c_x1_3 c_x1_4 c_x1_5 f_x1_0 f_x1_1 f_x1_2 f_x1_3 f_x1_4 f_x1_5
  go_wp2_with fail
  go_returns
  exact ⟨rfl, by go_grown⟩

set_option maxRecDepth 100000 in
set_option maxHeartbeats 6400000 in
theorem two_full {bu ra pe le pt a s t L1 P1 lp v mh ml ah al lq tp cc : Int} (hb : Buc bu ra pe le pt a) (hc : Buc bu ra pe L1 P1 s) (hd : Buc bu ra pe bu 0 t) (has : a ≤ s) (hst : s ≤ t) (h1 : Hid (filL bu ra pe le pt a s = L1)) (h2 : Hid (filP bu ra pe le pt a s = P1)) (h3 : Hid (filL bu ra pe L1 P1 s t = bu)) (h4 : Hid (filP bu ra pe L1 P1 s t = 0)) (h5 : Hid (filL bu ra pe le pt a t = bu)) (h6 : Hid (filP bu ra pe le pt a t = 0)) (hm : L1 ≤ bu) (M1 : Hid (le * pe = wN 0 lp)) (A1 : Hid (wN 0 lp + wN 0 pt = wN 0 v)) (M2 : Hid ((t - a) * ra = wN mh ml)) (A2 : Hid (wN 0 v + wN mh ml = wN ah al)) (M3 : Hid (bu * pe = wN 0 lq)) (A3 : Hid (wN 0 lq + wN 0 0 = wN 0 tp)) (M4 : Hid (bu * pe = wN 0 tp)) (C : Hid (cmpI (wN ah al) (wN 0 tp) = cc)) (hcc : decide (0 ≤ cc) = true) (n1 : isU lp) (n2 : isU v) (n3 : isU mh) (n4 : isU ml) (n5 : isU ah) (n6 : isU al) (n7 : isU lq) (n8 : isU tp) (n9 : isU tp) (w : World) :
    Calls Try.prog 6 #[.agg #[.int .i64 bu, .int .i64 ra, .int .i64 pe, .int .i64 le, .int .i64 pt, .int .u64 a], .int .u64 s, .int .u64 t] w fun e w' => e = .returned (.bool true) ∧ Below w.heap.size w w' := by
  obtain ⟨z1, z2, z3, z4, z5, z6⟩ := hb.nums
  have H := Lib.hid hb.ok
  have HC := Lib.hid hc.ok
  have HD := Lib.hid hd.ok
  have b1 := hb.l0
  have b2 := hb.l1
  have b3 := hb.q0
  have b4 := hb.q1
  have b5 := hd.l0
  have b6 := hd.l1
  have b7 := hd.q0
  have b8 := hd.q1
  have ta := hb.tick
  have ts := hc.tick
  have tt := hd.tick
  have c1 := hc.l0
  have c2 := hc.l1
  have HB := Lib.hid hb
  have HC2 := Lib.hid hc
  have F1 := Lib.hid (show filA a s = s from if_neg (by omega))
  have F2 := Lib.hid (show filA s t = t from if_neg (by omega))
  have F3 := Lib.hid (show filA a t = t from if_neg (by omega))
  have d1 : decide (s < a) = false := decide_eq_false (by omega)
  have d2 : decide (t < s) = false := decide_eq_false (by omega)
  have d3 : decide (bu < L1) = false := decide_eq_false (by omega)
  have u1 : IntKind.u64.wrap le = le := IntWalk.u64_in _ (by omega)
  have u2 : IntKind.u64.wrap pe = pe := IntWalk.u64_in _ (by omega)
  have u3 : IntKind.u64.wrap pt = pt := IntWalk.u64_in _ (by omega)
  have u4 : IntKind.u64.wrap ra = ra := IntWalk.u64_in _ (by omega)
  have u5 : IntKind.u64.wrap bu = bu := IntWalk.u64_in _ (by omega)
  have k1 : isU le := by unfold isU; omega
  have k2 : isU pe := by unfold isU; omega
  have k3 : isU pt := by unfold isU; omega
  have k4 : isU ra := by unfold isU; omega
  have k5 : isU bu := by unfold isU; omega
  have k6 : isU (t - a) := by unfold isU at *; omega
  have k7 : isU bu := by unfold isU; omega
  have k8 : isU 0 := by unfold isU; omega
  have u8 : IntKind.u64.wrap (t - a) = t - a := IntWalk.u64_in _ (by unfold isU at k6; omega)
  clear hb hc hd hm has hst
  go_enter Try.func6, Try.ntmps6
  go_wp2_with fail
  refine (rcheck_is H _).mono ?_
  rintro e w1 ⟨rfl, hb⟩
  have hB1 : Below w.heap.size w w1 := below_thru (by go_grown) hb
  have hs1 : w.heap.size ≤ w1.heap.size := hB1.size
  have x_x1 : Box w1 (w.heap.size) [.int .i64 bu, .int .i64 ra, .int .i64 pe, .int .i64 le, .int .i64 pt, .int .u64 a] := (by refine Box.below ?_ hb; repeat (first | (with_reducible assumption) | (with_reducible refine Box.drew ?_) | (with_reducible refine Box.drewN ?_ _) | ((with_reducible refine Box.new ?_); simp; done) | (with_reducible apply Box.set2) | ((with_reducible apply Box.put); (with_reducible assumption); rfl) | (with_reducible refine Box.alloc ?_ _) | (with_reducible refine Box.other ?_ (by first | (dsimp only; omega) | omega) _)))
  have z_x1 := x_x1.lt
  have c_x1_0 := x_x1.c 0 _ rfl
  have f_x1_0 := x_x1.f 0 _ rfl
  have c_x1_1 := x_x1.c 1 _ rfl
  have f_x1_1 := x_x1.f 1 _ rfl
  have c_x1_2 := x_x1.c 2 _ rfl
  have f_x1_2 := x_x1.f 2 _ rfl
  have c_x1_3 := x_x1.c 3 _ rfl
  have f_x1_3 := x_x1.f 3 _ rfl
  have c_x1_4 := x_x1.c 4 _ rfl
  have f_x1_4 := x_x1.f 4 _ rfl
  have c_x1_5 := x_x1.c 5 _ rfl
  have f_x1_5 := x_x1.f 5 _ rfl
  have t1 := hb.size
  try simp at t1
  clear hb
  go_wp2_with fail
  refine (refill_ok HB.out ts h1 h2 F1 _).mono ?_
  rintro e w2 ⟨rfl, hb⟩
  have hB2 : Below w.heap.size w w2 := below_thru (by go_grown) hb
  have hs2 : w.heap.size ≤ w2.heap.size := hB2.size
  have x_x2 : Box w2 (w.heap.size) [.int .i64 bu, .int .i64 ra, .int .i64 pe, .int .i64 le, .int .i64 pt, .int .u64 a] := (by refine Box.below ?_ hb; repeat (first | (with_reducible assumption) | (with_reducible refine Box.drew ?_) | (with_reducible refine Box.drewN ?_ _) | ((with_reducible refine Box.new ?_); simp; done) | (with_reducible apply Box.set2) | ((with_reducible apply Box.put); (with_reducible assumption); rfl) | (with_reducible refine Box.alloc ?_ _) | (with_reducible refine Box.other ?_ (by first | (dsimp only; omega) | omega) _)))
  have z_x2 := x_x2.lt
  have c_x2_0 := x_x2.c 0 _ rfl
  have f_x2_0 := x_x2.f 0 _ rfl
  have c_x2_1 := x_x2.c 1 _ rfl
  have f_x2_1 := x_x2.f 1 _ rfl
  have c_x2_2 := x_x2.c 2 _ rfl
  have f_x2_2 := x_x2.f 2 _ rfl
  have c_x2_3 := x_x2.c 3 _ rfl
  have f_x2_3 := x_x2.f 3 _ rfl
  have c_x2_4 := x_x2.c 4 _ rfl
  have f_x2_4 := x_x2.f 4 _ rfl
  have c_x2_5 := x_x2.c 5 _ rfl
  have f_x2_5 := x_x2.f 5 _ rfl
  have t2 := hb.size
  try simp at t2
  clear hb hB1 hs1 x_x1 z_x1 c_x1_0 c_x1_1 c_x1_2 c_x1_3 c_x1_4 c_x1_5 f_x1_0 f_x1_1 f_x1_2 f_x1_3 f_x1_4 f_x1_5
  go_upto_region 4 with fail
  have x_c70 : Box (w2.alloc (.cells #[.int .i64 bu, .int .i64 ra, .int .i64 pe, .int .i64 L1, .int .i64 P1, .int .u64 s] 27)) w2.heap.size [.int .i64 bu, .int .i64 ra, .int .i64 pe, .int .i64 L1, .int .i64 P1, .int .u64 s] := Box.new rfl
  have x_x70 := Box.alloc x_x2 (.cells #[.int .i64 bu, .int .i64 ra, .int .i64 pe, .int .i64 L1, .int .i64 P1, .int .u64 s] 27)
  have hB70 := hB2.alloc hs2 (.cells #[.int .i64 bu, .int .i64 ra, .int .i64 pe, .int .i64 L1, .int .i64 P1, .int .u64 s] 27)
  have hs70 := hB70.size
  obtain ⟨w70, h9⟩ : ∃ W, w2.alloc (.cells #[.int .i64 bu, .int .i64 ra, .int .i64 pe, .int .i64 L1, .int .i64 P1, .int .u64 s] 27) = W := ⟨_, rfl⟩
  rw [h9] at x_c70 x_x70 hB70 hs70 ⊢
  clear hB2 hs2 h9 x_x2 z_x2 c_x2_0 c_x2_1 c_x2_2 c_x2_3 c_x2_4 c_x2_5 f_x2_0 f_x2_1 f_x2_2 f_x2_3 f_x2_4 f_x2_5
  have z_x70 := x_x70.lt
  have c_x70_0 := x_x70.c 0 _ rfl; have f_x70_0 := x_x70.f 0 _ rfl
  have c_x70_1 := x_x70.c 1 _ rfl; have f_x70_1 := x_x70.f 1 _ rfl
  have c_x70_2 := x_x70.c 2 _ rfl; have f_x70_2 := x_x70.f 2 _ rfl
  have c_x70_3 := x_x70.c 3 _ rfl; have f_x70_3 := x_x70.f 3 _ rfl
  have c_x70_4 := x_x70.c 4 _ rfl; have f_x70_4 := x_x70.f 4 _ rfl
  have c_x70_5 := x_x70.c 5 _ rfl; have f_x70_5 := x_x70.f 5 _ rfl
  have z_c70 := x_c70.lt
  have c_c70_0 := x_c70.c 0 _ rfl; have f_c70_0 := x_c70.f 0 _ rfl
  have c_c70_1 := x_c70.c 1 _ rfl; have f_c70_1 := x_c70.f 1 _ rfl
  have c_c70_2 := x_c70.c 2 _ rfl; have f_c70_2 := x_c70.f 2 _ rfl
  have c_c70_3 := x_c70.c 3 _ rfl; have f_c70_3 := x_c70.f 3 _ rfl
  have c_c70_4 := x_c70.c 4 _ rfl; have f_c70_4 := x_c70.f 4 _ rfl
  have c_c70_5 := x_c70.c 5 _ rfl; have f_c70_5 := x_c70.f 5 _ rfl
  go_wp2_with fail
  refine (refill_ok HC2.out tt h3 h4 F2 _).mono ?_
  rintro e w71 ⟨rfl, hb⟩
  have hB71 : Below w.heap.size w w71 := below_thru (by go_grown) hb
  have hs71 : w.heap.size ≤ w71.heap.size := hB71.size
  have x_x71 : Box w71 (w.heap.size) [.int .i64 bu, .int .i64 ra, .int .i64 pe, .int .i64 le, .int .i64 pt, .int .u64 a] := (by refine Box.below ?_ hb; repeat (first | (with_reducible assumption) | (with_reducible refine Box.drew ?_) | (with_reducible refine Box.drewN ?_ _) | ((with_reducible refine Box.new ?_); simp; done) | (with_reducible apply Box.set2) | ((with_reducible apply Box.put); (with_reducible assumption); rfl) | (with_reducible refine Box.alloc ?_ _) | (with_reducible refine Box.other ?_ (by first | (dsimp only; omega) | omega) _)))
  have z_x71 := x_x71.lt
  have c_x71_0 := x_x71.c 0 _ rfl
  have f_x71_0 := x_x71.f 0 _ rfl
  have c_x71_1 := x_x71.c 1 _ rfl
  have f_x71_1 := x_x71.f 1 _ rfl
  have c_x71_2 := x_x71.c 2 _ rfl
  have f_x71_2 := x_x71.f 2 _ rfl
  have c_x71_3 := x_x71.c 3 _ rfl
  have f_x71_3 := x_x71.f 3 _ rfl
  have c_x71_4 := x_x71.c 4 _ rfl
  have f_x71_4 := x_x71.f 4 _ rfl
  have c_x71_5 := x_x71.c 5 _ rfl
  have f_x71_5 := x_x71.f 5 _ rfl
  have x_c71 : Box w71 (w2.heap.size) [.int .i64 bu, .int .i64 ra, .int .i64 pe, .int .i64 L1, .int .i64 P1, .int .u64 s] := (by refine Box.below ?_ hb; repeat (first | (with_reducible assumption) | (with_reducible refine Box.drew ?_) | (with_reducible refine Box.drewN ?_ _) | ((with_reducible refine Box.new ?_); simp; done) | (with_reducible apply Box.set2) | ((with_reducible apply Box.put); (with_reducible assumption); rfl) | (with_reducible refine Box.alloc ?_ _) | (with_reducible refine Box.other ?_ (by first | (dsimp only; omega) | omega) _)))
  have z_c71 := x_c71.lt
  have c_c71_0 := x_c71.c 0 _ rfl
  have f_c71_0 := x_c71.f 0 _ rfl
  have c_c71_1 := x_c71.c 1 _ rfl
  have f_c71_1 := x_c71.f 1 _ rfl
  have c_c71_2 := x_c71.c 2 _ rfl
  have f_c71_2 := x_c71.f 2 _ rfl
  have c_c71_3 := x_c71.c 3 _ rfl
  have f_c71_3 := x_c71.f 3 _ rfl
  have c_c71_4 := x_c71.c 4 _ rfl
  have f_c71_4 := x_c71.f 4 _ rfl
  have c_c71_5 := x_c71.c 5 _ rfl
  have f_c71_5 := x_c71.f 5 _ rfl
  have t71 := hb.size
  try simp at t71
  clear hb hB70 hs70 x_x70 z_x70 c_x70_0 c_x70_1 c_x70_2 c_x70_3 c_x70_4 c_x70_5 f_x70_0 f_x70_1 f_x70_2 f_x70_3 f_x70_4 f_x70_5 x_c70 z_c70 c_c70_0 c_c70_1 c_c70_2 c_c70_3 c_c70_4 c_c70_5 f_c70_0 f_c70_1 f_c70_2 f_c70_3 f_c70_4 f_c70_5
  go_upto_region 5 with fail
  have x_d80 : Box (w71.alloc (.cells #[.int .i64 bu, .int .i64 ra, .int .i64 pe, .int .i64 bu, .int .i64 0, .int .u64 t] 27)) w71.heap.size [.int .i64 bu, .int .i64 ra, .int .i64 pe, .int .i64 bu, .int .i64 0, .int .u64 t] := Box.new rfl
  have x_x80 := Box.alloc x_x71 (.cells #[.int .i64 bu, .int .i64 ra, .int .i64 pe, .int .i64 bu, .int .i64 0, .int .u64 t] 27)
  have x_c80 := Box.alloc x_c71 (.cells #[.int .i64 bu, .int .i64 ra, .int .i64 pe, .int .i64 bu, .int .i64 0, .int .u64 t] 27)
  have hB80 := hB71.alloc hs71 (.cells #[.int .i64 bu, .int .i64 ra, .int .i64 pe, .int .i64 bu, .int .i64 0, .int .u64 t] 27)
  have hs80 := hB80.size
  obtain ⟨w80, h9⟩ : ∃ W, w71.alloc (.cells #[.int .i64 bu, .int .i64 ra, .int .i64 pe, .int .i64 bu, .int .i64 0, .int .u64 t] 27) = W := ⟨_, rfl⟩
  rw [h9] at x_d80 x_x80 x_c80 hB80 hs80 ⊢
  clear hB71 hs71 h9 x_x71 z_x71 c_x71_0 c_x71_1 c_x71_2 c_x71_3 c_x71_4 c_x71_5 f_x71_0 f_x71_1 f_x71_2 f_x71_3 f_x71_4 f_x71_5 x_c71 z_c71 c_c71_0 c_c71_1 c_c71_2 c_c71_3 c_c71_4 c_c71_5 f_c71_0 f_c71_1 f_c71_2 f_c71_3 f_c71_4 f_c71_5
  have z_x80 := x_x80.lt
  have c_x80_0 := x_x80.c 0 _ rfl; have f_x80_0 := x_x80.f 0 _ rfl
  have c_x80_1 := x_x80.c 1 _ rfl; have f_x80_1 := x_x80.f 1 _ rfl
  have c_x80_2 := x_x80.c 2 _ rfl; have f_x80_2 := x_x80.f 2 _ rfl
  have c_x80_3 := x_x80.c 3 _ rfl; have f_x80_3 := x_x80.f 3 _ rfl
  have c_x80_4 := x_x80.c 4 _ rfl; have f_x80_4 := x_x80.f 4 _ rfl
  have c_x80_5 := x_x80.c 5 _ rfl; have f_x80_5 := x_x80.f 5 _ rfl
  have z_c80 := x_c80.lt
  have c_c80_0 := x_c80.c 0 _ rfl; have f_c80_0 := x_c80.f 0 _ rfl
  have c_c80_1 := x_c80.c 1 _ rfl; have f_c80_1 := x_c80.f 1 _ rfl
  have c_c80_2 := x_c80.c 2 _ rfl; have f_c80_2 := x_c80.f 2 _ rfl
  have c_c80_3 := x_c80.c 3 _ rfl; have f_c80_3 := x_c80.f 3 _ rfl
  have c_c80_4 := x_c80.c 4 _ rfl; have f_c80_4 := x_c80.f 4 _ rfl
  have c_c80_5 := x_c80.c 5 _ rfl; have f_c80_5 := x_c80.f 5 _ rfl
  have z_d80 := x_d80.lt
  have c_d80_0 := x_d80.c 0 _ rfl; have f_d80_0 := x_d80.f 0 _ rfl
  have c_d80_1 := x_d80.c 1 _ rfl; have f_d80_1 := x_d80.f 1 _ rfl
  have c_d80_2 := x_d80.c 2 _ rfl; have f_d80_2 := x_d80.f 2 _ rfl
  have c_d80_3 := x_d80.c 3 _ rfl; have f_d80_3 := x_d80.f 3 _ rfl
  have c_d80_4 := x_d80.c 4 _ rfl; have f_d80_4 := x_d80.f 4 _ rfl
  have c_d80_5 := x_d80.c 5 _ rfl; have f_d80_5 := x_d80.f 5 _ rfl
  go_wp2_with fail
  refine (refill_ok HB.out tt h5 h6 F3 _).mono ?_
  rintro e w81 ⟨rfl, hb⟩
  have hB81 : Below w.heap.size w w81 := below_thru (by go_grown) hb
  have hs81 : w.heap.size ≤ w81.heap.size := hB81.size
  have x_x81 : Box w81 (w.heap.size) [.int .i64 bu, .int .i64 ra, .int .i64 pe, .int .i64 le, .int .i64 pt, .int .u64 a] := (by refine Box.below ?_ hb; repeat (first | (with_reducible assumption) | (with_reducible refine Box.drew ?_) | (with_reducible refine Box.drewN ?_ _) | ((with_reducible refine Box.new ?_); simp; done) | (with_reducible apply Box.set2) | ((with_reducible apply Box.put); (with_reducible assumption); rfl) | (with_reducible refine Box.alloc ?_ _) | (with_reducible refine Box.other ?_ (by first | (dsimp only; omega) | omega) _)))
  have z_x81 := x_x81.lt
  have c_x81_0 := x_x81.c 0 _ rfl
  have f_x81_0 := x_x81.f 0 _ rfl
  have c_x81_1 := x_x81.c 1 _ rfl
  have f_x81_1 := x_x81.f 1 _ rfl
  have c_x81_2 := x_x81.c 2 _ rfl
  have f_x81_2 := x_x81.f 2 _ rfl
  have c_x81_3 := x_x81.c 3 _ rfl
  have f_x81_3 := x_x81.f 3 _ rfl
  have c_x81_4 := x_x81.c 4 _ rfl
  have f_x81_4 := x_x81.f 4 _ rfl
  have c_x81_5 := x_x81.c 5 _ rfl
  have f_x81_5 := x_x81.f 5 _ rfl
  have x_c81 : Box w81 (w2.heap.size) [.int .i64 bu, .int .i64 ra, .int .i64 pe, .int .i64 L1, .int .i64 P1, .int .u64 s] := (by refine Box.below ?_ hb; repeat (first | (with_reducible assumption) | (with_reducible refine Box.drew ?_) | (with_reducible refine Box.drewN ?_ _) | ((with_reducible refine Box.new ?_); simp; done) | (with_reducible apply Box.set2) | ((with_reducible apply Box.put); (with_reducible assumption); rfl) | (with_reducible refine Box.alloc ?_ _) | (with_reducible refine Box.other ?_ (by first | (dsimp only; omega) | omega) _)))
  have z_c81 := x_c81.lt
  have c_c81_0 := x_c81.c 0 _ rfl
  have f_c81_0 := x_c81.f 0 _ rfl
  have c_c81_1 := x_c81.c 1 _ rfl
  have f_c81_1 := x_c81.f 1 _ rfl
  have c_c81_2 := x_c81.c 2 _ rfl
  have f_c81_2 := x_c81.f 2 _ rfl
  have c_c81_3 := x_c81.c 3 _ rfl
  have f_c81_3 := x_c81.f 3 _ rfl
  have c_c81_4 := x_c81.c 4 _ rfl
  have f_c81_4 := x_c81.f 4 _ rfl
  have c_c81_5 := x_c81.c 5 _ rfl
  have f_c81_5 := x_c81.f 5 _ rfl
  have x_d81 : Box w81 (w71.heap.size) [.int .i64 bu, .int .i64 ra, .int .i64 pe, .int .i64 bu, .int .i64 0, .int .u64 t] := (by refine Box.below ?_ hb; repeat (first | (with_reducible assumption) | (with_reducible refine Box.drew ?_) | (with_reducible refine Box.drewN ?_ _) | ((with_reducible refine Box.new ?_); simp; done) | (with_reducible apply Box.set2) | ((with_reducible apply Box.put); (with_reducible assumption); rfl) | (with_reducible refine Box.alloc ?_ _) | (with_reducible refine Box.other ?_ (by first | (dsimp only; omega) | omega) _)))
  have z_d81 := x_d81.lt
  have c_d81_0 := x_d81.c 0 _ rfl
  have f_d81_0 := x_d81.f 0 _ rfl
  have c_d81_1 := x_d81.c 1 _ rfl
  have f_d81_1 := x_d81.f 1 _ rfl
  have c_d81_2 := x_d81.c 2 _ rfl
  have f_d81_2 := x_d81.f 2 _ rfl
  have c_d81_3 := x_d81.c 3 _ rfl
  have f_d81_3 := x_d81.f 3 _ rfl
  have c_d81_4 := x_d81.c 4 _ rfl
  have f_d81_4 := x_d81.f 4 _ rfl
  have c_d81_5 := x_d81.c 5 _ rfl
  have f_d81_5 := x_d81.f 5 _ rfl
  have t81 := hb.size
  try simp at t81
  clear hb hB80 hs80 x_x80 z_x80 c_x80_0 c_x80_1 c_x80_2 c_x80_3 c_x80_4 c_x80_5 f_x80_0 f_x80_1 f_x80_2 f_x80_3 f_x80_4 f_x80_5 x_c80 z_c80 c_c80_0 c_c80_1 c_c80_2 c_c80_3 c_c80_4 c_c80_5 f_c80_0 f_c80_1 f_c80_2 f_c80_3 f_c80_4 f_c80_5 x_d80 z_d80 c_d80_0 c_d80_1 c_d80_2 c_d80_3 c_d80_4 c_d80_5 f_d80_0 f_d80_1 f_d80_2 f_d80_3 f_d80_4 f_d80_5
  go_upto_region 6 with fail
  have x_o90 : Box (w81.alloc (.cells #[.int .i64 bu, .int .i64 ra, .int .i64 pe, .int .i64 bu, .int .i64 0, .int .u64 t] 27)) w81.heap.size [.int .i64 bu, .int .i64 ra, .int .i64 pe, .int .i64 bu, .int .i64 0, .int .u64 t] := Box.new rfl
  have x_x90 := Box.alloc x_x81 (.cells #[.int .i64 bu, .int .i64 ra, .int .i64 pe, .int .i64 bu, .int .i64 0, .int .u64 t] 27)
  have x_c90 := Box.alloc x_c81 (.cells #[.int .i64 bu, .int .i64 ra, .int .i64 pe, .int .i64 bu, .int .i64 0, .int .u64 t] 27)
  have x_d90 := Box.alloc x_d81 (.cells #[.int .i64 bu, .int .i64 ra, .int .i64 pe, .int .i64 bu, .int .i64 0, .int .u64 t] 27)
  have hB90 := hB81.alloc hs81 (.cells #[.int .i64 bu, .int .i64 ra, .int .i64 pe, .int .i64 bu, .int .i64 0, .int .u64 t] 27)
  have hs90 := hB90.size
  obtain ⟨w90, h9⟩ : ∃ W, w81.alloc (.cells #[.int .i64 bu, .int .i64 ra, .int .i64 pe, .int .i64 bu, .int .i64 0, .int .u64 t] 27) = W := ⟨_, rfl⟩
  rw [h9] at x_o90 x_x90 x_c90 x_d90 hB90 hs90 ⊢
  clear hB81 hs81 h9 x_x81 z_x81 c_x81_0 c_x81_1 c_x81_2 c_x81_3 c_x81_4 c_x81_5 f_x81_0 f_x81_1 f_x81_2 f_x81_3 f_x81_4 f_x81_5 x_c81 z_c81 c_c81_0 c_c81_1 c_c81_2 c_c81_3 c_c81_4 c_c81_5 f_c81_0 f_c81_1 f_c81_2 f_c81_3 f_c81_4 f_c81_5 x_d81 z_d81 c_d81_0 c_d81_1 c_d81_2 c_d81_3 c_d81_4 c_d81_5 f_d81_0 f_d81_1 f_d81_2 f_d81_3 f_d81_4 f_d81_5
  have z_x90 := x_x90.lt
  have c_x90_0 := x_x90.c 0 _ rfl; have f_x90_0 := x_x90.f 0 _ rfl
  have c_x90_1 := x_x90.c 1 _ rfl; have f_x90_1 := x_x90.f 1 _ rfl
  have c_x90_2 := x_x90.c 2 _ rfl; have f_x90_2 := x_x90.f 2 _ rfl
  have c_x90_3 := x_x90.c 3 _ rfl; have f_x90_3 := x_x90.f 3 _ rfl
  have c_x90_4 := x_x90.c 4 _ rfl; have f_x90_4 := x_x90.f 4 _ rfl
  have c_x90_5 := x_x90.c 5 _ rfl; have f_x90_5 := x_x90.f 5 _ rfl
  have z_c90 := x_c90.lt
  have c_c90_0 := x_c90.c 0 _ rfl; have f_c90_0 := x_c90.f 0 _ rfl
  have c_c90_1 := x_c90.c 1 _ rfl; have f_c90_1 := x_c90.f 1 _ rfl
  have c_c90_2 := x_c90.c 2 _ rfl; have f_c90_2 := x_c90.f 2 _ rfl
  have c_c90_3 := x_c90.c 3 _ rfl; have f_c90_3 := x_c90.f 3 _ rfl
  have c_c90_4 := x_c90.c 4 _ rfl; have f_c90_4 := x_c90.f 4 _ rfl
  have c_c90_5 := x_c90.c 5 _ rfl; have f_c90_5 := x_c90.f 5 _ rfl
  have z_d90 := x_d90.lt
  have c_d90_0 := x_d90.c 0 _ rfl; have f_d90_0 := x_d90.f 0 _ rfl
  have c_d90_1 := x_d90.c 1 _ rfl; have f_d90_1 := x_d90.f 1 _ rfl
  have c_d90_2 := x_d90.c 2 _ rfl; have f_d90_2 := x_d90.f 2 _ rfl
  have c_d90_3 := x_d90.c 3 _ rfl; have f_d90_3 := x_d90.f 3 _ rfl
  have c_d90_4 := x_d90.c 4 _ rfl; have f_d90_4 := x_d90.f 4 _ rfl
  have c_d90_5 := x_d90.c 5 _ rfl; have f_d90_5 := x_d90.f 5 _ rfl
  have z_o90 := x_o90.lt
  have c_o90_0 := x_o90.c 0 _ rfl; have f_o90_0 := x_o90.f 0 _ rfl
  have c_o90_1 := x_o90.c 1 _ rfl; have f_o90_1 := x_o90.f 1 _ rfl
  have c_o90_2 := x_o90.c 2 _ rfl; have f_o90_2 := x_o90.f 2 _ rfl
  have c_o90_3 := x_o90.c 3 _ rfl; have f_o90_3 := x_o90.f 3 _ rfl
  have c_o90_4 := x_o90.c 4 _ rfl; have f_o90_4 := x_o90.f 4 _ rfl
  have c_o90_5 := x_o90.c 5 _ rfl; have f_o90_5 := x_o90.f 5 _ rfl
  go_wp2_with fail
  refine (rcheck_is HC _).mono ?_
  rintro e w91 ⟨rfl, hb⟩
  have hB91 : Below w.heap.size w w91 := below_thru (by go_grown) hb
  have hs91 : w.heap.size ≤ w91.heap.size := hB91.size
  have x_x91 : Box w91 (w.heap.size) [.int .i64 bu, .int .i64 ra, .int .i64 pe, .int .i64 le, .int .i64 pt, .int .u64 a] := (by refine Box.below ?_ hb; repeat (first | (with_reducible assumption) | (with_reducible refine Box.drew ?_) | (with_reducible refine Box.drewN ?_ _) | ((with_reducible refine Box.new ?_); simp; done) | (with_reducible apply Box.set2) | ((with_reducible apply Box.put); (with_reducible assumption); rfl) | (with_reducible refine Box.alloc ?_ _) | (with_reducible refine Box.other ?_ (by first | (dsimp only; omega) | omega) _)))
  have z_x91 := x_x91.lt
  have c_x91_0 := x_x91.c 0 _ rfl
  have f_x91_0 := x_x91.f 0 _ rfl
  have c_x91_1 := x_x91.c 1 _ rfl
  have f_x91_1 := x_x91.f 1 _ rfl
  have c_x91_2 := x_x91.c 2 _ rfl
  have f_x91_2 := x_x91.f 2 _ rfl
  have c_x91_3 := x_x91.c 3 _ rfl
  have f_x91_3 := x_x91.f 3 _ rfl
  have c_x91_4 := x_x91.c 4 _ rfl
  have f_x91_4 := x_x91.f 4 _ rfl
  have c_x91_5 := x_x91.c 5 _ rfl
  have f_x91_5 := x_x91.f 5 _ rfl
  have x_c91 : Box w91 (w2.heap.size) [.int .i64 bu, .int .i64 ra, .int .i64 pe, .int .i64 L1, .int .i64 P1, .int .u64 s] := (by refine Box.below ?_ hb; repeat (first | (with_reducible assumption) | (with_reducible refine Box.drew ?_) | (with_reducible refine Box.drewN ?_ _) | ((with_reducible refine Box.new ?_); simp; done) | (with_reducible apply Box.set2) | ((with_reducible apply Box.put); (with_reducible assumption); rfl) | (with_reducible refine Box.alloc ?_ _) | (with_reducible refine Box.other ?_ (by first | (dsimp only; omega) | omega) _)))
  have z_c91 := x_c91.lt
  have c_c91_0 := x_c91.c 0 _ rfl
  have f_c91_0 := x_c91.f 0 _ rfl
  have c_c91_1 := x_c91.c 1 _ rfl
  have f_c91_1 := x_c91.f 1 _ rfl
  have c_c91_2 := x_c91.c 2 _ rfl
  have f_c91_2 := x_c91.f 2 _ rfl
  have c_c91_3 := x_c91.c 3 _ rfl
  have f_c91_3 := x_c91.f 3 _ rfl
  have c_c91_4 := x_c91.c 4 _ rfl
  have f_c91_4 := x_c91.f 4 _ rfl
  have c_c91_5 := x_c91.c 5 _ rfl
  have f_c91_5 := x_c91.f 5 _ rfl
  have x_d91 : Box w91 (w71.heap.size) [.int .i64 bu, .int .i64 ra, .int .i64 pe, .int .i64 bu, .int .i64 0, .int .u64 t] := (by refine Box.below ?_ hb; repeat (first | (with_reducible assumption) | (with_reducible refine Box.drew ?_) | (with_reducible refine Box.drewN ?_ _) | ((with_reducible refine Box.new ?_); simp; done) | (with_reducible apply Box.set2) | ((with_reducible apply Box.put); (with_reducible assumption); rfl) | (with_reducible refine Box.alloc ?_ _) | (with_reducible refine Box.other ?_ (by first | (dsimp only; omega) | omega) _)))
  have z_d91 := x_d91.lt
  have c_d91_0 := x_d91.c 0 _ rfl
  have f_d91_0 := x_d91.f 0 _ rfl
  have c_d91_1 := x_d91.c 1 _ rfl
  have f_d91_1 := x_d91.f 1 _ rfl
  have c_d91_2 := x_d91.c 2 _ rfl
  have f_d91_2 := x_d91.f 2 _ rfl
  have c_d91_3 := x_d91.c 3 _ rfl
  have f_d91_3 := x_d91.f 3 _ rfl
  have c_d91_4 := x_d91.c 4 _ rfl
  have f_d91_4 := x_d91.f 4 _ rfl
  have c_d91_5 := x_d91.c 5 _ rfl
  have f_d91_5 := x_d91.f 5 _ rfl
  have x_o91 : Box w91 (w81.heap.size) [.int .i64 bu, .int .i64 ra, .int .i64 pe, .int .i64 bu, .int .i64 0, .int .u64 t] := (by refine Box.below ?_ hb; repeat (first | (with_reducible assumption) | (with_reducible refine Box.drew ?_) | (with_reducible refine Box.drewN ?_ _) | ((with_reducible refine Box.new ?_); simp; done) | (with_reducible apply Box.set2) | ((with_reducible apply Box.put); (with_reducible assumption); rfl) | (with_reducible refine Box.alloc ?_ _) | (with_reducible refine Box.other ?_ (by first | (dsimp only; omega) | omega) _)))
  have z_o91 := x_o91.lt
  have c_o91_0 := x_o91.c 0 _ rfl
  have f_o91_0 := x_o91.f 0 _ rfl
  have c_o91_1 := x_o91.c 1 _ rfl
  have f_o91_1 := x_o91.f 1 _ rfl
  have c_o91_2 := x_o91.c 2 _ rfl
  have f_o91_2 := x_o91.f 2 _ rfl
  have c_o91_3 := x_o91.c 3 _ rfl
  have f_o91_3 := x_o91.f 3 _ rfl
  have c_o91_4 := x_o91.c 4 _ rfl
  have f_o91_4 := x_o91.f 4 _ rfl
  have c_o91_5 := x_o91.c 5 _ rfl
  have f_o91_5 := x_o91.f 5 _ rfl
  have t91 := hb.size
  try simp at t91
  clear hb hB90 hs90 x_x90 z_x90 c_x90_0 c_x90_1 c_x90_2 c_x90_3 c_x90_4 c_x90_5 f_x90_0 f_x90_1 f_x90_2 f_x90_3 f_x90_4 f_x90_5 x_c90 z_c90 c_c90_0 c_c90_1 c_c90_2 c_c90_3 c_c90_4 c_c90_5 f_c90_0 f_c90_1 f_c90_2 f_c90_3 f_c90_4 f_c90_5 x_d90 z_d90 c_d90_0 c_d90_1 c_d90_2 c_d90_3 c_d90_4 c_d90_5 f_d90_0 f_d90_1 f_d90_2 f_d90_3 f_d90_4 f_d90_5 x_o90 z_o90 c_o90_0 c_o90_1 c_o90_2 c_o90_3 c_o90_4 c_o90_5 f_o90_0 f_o90_1 f_o90_2 f_o90_3 f_o90_4 f_o90_5
  go_wp2_with fail
  refine (rcheck_is HD _).mono ?_
  rintro e w92 ⟨rfl, hb⟩
  have hB92 : Below w.heap.size w w92 := below_thru (by go_grown) hb
  have hs92 : w.heap.size ≤ w92.heap.size := hB92.size
  have x_x92 : Box w92 (w.heap.size) [.int .i64 bu, .int .i64 ra, .int .i64 pe, .int .i64 le, .int .i64 pt, .int .u64 a] := (by refine Box.below ?_ hb; repeat (first | (with_reducible assumption) | (with_reducible refine Box.drew ?_) | (with_reducible refine Box.drewN ?_ _) | ((with_reducible refine Box.new ?_); simp; done) | (with_reducible apply Box.set2) | ((with_reducible apply Box.put); (with_reducible assumption); rfl) | (with_reducible refine Box.alloc ?_ _) | (with_reducible refine Box.other ?_ (by first | (dsimp only; omega) | omega) _)))
  have z_x92 := x_x92.lt
  have c_x92_0 := x_x92.c 0 _ rfl
  have f_x92_0 := x_x92.f 0 _ rfl
  have c_x92_1 := x_x92.c 1 _ rfl
  have f_x92_1 := x_x92.f 1 _ rfl
  have c_x92_2 := x_x92.c 2 _ rfl
  have f_x92_2 := x_x92.f 2 _ rfl
  have c_x92_3 := x_x92.c 3 _ rfl
  have f_x92_3 := x_x92.f 3 _ rfl
  have c_x92_4 := x_x92.c 4 _ rfl
  have f_x92_4 := x_x92.f 4 _ rfl
  have c_x92_5 := x_x92.c 5 _ rfl
  have f_x92_5 := x_x92.f 5 _ rfl
  have x_c92 : Box w92 (w2.heap.size) [.int .i64 bu, .int .i64 ra, .int .i64 pe, .int .i64 L1, .int .i64 P1, .int .u64 s] := (by refine Box.below ?_ hb; repeat (first | (with_reducible assumption) | (with_reducible refine Box.drew ?_) | (with_reducible refine Box.drewN ?_ _) | ((with_reducible refine Box.new ?_); simp; done) | (with_reducible apply Box.set2) | ((with_reducible apply Box.put); (with_reducible assumption); rfl) | (with_reducible refine Box.alloc ?_ _) | (with_reducible refine Box.other ?_ (by first | (dsimp only; omega) | omega) _)))
  have z_c92 := x_c92.lt
  have c_c92_0 := x_c92.c 0 _ rfl
  have f_c92_0 := x_c92.f 0 _ rfl
  have c_c92_1 := x_c92.c 1 _ rfl
  have f_c92_1 := x_c92.f 1 _ rfl
  have c_c92_2 := x_c92.c 2 _ rfl
  have f_c92_2 := x_c92.f 2 _ rfl
  have c_c92_3 := x_c92.c 3 _ rfl
  have f_c92_3 := x_c92.f 3 _ rfl
  have c_c92_4 := x_c92.c 4 _ rfl
  have f_c92_4 := x_c92.f 4 _ rfl
  have c_c92_5 := x_c92.c 5 _ rfl
  have f_c92_5 := x_c92.f 5 _ rfl
  have x_d92 : Box w92 (w71.heap.size) [.int .i64 bu, .int .i64 ra, .int .i64 pe, .int .i64 bu, .int .i64 0, .int .u64 t] := (by refine Box.below ?_ hb; repeat (first | (with_reducible assumption) | (with_reducible refine Box.drew ?_) | (with_reducible refine Box.drewN ?_ _) | ((with_reducible refine Box.new ?_); simp; done) | (with_reducible apply Box.set2) | ((with_reducible apply Box.put); (with_reducible assumption); rfl) | (with_reducible refine Box.alloc ?_ _) | (with_reducible refine Box.other ?_ (by first | (dsimp only; omega) | omega) _)))
  have z_d92 := x_d92.lt
  have c_d92_0 := x_d92.c 0 _ rfl
  have f_d92_0 := x_d92.f 0 _ rfl
  have c_d92_1 := x_d92.c 1 _ rfl
  have f_d92_1 := x_d92.f 1 _ rfl
  have c_d92_2 := x_d92.c 2 _ rfl
  have f_d92_2 := x_d92.f 2 _ rfl
  have c_d92_3 := x_d92.c 3 _ rfl
  have f_d92_3 := x_d92.f 3 _ rfl
  have c_d92_4 := x_d92.c 4 _ rfl
  have f_d92_4 := x_d92.f 4 _ rfl
  have c_d92_5 := x_d92.c 5 _ rfl
  have f_d92_5 := x_d92.f 5 _ rfl
  have x_o92 : Box w92 (w81.heap.size) [.int .i64 bu, .int .i64 ra, .int .i64 pe, .int .i64 bu, .int .i64 0, .int .u64 t] := (by refine Box.below ?_ hb; repeat (first | (with_reducible assumption) | (with_reducible refine Box.drew ?_) | (with_reducible refine Box.drewN ?_ _) | ((with_reducible refine Box.new ?_); simp; done) | (with_reducible apply Box.set2) | ((with_reducible apply Box.put); (with_reducible assumption); rfl) | (with_reducible refine Box.alloc ?_ _) | (with_reducible refine Box.other ?_ (by first | (dsimp only; omega) | omega) _)))
  have z_o92 := x_o92.lt
  have c_o92_0 := x_o92.c 0 _ rfl
  have f_o92_0 := x_o92.f 0 _ rfl
  have c_o92_1 := x_o92.c 1 _ rfl
  have f_o92_1 := x_o92.f 1 _ rfl
  have c_o92_2 := x_o92.c 2 _ rfl
  have f_o92_2 := x_o92.f 2 _ rfl
  have c_o92_3 := x_o92.c 3 _ rfl
  have f_o92_3 := x_o92.f 3 _ rfl
  have c_o92_4 := x_o92.c 4 _ rfl
  have f_o92_4 := x_o92.f 4 _ rfl
  have c_o92_5 := x_o92.c 5 _ rfl
  have f_o92_5 := x_o92.f 5 _ rfl
  have t92 := hb.size
  try simp at t92
  clear hb hB91 hs91 x_x91 z_x91 c_x91_0 c_x91_1 c_x91_2 c_x91_3 c_x91_4 c_x91_5 f_x91_0 f_x91_1 f_x91_2 f_x91_3 f_x91_4 f_x91_5 x_c91 z_c91 c_c91_0 c_c91_1 c_c91_2 c_c91_3 c_c91_4 c_c91_5 f_c91_0 f_c91_1 f_c91_2 f_c91_3 f_c91_4 f_c91_5 x_d91 z_d91 c_d91_0 c_d91_1 c_d91_2 c_d91_3 c_d91_4 c_d91_5 f_d91_0 f_d91_1 f_d91_2 f_d91_3 f_d91_4 f_d91_5 x_o91 z_o91 c_o91_0 c_o91_1 c_o91_2 c_o91_3 c_o91_4 c_o91_5 f_o91_0 f_o91_1 f_o91_2 f_o91_3 f_o91_4 f_o91_5
  clear x_d92 z_d92 c_d92_0 c_d92_1 c_d92_2 c_d92_3 c_d92_4 c_d92_5 f_d92_0 f_d92_1 f_d92_2 f_d92_3 f_d92_4 f_d92_5
  go_upto_region 8 with fail
  go_cut [13, 14] (fun p q0 wx => ∃ b : Nat, p = .pointer (some ⟨b, 0, none⟩) ∧ q0 = .int .i64 0 ∧ Box wx b [.int .u64 0, .int .u64 v] ∧ Box wx (w.heap.size) [.int .i64 bu, .int .i64 ra, .int .i64 pe, .int .i64 le, .int .i64 pt, .int .u64 a] ∧ Box wx (w2.heap.size) [.int .i64 bu, .int .i64 ra, .int .i64 pe, .int .i64 L1, .int .i64 P1, .int .u64 s] ∧ Box wx (w81.heap.size) [.int .i64 bu, .int .i64 ra, .int .i64 pe, .int .i64 bu, .int .i64 0, .int .u64 t] ∧ Below w.heap.size w wx)
  case first =>
    as_aux_lemma =>
      go_region_held3 (fun w' => w'.cell? ⟨w.heap.size, 3, none⟩ = some (.int .i64 le) ∧ w'.cell? ⟨w.heap.size, 2, none⟩ = some (.int .i64 pe) ∧ w'.cell? ⟨w.heap.size, 4, none⟩ = some (.int .i64 pt)) (((repeat' apply And.intro) <;> (first | (go_keep; done) | go_cell)))
        (first
          | (go_at_call 29; refine (mul_nm (h := 0) (l := lp) _ k1 k2 n1 M1).mono ?_; rintro e v1 ⟨rfl, hv1⟩; have hV1 : Below w.heap.size w v1 := below_thru (by go_grown) hv1; have hs_v1 : w.heap.size ≤ v1.heap.size := hV1.size; have x_x_v1 : Box v1 (w.heap.size) [.int .i64 bu, .int .i64 ra, .int .i64 pe, .int .i64 le, .int .i64 pt, .int .u64 a] := (by refine Box.below ?_ hv1; repeat (first | (with_reducible assumption) | (with_reducible refine Box.drew ?_) | (with_reducible refine Box.drewN ?_ _) | ((with_reducible refine Box.new ?_); simp; done) | (with_reducible apply Box.set2) | ((with_reducible apply Box.put); (with_reducible assumption); rfl) | (with_reducible refine Box.alloc ?_ _) | (with_reducible refine Box.other ?_ (by first | (dsimp only; omega) | omega) _))); have z_x_v1 := x_x_v1.lt; have c_x_v1_0 := x_x_v1.c 0 _ rfl; have f_x_v1_0 := x_x_v1.f 0 _ rfl; have c_x_v1_1 := x_x_v1.c 1 _ rfl; have f_x_v1_1 := x_x_v1.f 1 _ rfl; have c_x_v1_2 := x_x_v1.c 2 _ rfl; have f_x_v1_2 := x_x_v1.f 2 _ rfl; have c_x_v1_3 := x_x_v1.c 3 _ rfl; have f_x_v1_3 := x_x_v1.f 3 _ rfl; have c_x_v1_4 := x_x_v1.c 4 _ rfl; have f_x_v1_4 := x_x_v1.f 4 _ rfl; have c_x_v1_5 := x_x_v1.c 5 _ rfl; have f_x_v1_5 := x_x_v1.f 5 _ rfl; have x_c_v1 : Box v1 (w2.heap.size) [.int .i64 bu, .int .i64 ra, .int .i64 pe, .int .i64 L1, .int .i64 P1, .int .u64 s] := (by refine Box.below ?_ hv1; repeat (first | (with_reducible assumption) | (with_reducible refine Box.drew ?_) | (with_reducible refine Box.drewN ?_ _) | ((with_reducible refine Box.new ?_); simp; done) | (with_reducible apply Box.set2) | ((with_reducible apply Box.put); (with_reducible assumption); rfl) | (with_reducible refine Box.alloc ?_ _) | (with_reducible refine Box.other ?_ (by first | (dsimp only; omega) | omega) _))); have z_c_v1 := x_c_v1.lt; have c_c_v1_0 := x_c_v1.c 0 _ rfl; have f_c_v1_0 := x_c_v1.f 0 _ rfl; have c_c_v1_1 := x_c_v1.c 1 _ rfl; have f_c_v1_1 := x_c_v1.f 1 _ rfl; have c_c_v1_2 := x_c_v1.c 2 _ rfl; have f_c_v1_2 := x_c_v1.f 2 _ rfl; have c_c_v1_3 := x_c_v1.c 3 _ rfl; have f_c_v1_3 := x_c_v1.f 3 _ rfl; have c_c_v1_4 := x_c_v1.c 4 _ rfl; have f_c_v1_4 := x_c_v1.f 4 _ rfl; have c_c_v1_5 := x_c_v1.c 5 _ rfl; have f_c_v1_5 := x_c_v1.f 5 _ rfl; have x_o_v1 : Box v1 (w81.heap.size) [.int .i64 bu, .int .i64 ra, .int .i64 pe, .int .i64 bu, .int .i64 0, .int .u64 t] := (by refine Box.below ?_ hv1; repeat (first | (with_reducible assumption) | (with_reducible refine Box.drew ?_) | (with_reducible refine Box.drewN ?_ _) | ((with_reducible refine Box.new ?_); simp; done) | (with_reducible apply Box.set2) | ((with_reducible apply Box.put); (with_reducible assumption); rfl) | (with_reducible refine Box.alloc ?_ _) | (with_reducible refine Box.other ?_ (by first | (dsimp only; omega) | omega) _))); have z_o_v1 := x_o_v1.lt; have c_o_v1_0 := x_o_v1.c 0 _ rfl; have f_o_v1_0 := x_o_v1.f 0 _ rfl; have c_o_v1_1 := x_o_v1.c 1 _ rfl; have f_o_v1_1 := x_o_v1.f 1 _ rfl; have c_o_v1_2 := x_o_v1.c 2 _ rfl; have f_o_v1_2 := x_o_v1.f 2 _ rfl; have c_o_v1_3 := x_o_v1.c 3 _ rfl; have f_o_v1_3 := x_o_v1.f 3 _ rfl; have c_o_v1_4 := x_o_v1.c 4 _ rfl; have f_o_v1_4 := x_o_v1.f 4 _ rfl; have c_o_v1_5 := x_o_v1.c 5 _ rfl; have f_o_v1_5 := x_o_v1.f 5 _ rfl; (first | (with_reducible have y := Box.below (Box.drew (Box.new rfl)) hv1) | (with_reducible have y := Box.below (Box.new rfl) hv1) | (with_reducible have y := Box.below y hv1) | (have y := trivial)); (try simp only [World.size_alloc] at y); try (have yz := Box.lt y; have y0 := Box.c y 0 _ rfl; have yf0 := Box.f y 0 _ rfl; have y1 := Box.c y 1 _ rfl; have yf1 := Box.f y 1 _ rfl))
          | (go_at_call 30; refine (of_any pt _).mono ?_; rintro e v2 ⟨rfl, hv2⟩; have hV2 : Below w.heap.size w v2 := below_thru (by go_grown) hv2; have hs_v2 : w.heap.size ≤ v2.heap.size := hV2.size; have x_x_v2 : Box v2 (w.heap.size) [.int .i64 bu, .int .i64 ra, .int .i64 pe, .int .i64 le, .int .i64 pt, .int .u64 a] := (by refine Box.below ?_ hv2; repeat (first | (with_reducible assumption) | (with_reducible refine Box.drew ?_) | (with_reducible refine Box.drewN ?_ _) | ((with_reducible refine Box.new ?_); simp; done) | (with_reducible apply Box.set2) | ((with_reducible apply Box.put); (with_reducible assumption); rfl) | (with_reducible refine Box.alloc ?_ _) | (with_reducible refine Box.other ?_ (by first | (dsimp only; omega) | omega) _))); have z_x_v2 := x_x_v2.lt; have c_x_v2_0 := x_x_v2.c 0 _ rfl; have f_x_v2_0 := x_x_v2.f 0 _ rfl; have c_x_v2_1 := x_x_v2.c 1 _ rfl; have f_x_v2_1 := x_x_v2.f 1 _ rfl; have c_x_v2_2 := x_x_v2.c 2 _ rfl; have f_x_v2_2 := x_x_v2.f 2 _ rfl; have c_x_v2_3 := x_x_v2.c 3 _ rfl; have f_x_v2_3 := x_x_v2.f 3 _ rfl; have c_x_v2_4 := x_x_v2.c 4 _ rfl; have f_x_v2_4 := x_x_v2.f 4 _ rfl; have c_x_v2_5 := x_x_v2.c 5 _ rfl; have f_x_v2_5 := x_x_v2.f 5 _ rfl; have x_c_v2 : Box v2 (w2.heap.size) [.int .i64 bu, .int .i64 ra, .int .i64 pe, .int .i64 L1, .int .i64 P1, .int .u64 s] := (by refine Box.below ?_ hv2; repeat (first | (with_reducible assumption) | (with_reducible refine Box.drew ?_) | (with_reducible refine Box.drewN ?_ _) | ((with_reducible refine Box.new ?_); simp; done) | (with_reducible apply Box.set2) | ((with_reducible apply Box.put); (with_reducible assumption); rfl) | (with_reducible refine Box.alloc ?_ _) | (with_reducible refine Box.other ?_ (by first | (dsimp only; omega) | omega) _))); have z_c_v2 := x_c_v2.lt; have c_c_v2_0 := x_c_v2.c 0 _ rfl; have f_c_v2_0 := x_c_v2.f 0 _ rfl; have c_c_v2_1 := x_c_v2.c 1 _ rfl; have f_c_v2_1 := x_c_v2.f 1 _ rfl; have c_c_v2_2 := x_c_v2.c 2 _ rfl; have f_c_v2_2 := x_c_v2.f 2 _ rfl; have c_c_v2_3 := x_c_v2.c 3 _ rfl; have f_c_v2_3 := x_c_v2.f 3 _ rfl; have c_c_v2_4 := x_c_v2.c 4 _ rfl; have f_c_v2_4 := x_c_v2.f 4 _ rfl; have c_c_v2_5 := x_c_v2.c 5 _ rfl; have f_c_v2_5 := x_c_v2.f 5 _ rfl; have x_o_v2 : Box v2 (w81.heap.size) [.int .i64 bu, .int .i64 ra, .int .i64 pe, .int .i64 bu, .int .i64 0, .int .u64 t] := (by refine Box.below ?_ hv2; repeat (first | (with_reducible assumption) | (with_reducible refine Box.drew ?_) | (with_reducible refine Box.drewN ?_ _) | ((with_reducible refine Box.new ?_); simp; done) | (with_reducible apply Box.set2) | ((with_reducible apply Box.put); (with_reducible assumption); rfl) | (with_reducible refine Box.alloc ?_ _) | (with_reducible refine Box.other ?_ (by first | (dsimp only; omega) | omega) _))); have z_o_v2 := x_o_v2.lt; have c_o_v2_0 := x_o_v2.c 0 _ rfl; have f_o_v2_0 := x_o_v2.f 0 _ rfl; have c_o_v2_1 := x_o_v2.c 1 _ rfl; have f_o_v2_1 := x_o_v2.f 1 _ rfl; have c_o_v2_2 := x_o_v2.c 2 _ rfl; have f_o_v2_2 := x_o_v2.f 2 _ rfl; have c_o_v2_3 := x_o_v2.c 3 _ rfl; have f_o_v2_3 := x_o_v2.f 3 _ rfl; have c_o_v2_4 := x_o_v2.c 4 _ rfl; have f_o_v2_4 := x_o_v2.f 4 _ rfl; have c_o_v2_5 := x_o_v2.c 5 _ rfl; have f_o_v2_5 := x_o_v2.f 5 _ rfl; (first | (with_reducible have y := Box.below (Box.drew (Box.new rfl)) hv2) | (with_reducible have y := Box.below (Box.new rfl) hv2) | (with_reducible have y := Box.below y hv2) | (have y := trivial)); (try simp only [World.size_alloc] at y); try (have yz := Box.lt y; have y0 := Box.c y 0 _ rfl; have yf0 := Box.f y 0 _ rfl; have y1 := Box.c y 1 _ rfl; have yf1 := Box.f y 1 _ rfl))
          | (go_at_call 28; refine (add_nm (h := 0) (l := v) _ u0 n1 u0 k3 u0 n2 A1).mono ?_; rintro e v3 ⟨rfl, hv3⟩; have hV3 : Below w.heap.size w v3 := below_thru (by go_grown) hv3; have hs_v3 : w.heap.size ≤ v3.heap.size := hV3.size; have x_x_v3 : Box v3 (w.heap.size) [.int .i64 bu, .int .i64 ra, .int .i64 pe, .int .i64 le, .int .i64 pt, .int .u64 a] := (by refine Box.below ?_ hv3; repeat (first | (with_reducible assumption) | (with_reducible refine Box.drew ?_) | (with_reducible refine Box.drewN ?_ _) | ((with_reducible refine Box.new ?_); simp; done) | (with_reducible apply Box.set2) | ((with_reducible apply Box.put); (with_reducible assumption); rfl) | (with_reducible refine Box.alloc ?_ _) | (with_reducible refine Box.other ?_ (by first | (dsimp only; omega) | omega) _))); have z_x_v3 := x_x_v3.lt; have c_x_v3_0 := x_x_v3.c 0 _ rfl; have f_x_v3_0 := x_x_v3.f 0 _ rfl; have c_x_v3_1 := x_x_v3.c 1 _ rfl; have f_x_v3_1 := x_x_v3.f 1 _ rfl; have c_x_v3_2 := x_x_v3.c 2 _ rfl; have f_x_v3_2 := x_x_v3.f 2 _ rfl; have c_x_v3_3 := x_x_v3.c 3 _ rfl; have f_x_v3_3 := x_x_v3.f 3 _ rfl; have c_x_v3_4 := x_x_v3.c 4 _ rfl; have f_x_v3_4 := x_x_v3.f 4 _ rfl; have c_x_v3_5 := x_x_v3.c 5 _ rfl; have f_x_v3_5 := x_x_v3.f 5 _ rfl; have x_c_v3 : Box v3 (w2.heap.size) [.int .i64 bu, .int .i64 ra, .int .i64 pe, .int .i64 L1, .int .i64 P1, .int .u64 s] := (by refine Box.below ?_ hv3; repeat (first | (with_reducible assumption) | (with_reducible refine Box.drew ?_) | (with_reducible refine Box.drewN ?_ _) | ((with_reducible refine Box.new ?_); simp; done) | (with_reducible apply Box.set2) | ((with_reducible apply Box.put); (with_reducible assumption); rfl) | (with_reducible refine Box.alloc ?_ _) | (with_reducible refine Box.other ?_ (by first | (dsimp only; omega) | omega) _))); have z_c_v3 := x_c_v3.lt; have c_c_v3_0 := x_c_v3.c 0 _ rfl; have f_c_v3_0 := x_c_v3.f 0 _ rfl; have c_c_v3_1 := x_c_v3.c 1 _ rfl; have f_c_v3_1 := x_c_v3.f 1 _ rfl; have c_c_v3_2 := x_c_v3.c 2 _ rfl; have f_c_v3_2 := x_c_v3.f 2 _ rfl; have c_c_v3_3 := x_c_v3.c 3 _ rfl; have f_c_v3_3 := x_c_v3.f 3 _ rfl; have c_c_v3_4 := x_c_v3.c 4 _ rfl; have f_c_v3_4 := x_c_v3.f 4 _ rfl; have c_c_v3_5 := x_c_v3.c 5 _ rfl; have f_c_v3_5 := x_c_v3.f 5 _ rfl; have x_o_v3 : Box v3 (w81.heap.size) [.int .i64 bu, .int .i64 ra, .int .i64 pe, .int .i64 bu, .int .i64 0, .int .u64 t] := (by refine Box.below ?_ hv3; repeat (first | (with_reducible assumption) | (with_reducible refine Box.drew ?_) | (with_reducible refine Box.drewN ?_ _) | ((with_reducible refine Box.new ?_); simp; done) | (with_reducible apply Box.set2) | ((with_reducible apply Box.put); (with_reducible assumption); rfl) | (with_reducible refine Box.alloc ?_ _) | (with_reducible refine Box.other ?_ (by first | (dsimp only; omega) | omega) _))); have z_o_v3 := x_o_v3.lt; have c_o_v3_0 := x_o_v3.c 0 _ rfl; have f_o_v3_0 := x_o_v3.f 0 _ rfl; have c_o_v3_1 := x_o_v3.c 1 _ rfl; have f_o_v3_1 := x_o_v3.f 1 _ rfl; have c_o_v3_2 := x_o_v3.c 2 _ rfl; have f_o_v3_2 := x_o_v3.f 2 _ rfl; have c_o_v3_3 := x_o_v3.c 3 _ rfl; have f_o_v3_3 := x_o_v3.f 3 _ rfl; have c_o_v3_4 := x_o_v3.c 4 _ rfl; have f_o_v3_4 := x_o_v3.f 4 _ rfl; have c_o_v3_5 := x_o_v3.c 5 _ rfl; have f_o_v3_5 := x_o_v3.f 5 _ rfl; (first | (with_reducible have y := Box.below (Box.drew (Box.new rfl)) hv3) | (with_reducible have y := Box.below (Box.new rfl) hv3) | (with_reducible have y := Box.below y hv3) | (have y := trivial)); (try simp only [World.size_alloc] at y); try (have yz := Box.lt y; have y0 := Box.c y 0 _ rfl; have yf0 := Box.f y 0 _ rfl; have y1 := Box.c y 1 _ rfl; have yf1 := Box.f y 1 _ rfl)))
      all_goals
        go_wp2_with fail
        go_meet
        refine ⟨_, rfl, rfl, ?_, ?_, ?_, ?_, ?_⟩
        all_goals first
          | ((repeat (first | (with_reducible assumption) | (with_reducible refine Box.drew ?_) | (with_reducible refine Box.drewN ?_ _) | ((with_reducible refine Box.new ?_); simp; done) | (with_reducible apply Box.set2) | (with_reducible refine Box.alloc ?_ _) | (with_reducible refine Box.other ?_ (by first | (dsimp only; omega) | omega) _))); done)
          | (go_grown; done)
  case rest =>
    as_aux_lemma =>
      obtain ⟨b93, rfl, rfl, x_m93, x_x93, x_c93, x_o93, hB93⟩ := hcut
      obtain ⟨w93, rfl⟩ : ∃ u : World, u = wc := ⟨_, rfl⟩
      clear hB92 hs92 x_x92 z_x92 c_x92_0 c_x92_1 c_x92_2 c_x92_3 c_x92_4 c_x92_5 f_x92_0 f_x92_1 f_x92_2 f_x92_3 f_x92_4 f_x92_5 x_c92 z_c92 c_c92_0 c_c92_1 c_c92_2 c_c92_3 c_c92_4 c_c92_5 f_c92_0 f_c92_1 f_c92_2 f_c92_3 f_c92_4 f_c92_5 x_o92 z_o92 c_o92_0 c_o92_1 c_o92_2 c_o92_3 c_o92_4 c_o92_5 f_o92_0 f_o92_1 f_o92_2 f_o92_3 f_o92_4 f_o92_5
      have hs93 : w.heap.size ≤ w93.heap.size := hB93.size
      have z_x93 := x_x93.lt
      have c_x93_0 := x_x93.c 0 _ rfl; have f_x93_0 := x_x93.f 0 _ rfl
      have c_x93_1 := x_x93.c 1 _ rfl; have f_x93_1 := x_x93.f 1 _ rfl
      have c_x93_2 := x_x93.c 2 _ rfl; have f_x93_2 := x_x93.f 2 _ rfl
      have c_x93_3 := x_x93.c 3 _ rfl; have f_x93_3 := x_x93.f 3 _ rfl
      have c_x93_4 := x_x93.c 4 _ rfl; have f_x93_4 := x_x93.f 4 _ rfl
      have c_x93_5 := x_x93.c 5 _ rfl; have f_x93_5 := x_x93.f 5 _ rfl
      have z_c93 := x_c93.lt
      have c_c93_0 := x_c93.c 0 _ rfl; have f_c93_0 := x_c93.f 0 _ rfl
      have c_c93_1 := x_c93.c 1 _ rfl; have f_c93_1 := x_c93.f 1 _ rfl
      have c_c93_2 := x_c93.c 2 _ rfl; have f_c93_2 := x_c93.f 2 _ rfl
      have c_c93_3 := x_c93.c 3 _ rfl; have f_c93_3 := x_c93.f 3 _ rfl
      have c_c93_4 := x_c93.c 4 _ rfl; have f_c93_4 := x_c93.f 4 _ rfl
      have c_c93_5 := x_c93.c 5 _ rfl; have f_c93_5 := x_c93.f 5 _ rfl
      have z_o93 := x_o93.lt
      have c_o93_0 := x_o93.c 0 _ rfl; have f_o93_0 := x_o93.f 0 _ rfl
      have c_o93_1 := x_o93.c 1 _ rfl; have f_o93_1 := x_o93.f 1 _ rfl
      have c_o93_2 := x_o93.c 2 _ rfl; have f_o93_2 := x_o93.f 2 _ rfl
      have c_o93_3 := x_o93.c 3 _ rfl; have f_o93_3 := x_o93.f 3 _ rfl
      have c_o93_4 := x_o93.c 4 _ rfl; have f_o93_4 := x_o93.f 4 _ rfl
      have c_o93_5 := x_o93.c 5 _ rfl; have f_o93_5 := x_o93.f 5 _ rfl
      have z_m93 := x_m93.lt
      have c_m93_0 := x_m93.c 0 _ rfl; have f_m93_0 := x_m93.f 0 _ rfl
      have c_m93_1 := x_m93.c 1 _ rfl; have f_m93_1 := x_m93.f 1 _ rfl
      clear x_c93 z_c93 c_c93_0 c_c93_1 c_c93_2 c_c93_3 c_c93_4 c_c93_5 f_c93_0 f_c93_1 f_c93_2 f_c93_3 f_c93_4 f_c93_5
      go_upto_region 9 with fail
      go_cut [15, 16] (fun p q0 wx => ∃ b : Nat, p = .pointer (some ⟨b, 0, none⟩) ∧ q0 = .int .i64 0 ∧ Box wx b [.int .u64 ah, .int .u64 al] ∧ Box wx (w.heap.size) [.int .i64 bu, .int .i64 ra, .int .i64 pe, .int .i64 le, .int .i64 pt, .int .u64 a] ∧ Box wx (w81.heap.size) [.int .i64 bu, .int .i64 ra, .int .i64 pe, .int .i64 bu, .int .i64 0, .int .u64 t] ∧ Box wx (b93) [.int .u64 0, .int .u64 v] ∧ Below w.heap.size w wx)
      case first =>
        as_aux_lemma =>
          go_region_held3 (fun w' => w'.cell? ⟨w.heap.size, 5, none⟩ = some (.int .u64 a) ∧ w'.cell? ⟨w.heap.size, 1, none⟩ = some (.int .i64 ra) ∧ w'.cell? ⟨b93, 0, none⟩ = some (.int .u64 0) ∧ w'.cell? ⟨b93, 1, none⟩ = some (.int .u64 v)) (((repeat' apply And.intro) <;> (first | (go_keep; done) | go_cell)))
            (first
              | (go_at_call 29; refine (mul_nm (h := mh) (l := ml) _ k6 k4 n4 M2).mono ?_; rintro e v1 ⟨rfl, hv1⟩; have hV1 : Below w.heap.size w v1 := below_thru (by go_grown) hv1; have hs_v1 : w.heap.size ≤ v1.heap.size := hV1.size; have x_x_v1 : Box v1 (w.heap.size) [.int .i64 bu, .int .i64 ra, .int .i64 pe, .int .i64 le, .int .i64 pt, .int .u64 a] := (by refine Box.below ?_ hv1; repeat (first | (with_reducible assumption) | (with_reducible refine Box.drew ?_) | (with_reducible refine Box.drewN ?_ _) | ((with_reducible refine Box.new ?_); simp; done) | (with_reducible apply Box.set2) | ((with_reducible apply Box.put); (with_reducible assumption); rfl) | (with_reducible refine Box.alloc ?_ _) | (with_reducible refine Box.other ?_ (by first | (dsimp only; omega) | omega) _))); have z_x_v1 := x_x_v1.lt; have c_x_v1_0 := x_x_v1.c 0 _ rfl; have f_x_v1_0 := x_x_v1.f 0 _ rfl; have c_x_v1_1 := x_x_v1.c 1 _ rfl; have f_x_v1_1 := x_x_v1.f 1 _ rfl; have c_x_v1_2 := x_x_v1.c 2 _ rfl; have f_x_v1_2 := x_x_v1.f 2 _ rfl; have c_x_v1_3 := x_x_v1.c 3 _ rfl; have f_x_v1_3 := x_x_v1.f 3 _ rfl; have c_x_v1_4 := x_x_v1.c 4 _ rfl; have f_x_v1_4 := x_x_v1.f 4 _ rfl; have c_x_v1_5 := x_x_v1.c 5 _ rfl; have f_x_v1_5 := x_x_v1.f 5 _ rfl; have x_o_v1 : Box v1 (w81.heap.size) [.int .i64 bu, .int .i64 ra, .int .i64 pe, .int .i64 bu, .int .i64 0, .int .u64 t] := (by refine Box.below ?_ hv1; repeat (first | (with_reducible assumption) | (with_reducible refine Box.drew ?_) | (with_reducible refine Box.drewN ?_ _) | ((with_reducible refine Box.new ?_); simp; done) | (with_reducible apply Box.set2) | ((with_reducible apply Box.put); (with_reducible assumption); rfl) | (with_reducible refine Box.alloc ?_ _) | (with_reducible refine Box.other ?_ (by first | (dsimp only; omega) | omega) _))); have z_o_v1 := x_o_v1.lt; have c_o_v1_0 := x_o_v1.c 0 _ rfl; have f_o_v1_0 := x_o_v1.f 0 _ rfl; have c_o_v1_1 := x_o_v1.c 1 _ rfl; have f_o_v1_1 := x_o_v1.f 1 _ rfl; have c_o_v1_2 := x_o_v1.c 2 _ rfl; have f_o_v1_2 := x_o_v1.f 2 _ rfl; have c_o_v1_3 := x_o_v1.c 3 _ rfl; have f_o_v1_3 := x_o_v1.f 3 _ rfl; have c_o_v1_4 := x_o_v1.c 4 _ rfl; have f_o_v1_4 := x_o_v1.f 4 _ rfl; have c_o_v1_5 := x_o_v1.c 5 _ rfl; have f_o_v1_5 := x_o_v1.f 5 _ rfl; have x_m_v1 : Box v1 (b93) [.int .u64 0, .int .u64 v] := (by refine Box.below ?_ hv1; repeat (first | (with_reducible assumption) | (with_reducible refine Box.drew ?_) | (with_reducible refine Box.drewN ?_ _) | ((with_reducible refine Box.new ?_); simp; done) | (with_reducible apply Box.set2) | ((with_reducible apply Box.put); (with_reducible assumption); rfl) | (with_reducible refine Box.alloc ?_ _) | (with_reducible refine Box.other ?_ (by first | (dsimp only; omega) | omega) _))); have z_m_v1 := x_m_v1.lt; have c_m_v1_0 := x_m_v1.c 0 _ rfl; have f_m_v1_0 := x_m_v1.f 0 _ rfl; have c_m_v1_1 := x_m_v1.c 1 _ rfl; have f_m_v1_1 := x_m_v1.f 1 _ rfl; (first | (with_reducible have y := Box.below (Box.drew (Box.new rfl)) hv1) | (with_reducible have y := Box.below (Box.new rfl) hv1) | (with_reducible have y := Box.below y hv1) | (have y := trivial)); (try simp only [World.size_alloc] at y); try (have yz := Box.lt y; have y0 := Box.c y 0 _ rfl; have yf0 := Box.f y 0 _ rfl; have y1 := Box.c y 1 _ rfl; have yf1 := Box.f y 1 _ rfl))
              | (go_at_call 28; refine (add_nm (h := ah) (l := al) _ u0 n2 n3 n4 n5 n6 A2).mono ?_; rintro e v2 ⟨rfl, hv2⟩; have hV2 : Below w.heap.size w v2 := below_thru (by go_grown) hv2; have hs_v2 : w.heap.size ≤ v2.heap.size := hV2.size; have x_x_v2 : Box v2 (w.heap.size) [.int .i64 bu, .int .i64 ra, .int .i64 pe, .int .i64 le, .int .i64 pt, .int .u64 a] := (by refine Box.below ?_ hv2; repeat (first | (with_reducible assumption) | (with_reducible refine Box.drew ?_) | (with_reducible refine Box.drewN ?_ _) | ((with_reducible refine Box.new ?_); simp; done) | (with_reducible apply Box.set2) | ((with_reducible apply Box.put); (with_reducible assumption); rfl) | (with_reducible refine Box.alloc ?_ _) | (with_reducible refine Box.other ?_ (by first | (dsimp only; omega) | omega) _))); have z_x_v2 := x_x_v2.lt; have c_x_v2_0 := x_x_v2.c 0 _ rfl; have f_x_v2_0 := x_x_v2.f 0 _ rfl; have c_x_v2_1 := x_x_v2.c 1 _ rfl; have f_x_v2_1 := x_x_v2.f 1 _ rfl; have c_x_v2_2 := x_x_v2.c 2 _ rfl; have f_x_v2_2 := x_x_v2.f 2 _ rfl; have c_x_v2_3 := x_x_v2.c 3 _ rfl; have f_x_v2_3 := x_x_v2.f 3 _ rfl; have c_x_v2_4 := x_x_v2.c 4 _ rfl; have f_x_v2_4 := x_x_v2.f 4 _ rfl; have c_x_v2_5 := x_x_v2.c 5 _ rfl; have f_x_v2_5 := x_x_v2.f 5 _ rfl; have x_o_v2 : Box v2 (w81.heap.size) [.int .i64 bu, .int .i64 ra, .int .i64 pe, .int .i64 bu, .int .i64 0, .int .u64 t] := (by refine Box.below ?_ hv2; repeat (first | (with_reducible assumption) | (with_reducible refine Box.drew ?_) | (with_reducible refine Box.drewN ?_ _) | ((with_reducible refine Box.new ?_); simp; done) | (with_reducible apply Box.set2) | ((with_reducible apply Box.put); (with_reducible assumption); rfl) | (with_reducible refine Box.alloc ?_ _) | (with_reducible refine Box.other ?_ (by first | (dsimp only; omega) | omega) _))); have z_o_v2 := x_o_v2.lt; have c_o_v2_0 := x_o_v2.c 0 _ rfl; have f_o_v2_0 := x_o_v2.f 0 _ rfl; have c_o_v2_1 := x_o_v2.c 1 _ rfl; have f_o_v2_1 := x_o_v2.f 1 _ rfl; have c_o_v2_2 := x_o_v2.c 2 _ rfl; have f_o_v2_2 := x_o_v2.f 2 _ rfl; have c_o_v2_3 := x_o_v2.c 3 _ rfl; have f_o_v2_3 := x_o_v2.f 3 _ rfl; have c_o_v2_4 := x_o_v2.c 4 _ rfl; have f_o_v2_4 := x_o_v2.f 4 _ rfl; have c_o_v2_5 := x_o_v2.c 5 _ rfl; have f_o_v2_5 := x_o_v2.f 5 _ rfl; have x_m_v2 : Box v2 (b93) [.int .u64 0, .int .u64 v] := (by refine Box.below ?_ hv2; repeat (first | (with_reducible assumption) | (with_reducible refine Box.drew ?_) | (with_reducible refine Box.drewN ?_ _) | ((with_reducible refine Box.new ?_); simp; done) | (with_reducible apply Box.set2) | ((with_reducible apply Box.put); (with_reducible assumption); rfl) | (with_reducible refine Box.alloc ?_ _) | (with_reducible refine Box.other ?_ (by first | (dsimp only; omega) | omega) _))); have z_m_v2 := x_m_v2.lt; have c_m_v2_0 := x_m_v2.c 0 _ rfl; have f_m_v2_0 := x_m_v2.f 0 _ rfl; have c_m_v2_1 := x_m_v2.c 1 _ rfl; have f_m_v2_1 := x_m_v2.f 1 _ rfl; (first | (with_reducible have y := Box.below (Box.drew (Box.new rfl)) hv2) | (with_reducible have y := Box.below (Box.new rfl) hv2) | (with_reducible have y := Box.below y hv2) | (have y := trivial)); (try simp only [World.size_alloc] at y); try (have yz := Box.lt y; have y0 := Box.c y 0 _ rfl; have yf0 := Box.f y 0 _ rfl; have y1 := Box.c y 1 _ rfl; have yf1 := Box.f y 1 _ rfl)))
          all_goals
            go_wp2_with fail
            go_meet
            refine ⟨_, rfl, rfl, ?_, ?_, ?_, ?_, ?_⟩
            all_goals first
              | ((repeat (first | (with_reducible assumption) | (with_reducible refine Box.drew ?_) | (with_reducible refine Box.drewN ?_ _) | ((with_reducible refine Box.new ?_); simp; done) | (with_reducible apply Box.set2) | (with_reducible refine Box.alloc ?_ _) | (with_reducible refine Box.other ?_ (by first | (dsimp only; omega) | omega) _))); done)
              | (go_grown; done)
      case rest =>
        as_aux_lemma =>
          obtain ⟨b94, rfl, rfl, x_n94, x_x94, x_o94, x_m94, hB94⟩ := hcut
          obtain ⟨w94, rfl⟩ : ∃ u : World, u = wc := ⟨_, rfl⟩
          clear hB93 hs93 x_x93 z_x93 c_x93_0 c_x93_1 c_x93_2 c_x93_3 c_x93_4 c_x93_5 f_x93_0 f_x93_1 f_x93_2 f_x93_3 f_x93_4 f_x93_5 x_o93 z_o93 c_o93_0 c_o93_1 c_o93_2 c_o93_3 c_o93_4 c_o93_5 f_o93_0 f_o93_1 f_o93_2 f_o93_3 f_o93_4 f_o93_5 x_m93 z_m93 c_m93_0 c_m93_1 f_m93_0 f_m93_1
          have hs94 : w.heap.size ≤ w94.heap.size := hB94.size
          have z_x94 := x_x94.lt
          have c_x94_0 := x_x94.c 0 _ rfl; have f_x94_0 := x_x94.f 0 _ rfl
          have c_x94_1 := x_x94.c 1 _ rfl; have f_x94_1 := x_x94.f 1 _ rfl
          have c_x94_2 := x_x94.c 2 _ rfl; have f_x94_2 := x_x94.f 2 _ rfl
          have c_x94_3 := x_x94.c 3 _ rfl; have f_x94_3 := x_x94.f 3 _ rfl
          have c_x94_4 := x_x94.c 4 _ rfl; have f_x94_4 := x_x94.f 4 _ rfl
          have c_x94_5 := x_x94.c 5 _ rfl; have f_x94_5 := x_x94.f 5 _ rfl
          have z_o94 := x_o94.lt
          have c_o94_0 := x_o94.c 0 _ rfl; have f_o94_0 := x_o94.f 0 _ rfl
          have c_o94_1 := x_o94.c 1 _ rfl; have f_o94_1 := x_o94.f 1 _ rfl
          have c_o94_2 := x_o94.c 2 _ rfl; have f_o94_2 := x_o94.f 2 _ rfl
          have c_o94_3 := x_o94.c 3 _ rfl; have f_o94_3 := x_o94.f 3 _ rfl
          have c_o94_4 := x_o94.c 4 _ rfl; have f_o94_4 := x_o94.f 4 _ rfl
          have c_o94_5 := x_o94.c 5 _ rfl; have f_o94_5 := x_o94.f 5 _ rfl
          have z_m94 := x_m94.lt
          have c_m94_0 := x_m94.c 0 _ rfl; have f_m94_0 := x_m94.f 0 _ rfl
          have c_m94_1 := x_m94.c 1 _ rfl; have f_m94_1 := x_m94.f 1 _ rfl
          have z_n94 := x_n94.lt
          have c_n94_0 := x_n94.c 0 _ rfl; have f_n94_0 := x_n94.f 0 _ rfl
          have c_n94_1 := x_n94.c 1 _ rfl; have f_n94_1 := x_n94.f 1 _ rfl
          clear x_m94 z_m94 c_m94_0 c_m94_1 f_m94_0 f_m94_1
          go_upto_region 10 with fail
          go_cut [17, 18] (fun p q0 wx => ∃ b : Nat, p = .pointer (some ⟨b, 0, none⟩) ∧ q0 = .int .i64 0 ∧ Box wx b [.int .u64 0, .int .u64 tp] ∧ Box wx (w.heap.size) [.int .i64 bu, .int .i64 ra, .int .i64 pe, .int .i64 le, .int .i64 pt, .int .u64 a] ∧ Box wx (w81.heap.size) [.int .i64 bu, .int .i64 ra, .int .i64 pe, .int .i64 bu, .int .i64 0, .int .u64 t] ∧ Box wx (b94) [.int .u64 ah, .int .u64 al] ∧ Below w.heap.size w wx)
          case first =>
            as_aux_lemma =>
              go_region_held3 (fun w' => w'.cell? ⟨w81.heap.size, 3, none⟩ = some (.int .i64 bu) ∧ w'.cell? ⟨w.heap.size, 2, none⟩ = some (.int .i64 pe) ∧ w'.cell? ⟨w81.heap.size, 4, none⟩ = some (.int .i64 0)) (((repeat' apply And.intro) <;> (first | (go_keep; done) | go_cell)))
                (first
                  | (go_at_call 29; refine (mul_nm (h := 0) (l := lq) _ k7 k2 n7 M3).mono ?_; rintro e v1 ⟨rfl, hv1⟩; have hV1 : Below w.heap.size w v1 := below_thru (by go_grown) hv1; have hs_v1 : w.heap.size ≤ v1.heap.size := hV1.size; have x_x_v1 : Box v1 (w.heap.size) [.int .i64 bu, .int .i64 ra, .int .i64 pe, .int .i64 le, .int .i64 pt, .int .u64 a] := (by refine Box.below ?_ hv1; repeat (first | (with_reducible assumption) | (with_reducible refine Box.drew ?_) | (with_reducible refine Box.drewN ?_ _) | ((with_reducible refine Box.new ?_); simp; done) | (with_reducible apply Box.set2) | ((with_reducible apply Box.put); (with_reducible assumption); rfl) | (with_reducible refine Box.alloc ?_ _) | (with_reducible refine Box.other ?_ (by first | (dsimp only; omega) | omega) _))); have z_x_v1 := x_x_v1.lt; have c_x_v1_0 := x_x_v1.c 0 _ rfl; have f_x_v1_0 := x_x_v1.f 0 _ rfl; have c_x_v1_1 := x_x_v1.c 1 _ rfl; have f_x_v1_1 := x_x_v1.f 1 _ rfl; have c_x_v1_2 := x_x_v1.c 2 _ rfl; have f_x_v1_2 := x_x_v1.f 2 _ rfl; have c_x_v1_3 := x_x_v1.c 3 _ rfl; have f_x_v1_3 := x_x_v1.f 3 _ rfl; have c_x_v1_4 := x_x_v1.c 4 _ rfl; have f_x_v1_4 := x_x_v1.f 4 _ rfl; have c_x_v1_5 := x_x_v1.c 5 _ rfl; have f_x_v1_5 := x_x_v1.f 5 _ rfl; have x_o_v1 : Box v1 (w81.heap.size) [.int .i64 bu, .int .i64 ra, .int .i64 pe, .int .i64 bu, .int .i64 0, .int .u64 t] := (by refine Box.below ?_ hv1; repeat (first | (with_reducible assumption) | (with_reducible refine Box.drew ?_) | (with_reducible refine Box.drewN ?_ _) | ((with_reducible refine Box.new ?_); simp; done) | (with_reducible apply Box.set2) | ((with_reducible apply Box.put); (with_reducible assumption); rfl) | (with_reducible refine Box.alloc ?_ _) | (with_reducible refine Box.other ?_ (by first | (dsimp only; omega) | omega) _))); have z_o_v1 := x_o_v1.lt; have c_o_v1_0 := x_o_v1.c 0 _ rfl; have f_o_v1_0 := x_o_v1.f 0 _ rfl; have c_o_v1_1 := x_o_v1.c 1 _ rfl; have f_o_v1_1 := x_o_v1.f 1 _ rfl; have c_o_v1_2 := x_o_v1.c 2 _ rfl; have f_o_v1_2 := x_o_v1.f 2 _ rfl; have c_o_v1_3 := x_o_v1.c 3 _ rfl; have f_o_v1_3 := x_o_v1.f 3 _ rfl; have c_o_v1_4 := x_o_v1.c 4 _ rfl; have f_o_v1_4 := x_o_v1.f 4 _ rfl; have c_o_v1_5 := x_o_v1.c 5 _ rfl; have f_o_v1_5 := x_o_v1.f 5 _ rfl; have x_n_v1 : Box v1 (b94) [.int .u64 ah, .int .u64 al] := (by refine Box.below ?_ hv1; repeat (first | (with_reducible assumption) | (with_reducible refine Box.drew ?_) | (with_reducible refine Box.drewN ?_ _) | ((with_reducible refine Box.new ?_); simp; done) | (with_reducible apply Box.set2) | ((with_reducible apply Box.put); (with_reducible assumption); rfl) | (with_reducible refine Box.alloc ?_ _) | (with_reducible refine Box.other ?_ (by first | (dsimp only; omega) | omega) _))); have z_n_v1 := x_n_v1.lt; have c_n_v1_0 := x_n_v1.c 0 _ rfl; have f_n_v1_0 := x_n_v1.f 0 _ rfl; have c_n_v1_1 := x_n_v1.c 1 _ rfl; have f_n_v1_1 := x_n_v1.f 1 _ rfl; (first | (with_reducible have y := Box.below (Box.drew (Box.new rfl)) hv1) | (with_reducible have y := Box.below (Box.new rfl) hv1) | (with_reducible have y := Box.below y hv1) | (have y := trivial)); (try simp only [World.size_alloc] at y); try (have yz := Box.lt y; have y0 := Box.c y 0 _ rfl; have yf0 := Box.f y 0 _ rfl; have y1 := Box.c y 1 _ rfl; have yf1 := Box.f y 1 _ rfl))
                  | (go_at_call 30; refine (of_any 0 _).mono ?_; rintro e v2 ⟨rfl, hv2⟩; have hV2 : Below w.heap.size w v2 := below_thru (by go_grown) hv2; have hs_v2 : w.heap.size ≤ v2.heap.size := hV2.size; have x_x_v2 : Box v2 (w.heap.size) [.int .i64 bu, .int .i64 ra, .int .i64 pe, .int .i64 le, .int .i64 pt, .int .u64 a] := (by refine Box.below ?_ hv2; repeat (first | (with_reducible assumption) | (with_reducible refine Box.drew ?_) | (with_reducible refine Box.drewN ?_ _) | ((with_reducible refine Box.new ?_); simp; done) | (with_reducible apply Box.set2) | ((with_reducible apply Box.put); (with_reducible assumption); rfl) | (with_reducible refine Box.alloc ?_ _) | (with_reducible refine Box.other ?_ (by first | (dsimp only; omega) | omega) _))); have z_x_v2 := x_x_v2.lt; have c_x_v2_0 := x_x_v2.c 0 _ rfl; have f_x_v2_0 := x_x_v2.f 0 _ rfl; have c_x_v2_1 := x_x_v2.c 1 _ rfl; have f_x_v2_1 := x_x_v2.f 1 _ rfl; have c_x_v2_2 := x_x_v2.c 2 _ rfl; have f_x_v2_2 := x_x_v2.f 2 _ rfl; have c_x_v2_3 := x_x_v2.c 3 _ rfl; have f_x_v2_3 := x_x_v2.f 3 _ rfl; have c_x_v2_4 := x_x_v2.c 4 _ rfl; have f_x_v2_4 := x_x_v2.f 4 _ rfl; have c_x_v2_5 := x_x_v2.c 5 _ rfl; have f_x_v2_5 := x_x_v2.f 5 _ rfl; have x_o_v2 : Box v2 (w81.heap.size) [.int .i64 bu, .int .i64 ra, .int .i64 pe, .int .i64 bu, .int .i64 0, .int .u64 t] := (by refine Box.below ?_ hv2; repeat (first | (with_reducible assumption) | (with_reducible refine Box.drew ?_) | (with_reducible refine Box.drewN ?_ _) | ((with_reducible refine Box.new ?_); simp; done) | (with_reducible apply Box.set2) | ((with_reducible apply Box.put); (with_reducible assumption); rfl) | (with_reducible refine Box.alloc ?_ _) | (with_reducible refine Box.other ?_ (by first | (dsimp only; omega) | omega) _))); have z_o_v2 := x_o_v2.lt; have c_o_v2_0 := x_o_v2.c 0 _ rfl; have f_o_v2_0 := x_o_v2.f 0 _ rfl; have c_o_v2_1 := x_o_v2.c 1 _ rfl; have f_o_v2_1 := x_o_v2.f 1 _ rfl; have c_o_v2_2 := x_o_v2.c 2 _ rfl; have f_o_v2_2 := x_o_v2.f 2 _ rfl; have c_o_v2_3 := x_o_v2.c 3 _ rfl; have f_o_v2_3 := x_o_v2.f 3 _ rfl; have c_o_v2_4 := x_o_v2.c 4 _ rfl; have f_o_v2_4 := x_o_v2.f 4 _ rfl; have c_o_v2_5 := x_o_v2.c 5 _ rfl; have f_o_v2_5 := x_o_v2.f 5 _ rfl; have x_n_v2 : Box v2 (b94) [.int .u64 ah, .int .u64 al] := (by refine Box.below ?_ hv2; repeat (first | (with_reducible assumption) | (with_reducible refine Box.drew ?_) | (with_reducible refine Box.drewN ?_ _) | ((with_reducible refine Box.new ?_); simp; done) | (with_reducible apply Box.set2) | ((with_reducible apply Box.put); (with_reducible assumption); rfl) | (with_reducible refine Box.alloc ?_ _) | (with_reducible refine Box.other ?_ (by first | (dsimp only; omega) | omega) _))); have z_n_v2 := x_n_v2.lt; have c_n_v2_0 := x_n_v2.c 0 _ rfl; have f_n_v2_0 := x_n_v2.f 0 _ rfl; have c_n_v2_1 := x_n_v2.c 1 _ rfl; have f_n_v2_1 := x_n_v2.f 1 _ rfl; (first | (with_reducible have y := Box.below (Box.drew (Box.new rfl)) hv2) | (with_reducible have y := Box.below (Box.new rfl) hv2) | (with_reducible have y := Box.below y hv2) | (have y := trivial)); (try simp only [World.size_alloc] at y); try (have yz := Box.lt y; have y0 := Box.c y 0 _ rfl; have yf0 := Box.f y 0 _ rfl; have y1 := Box.c y 1 _ rfl; have yf1 := Box.f y 1 _ rfl))
                  | (go_at_call 28; refine (add_nm (h := 0) (l := tp) _ u0 n7 u0 k8 u0 n8 A3).mono ?_; rintro e v3 ⟨rfl, hv3⟩; have hV3 : Below w.heap.size w v3 := below_thru (by go_grown) hv3; have hs_v3 : w.heap.size ≤ v3.heap.size := hV3.size; have x_x_v3 : Box v3 (w.heap.size) [.int .i64 bu, .int .i64 ra, .int .i64 pe, .int .i64 le, .int .i64 pt, .int .u64 a] := (by refine Box.below ?_ hv3; repeat (first | (with_reducible assumption) | (with_reducible refine Box.drew ?_) | (with_reducible refine Box.drewN ?_ _) | ((with_reducible refine Box.new ?_); simp; done) | (with_reducible apply Box.set2) | ((with_reducible apply Box.put); (with_reducible assumption); rfl) | (with_reducible refine Box.alloc ?_ _) | (with_reducible refine Box.other ?_ (by first | (dsimp only; omega) | omega) _))); have z_x_v3 := x_x_v3.lt; have c_x_v3_0 := x_x_v3.c 0 _ rfl; have f_x_v3_0 := x_x_v3.f 0 _ rfl; have c_x_v3_1 := x_x_v3.c 1 _ rfl; have f_x_v3_1 := x_x_v3.f 1 _ rfl; have c_x_v3_2 := x_x_v3.c 2 _ rfl; have f_x_v3_2 := x_x_v3.f 2 _ rfl; have c_x_v3_3 := x_x_v3.c 3 _ rfl; have f_x_v3_3 := x_x_v3.f 3 _ rfl; have c_x_v3_4 := x_x_v3.c 4 _ rfl; have f_x_v3_4 := x_x_v3.f 4 _ rfl; have c_x_v3_5 := x_x_v3.c 5 _ rfl; have f_x_v3_5 := x_x_v3.f 5 _ rfl; have x_o_v3 : Box v3 (w81.heap.size) [.int .i64 bu, .int .i64 ra, .int .i64 pe, .int .i64 bu, .int .i64 0, .int .u64 t] := (by refine Box.below ?_ hv3; repeat (first | (with_reducible assumption) | (with_reducible refine Box.drew ?_) | (with_reducible refine Box.drewN ?_ _) | ((with_reducible refine Box.new ?_); simp; done) | (with_reducible apply Box.set2) | ((with_reducible apply Box.put); (with_reducible assumption); rfl) | (with_reducible refine Box.alloc ?_ _) | (with_reducible refine Box.other ?_ (by first | (dsimp only; omega) | omega) _))); have z_o_v3 := x_o_v3.lt; have c_o_v3_0 := x_o_v3.c 0 _ rfl; have f_o_v3_0 := x_o_v3.f 0 _ rfl; have c_o_v3_1 := x_o_v3.c 1 _ rfl; have f_o_v3_1 := x_o_v3.f 1 _ rfl; have c_o_v3_2 := x_o_v3.c 2 _ rfl; have f_o_v3_2 := x_o_v3.f 2 _ rfl; have c_o_v3_3 := x_o_v3.c 3 _ rfl; have f_o_v3_3 := x_o_v3.f 3 _ rfl; have c_o_v3_4 := x_o_v3.c 4 _ rfl; have f_o_v3_4 := x_o_v3.f 4 _ rfl; have c_o_v3_5 := x_o_v3.c 5 _ rfl; have f_o_v3_5 := x_o_v3.f 5 _ rfl; have x_n_v3 : Box v3 (b94) [.int .u64 ah, .int .u64 al] := (by refine Box.below ?_ hv3; repeat (first | (with_reducible assumption) | (with_reducible refine Box.drew ?_) | (with_reducible refine Box.drewN ?_ _) | ((with_reducible refine Box.new ?_); simp; done) | (with_reducible apply Box.set2) | ((with_reducible apply Box.put); (with_reducible assumption); rfl) | (with_reducible refine Box.alloc ?_ _) | (with_reducible refine Box.other ?_ (by first | (dsimp only; omega) | omega) _))); have z_n_v3 := x_n_v3.lt; have c_n_v3_0 := x_n_v3.c 0 _ rfl; have f_n_v3_0 := x_n_v3.f 0 _ rfl; have c_n_v3_1 := x_n_v3.c 1 _ rfl; have f_n_v3_1 := x_n_v3.f 1 _ rfl; (first | (with_reducible have y := Box.below (Box.drew (Box.new rfl)) hv3) | (with_reducible have y := Box.below (Box.new rfl) hv3) | (with_reducible have y := Box.below y hv3) | (have y := trivial)); (try simp only [World.size_alloc] at y); try (have yz := Box.lt y; have y0 := Box.c y 0 _ rfl; have yf0 := Box.f y 0 _ rfl; have y1 := Box.c y 1 _ rfl; have yf1 := Box.f y 1 _ rfl)))
              all_goals
                go_wp2_with fail
                go_meet
                refine ⟨_, rfl, rfl, ?_, ?_, ?_, ?_, ?_⟩
                all_goals first
                  | ((repeat (first | (with_reducible assumption) | (with_reducible refine Box.drew ?_) | (with_reducible refine Box.drewN ?_ _) | ((with_reducible refine Box.new ?_); simp; done) | (with_reducible apply Box.set2) | (with_reducible refine Box.alloc ?_ _) | (with_reducible refine Box.other ?_ (by first | (dsimp only; omega) | omega) _))); done)
                  | (go_grown; done)
          case rest =>
            as_aux_lemma =>
              obtain ⟨b95, rfl, rfl, x_r95, x_x95, x_o95, x_n95, hB95⟩ := hcut
              obtain ⟨w95, rfl⟩ : ∃ u : World, u = wc := ⟨_, rfl⟩
              clear hB94 hs94 x_x94 z_x94 c_x94_0 c_x94_1 c_x94_2 c_x94_3 c_x94_4 c_x94_5 f_x94_0 f_x94_1 f_x94_2 f_x94_3 f_x94_4 f_x94_5 x_o94 z_o94 c_o94_0 c_o94_1 c_o94_2 c_o94_3 c_o94_4 c_o94_5 f_o94_0 f_o94_1 f_o94_2 f_o94_3 f_o94_4 f_o94_5 x_n94 z_n94 c_n94_0 c_n94_1 f_n94_0 f_n94_1
              have hs95 : w.heap.size ≤ w95.heap.size := hB95.size
              have z_x95 := x_x95.lt
              have c_x95_0 := x_x95.c 0 _ rfl; have f_x95_0 := x_x95.f 0 _ rfl
              have c_x95_1 := x_x95.c 1 _ rfl; have f_x95_1 := x_x95.f 1 _ rfl
              have c_x95_2 := x_x95.c 2 _ rfl; have f_x95_2 := x_x95.f 2 _ rfl
              have c_x95_3 := x_x95.c 3 _ rfl; have f_x95_3 := x_x95.f 3 _ rfl
              have c_x95_4 := x_x95.c 4 _ rfl; have f_x95_4 := x_x95.f 4 _ rfl
              have c_x95_5 := x_x95.c 5 _ rfl; have f_x95_5 := x_x95.f 5 _ rfl
              have z_o95 := x_o95.lt
              have c_o95_0 := x_o95.c 0 _ rfl; have f_o95_0 := x_o95.f 0 _ rfl
              have c_o95_1 := x_o95.c 1 _ rfl; have f_o95_1 := x_o95.f 1 _ rfl
              have c_o95_2 := x_o95.c 2 _ rfl; have f_o95_2 := x_o95.f 2 _ rfl
              have c_o95_3 := x_o95.c 3 _ rfl; have f_o95_3 := x_o95.f 3 _ rfl
              have c_o95_4 := x_o95.c 4 _ rfl; have f_o95_4 := x_o95.f 4 _ rfl
              have c_o95_5 := x_o95.c 5 _ rfl; have f_o95_5 := x_o95.f 5 _ rfl
              have z_n95 := x_n95.lt
              have c_n95_0 := x_n95.c 0 _ rfl; have f_n95_0 := x_n95.f 0 _ rfl
              have c_n95_1 := x_n95.c 1 _ rfl; have f_n95_1 := x_n95.f 1 _ rfl
              have z_r95 := x_r95.lt
              have c_r95_0 := x_r95.c 0 _ rfl; have f_r95_0 := x_r95.f 0 _ rfl
              have c_r95_1 := x_r95.c 1 _ rfl; have f_r95_1 := x_r95.f 1 _ rfl
              go_wp2_with fail
              refine (mul_nm (h := 0) (l := tp) _ k5 k2 n9 M4).mono ?_
              rintro e w96 ⟨rfl, hb⟩
              have hB96 : Below w.heap.size w w96 := below_thru (by go_grown) hb
              have hs96 : w.heap.size ≤ w96.heap.size := hB96.size
              have x_x96 : Box w96 (w.heap.size) [.int .i64 bu, .int .i64 ra, .int .i64 pe, .int .i64 le, .int .i64 pt, .int .u64 a] := (by refine Box.below ?_ hb; repeat (first | (with_reducible assumption) | (with_reducible refine Box.drew ?_) | (with_reducible refine Box.drewN ?_ _) | ((with_reducible refine Box.new ?_); simp; done) | (with_reducible apply Box.set2) | ((with_reducible apply Box.put); (with_reducible assumption); rfl) | (with_reducible refine Box.alloc ?_ _) | (with_reducible refine Box.other ?_ (by first | (dsimp only; omega) | omega) _)))
              have z_x96 := x_x96.lt
              have c_x96_0 := x_x96.c 0 _ rfl
              have f_x96_0 := x_x96.f 0 _ rfl
              have c_x96_1 := x_x96.c 1 _ rfl
              have f_x96_1 := x_x96.f 1 _ rfl
              have c_x96_2 := x_x96.c 2 _ rfl
              have f_x96_2 := x_x96.f 2 _ rfl
              have c_x96_3 := x_x96.c 3 _ rfl
              have f_x96_3 := x_x96.f 3 _ rfl
              have c_x96_4 := x_x96.c 4 _ rfl
              have f_x96_4 := x_x96.f 4 _ rfl
              have c_x96_5 := x_x96.c 5 _ rfl
              have f_x96_5 := x_x96.f 5 _ rfl
              have x_o96 : Box w96 (w81.heap.size) [.int .i64 bu, .int .i64 ra, .int .i64 pe, .int .i64 bu, .int .i64 0, .int .u64 t] := (by refine Box.below ?_ hb; repeat (first | (with_reducible assumption) | (with_reducible refine Box.drew ?_) | (with_reducible refine Box.drewN ?_ _) | ((with_reducible refine Box.new ?_); simp; done) | (with_reducible apply Box.set2) | ((with_reducible apply Box.put); (with_reducible assumption); rfl) | (with_reducible refine Box.alloc ?_ _) | (with_reducible refine Box.other ?_ (by first | (dsimp only; omega) | omega) _)))
              have z_o96 := x_o96.lt
              have c_o96_0 := x_o96.c 0 _ rfl
              have f_o96_0 := x_o96.f 0 _ rfl
              have c_o96_1 := x_o96.c 1 _ rfl
              have f_o96_1 := x_o96.f 1 _ rfl
              have c_o96_2 := x_o96.c 2 _ rfl
              have f_o96_2 := x_o96.f 2 _ rfl
              have c_o96_3 := x_o96.c 3 _ rfl
              have f_o96_3 := x_o96.f 3 _ rfl
              have c_o96_4 := x_o96.c 4 _ rfl
              have f_o96_4 := x_o96.f 4 _ rfl
              have c_o96_5 := x_o96.c 5 _ rfl
              have f_o96_5 := x_o96.f 5 _ rfl
              have x_n96 : Box w96 (b94) [.int .u64 ah, .int .u64 al] := (by refine Box.below ?_ hb; repeat (first | (with_reducible assumption) | (with_reducible refine Box.drew ?_) | (with_reducible refine Box.drewN ?_ _) | ((with_reducible refine Box.new ?_); simp; done) | (with_reducible apply Box.set2) | ((with_reducible apply Box.put); (with_reducible assumption); rfl) | (with_reducible refine Box.alloc ?_ _) | (with_reducible refine Box.other ?_ (by first | (dsimp only; omega) | omega) _)))
              have z_n96 := x_n96.lt
              have c_n96_0 := x_n96.c 0 _ rfl
              have f_n96_0 := x_n96.f 0 _ rfl
              have c_n96_1 := x_n96.c 1 _ rfl
              have f_n96_1 := x_n96.f 1 _ rfl
              have x_r96 : Box w96 (b95) [.int .u64 0, .int .u64 tp] := (by refine Box.below ?_ hb; repeat (first | (with_reducible assumption) | (with_reducible refine Box.drew ?_) | (with_reducible refine Box.drewN ?_ _) | ((with_reducible refine Box.new ?_); simp; done) | (with_reducible apply Box.set2) | ((with_reducible apply Box.put); (with_reducible assumption); rfl) | (with_reducible refine Box.alloc ?_ _) | (with_reducible refine Box.other ?_ (by first | (dsimp only; omega) | omega) _)))
              have z_r96 := x_r96.lt
              have c_r96_0 := x_r96.c 0 _ rfl
              have f_r96_0 := x_r96.f 0 _ rfl
              have c_r96_1 := x_r96.c 1 _ rfl
              have f_r96_1 := x_r96.f 1 _ rfl
              have t96 := hb.size
              try simp at t96
              clear hb hB95 hs95 x_x95 z_x95 c_x95_0 c_x95_1 c_x95_2 c_x95_3 c_x95_4 c_x95_5 f_x95_0 f_x95_1 f_x95_2 f_x95_3 f_x95_4 f_x95_5 x_o95 z_o95 c_o95_0 c_o95_1 c_o95_2 c_o95_3 c_o95_4 c_o95_5 f_o95_0 f_o95_1 f_o95_2 f_o95_3 f_o95_4 f_o95_5 x_n95 z_n95 c_n95_0 c_n95_1 f_n95_0 f_n95_1 x_r95 z_r95 c_r95_0 c_r95_1 f_r95_0 f_r95_1
              go_upto_region 12 with fail
              have x_p110 : Box (w96.alloc (.cells #[.int .u64 0, .int .u64 tp] 55)) w96.heap.size [.int .u64 0, .int .u64 tp] := Box.new rfl
              have x_x110 := Box.alloc x_x96 (.cells #[.int .u64 0, .int .u64 tp] 55)
              have x_o110 := Box.alloc x_o96 (.cells #[.int .u64 0, .int .u64 tp] 55)
              have x_n110 := Box.alloc x_n96 (.cells #[.int .u64 0, .int .u64 tp] 55)
              have x_r110 := Box.alloc x_r96 (.cells #[.int .u64 0, .int .u64 tp] 55)
              have hB110 := hB96.alloc hs96 (.cells #[.int .u64 0, .int .u64 tp] 55)
              have hs110 := hB110.size
              obtain ⟨w110, h9⟩ : ∃ W, w96.alloc (.cells #[.int .u64 0, .int .u64 tp] 55) = W := ⟨_, rfl⟩
              rw [h9] at x_p110 x_x110 x_o110 x_n110 x_r110 hB110 hs110 ⊢
              clear hB96 hs96 h9 x_x96 z_x96 c_x96_0 c_x96_1 c_x96_2 c_x96_3 c_x96_4 c_x96_5 f_x96_0 f_x96_1 f_x96_2 f_x96_3 f_x96_4 f_x96_5 x_o96 z_o96 c_o96_0 c_o96_1 c_o96_2 c_o96_3 c_o96_4 c_o96_5 f_o96_0 f_o96_1 f_o96_2 f_o96_3 f_o96_4 f_o96_5 x_n96 z_n96 c_n96_0 c_n96_1 f_n96_0 f_n96_1 x_r96 z_r96 c_r96_0 c_r96_1 f_r96_0 f_r96_1
              have z_x110 := x_x110.lt
              have c_x110_0 := x_x110.c 0 _ rfl; have f_x110_0 := x_x110.f 0 _ rfl
              have c_x110_1 := x_x110.c 1 _ rfl; have f_x110_1 := x_x110.f 1 _ rfl
              have c_x110_2 := x_x110.c 2 _ rfl; have f_x110_2 := x_x110.f 2 _ rfl
              have c_x110_3 := x_x110.c 3 _ rfl; have f_x110_3 := x_x110.f 3 _ rfl
              have c_x110_4 := x_x110.c 4 _ rfl; have f_x110_4 := x_x110.f 4 _ rfl
              have c_x110_5 := x_x110.c 5 _ rfl; have f_x110_5 := x_x110.f 5 _ rfl
              have z_o110 := x_o110.lt
              have c_o110_0 := x_o110.c 0 _ rfl; have f_o110_0 := x_o110.f 0 _ rfl
              have c_o110_1 := x_o110.c 1 _ rfl; have f_o110_1 := x_o110.f 1 _ rfl
              have c_o110_2 := x_o110.c 2 _ rfl; have f_o110_2 := x_o110.f 2 _ rfl
              have c_o110_3 := x_o110.c 3 _ rfl; have f_o110_3 := x_o110.f 3 _ rfl
              have c_o110_4 := x_o110.c 4 _ rfl; have f_o110_4 := x_o110.f 4 _ rfl
              have c_o110_5 := x_o110.c 5 _ rfl; have f_o110_5 := x_o110.f 5 _ rfl
              have z_n110 := x_n110.lt
              have c_n110_0 := x_n110.c 0 _ rfl; have f_n110_0 := x_n110.f 0 _ rfl
              have c_n110_1 := x_n110.c 1 _ rfl; have f_n110_1 := x_n110.f 1 _ rfl
              have z_r110 := x_r110.lt
              have c_r110_0 := x_r110.c 0 _ rfl; have f_r110_0 := x_r110.f 0 _ rfl
              have c_r110_1 := x_r110.c 1 _ rfl; have f_r110_1 := x_r110.f 1 _ rfl
              have z_p110 := x_p110.lt
              have c_p110_0 := x_p110.c 0 _ rfl; have f_p110_0 := x_p110.f 0 _ rfl
              have c_p110_1 := x_p110.c 1 _ rfl; have f_p110_1 := x_p110.f 1 _ rfl
              go_wp2_with fail
              refine (cmp_nm _ n6 n9 C).mono ?_
              rintro e w111 ⟨rfl, hb⟩
              have hB111 : Below w.heap.size w w111 := below_thru (by go_grown) hb
              have hs111 : w.heap.size ≤ w111.heap.size := hB111.size
              have x_x111 : Box w111 (w.heap.size) [.int .i64 bu, .int .i64 ra, .int .i64 pe, .int .i64 le, .int .i64 pt, .int .u64 a] := (by refine Box.below ?_ hb; repeat (first | (with_reducible assumption) | (with_reducible refine Box.drew ?_) | (with_reducible refine Box.drewN ?_ _) | ((with_reducible refine Box.new ?_); simp; done) | (with_reducible apply Box.set2) | ((with_reducible apply Box.put); (with_reducible assumption); rfl) | (with_reducible refine Box.alloc ?_ _) | (with_reducible refine Box.other ?_ (by first | (dsimp only; omega) | omega) _)))
              have z_x111 := x_x111.lt
              have c_x111_0 := x_x111.c 0 _ rfl
              have f_x111_0 := x_x111.f 0 _ rfl
              have c_x111_1 := x_x111.c 1 _ rfl
              have f_x111_1 := x_x111.f 1 _ rfl
              have c_x111_2 := x_x111.c 2 _ rfl
              have f_x111_2 := x_x111.f 2 _ rfl
              have c_x111_3 := x_x111.c 3 _ rfl
              have f_x111_3 := x_x111.f 3 _ rfl
              have c_x111_4 := x_x111.c 4 _ rfl
              have f_x111_4 := x_x111.f 4 _ rfl
              have c_x111_5 := x_x111.c 5 _ rfl
              have f_x111_5 := x_x111.f 5 _ rfl
              have x_o111 : Box w111 (w81.heap.size) [.int .i64 bu, .int .i64 ra, .int .i64 pe, .int .i64 bu, .int .i64 0, .int .u64 t] := (by refine Box.below ?_ hb; repeat (first | (with_reducible assumption) | (with_reducible refine Box.drew ?_) | (with_reducible refine Box.drewN ?_ _) | ((with_reducible refine Box.new ?_); simp; done) | (with_reducible apply Box.set2) | ((with_reducible apply Box.put); (with_reducible assumption); rfl) | (with_reducible refine Box.alloc ?_ _) | (with_reducible refine Box.other ?_ (by first | (dsimp only; omega) | omega) _)))
              have z_o111 := x_o111.lt
              have c_o111_0 := x_o111.c 0 _ rfl
              have f_o111_0 := x_o111.f 0 _ rfl
              have c_o111_1 := x_o111.c 1 _ rfl
              have f_o111_1 := x_o111.f 1 _ rfl
              have c_o111_2 := x_o111.c 2 _ rfl
              have f_o111_2 := x_o111.f 2 _ rfl
              have c_o111_3 := x_o111.c 3 _ rfl
              have f_o111_3 := x_o111.f 3 _ rfl
              have c_o111_4 := x_o111.c 4 _ rfl
              have f_o111_4 := x_o111.f 4 _ rfl
              have c_o111_5 := x_o111.c 5 _ rfl
              have f_o111_5 := x_o111.f 5 _ rfl
              have x_n111 : Box w111 (b94) [.int .u64 ah, .int .u64 al] := (by refine Box.below ?_ hb; repeat (first | (with_reducible assumption) | (with_reducible refine Box.drew ?_) | (with_reducible refine Box.drewN ?_ _) | ((with_reducible refine Box.new ?_); simp; done) | (with_reducible apply Box.set2) | ((with_reducible apply Box.put); (with_reducible assumption); rfl) | (with_reducible refine Box.alloc ?_ _) | (with_reducible refine Box.other ?_ (by first | (dsimp only; omega) | omega) _)))
              have z_n111 := x_n111.lt
              have c_n111_0 := x_n111.c 0 _ rfl
              have f_n111_0 := x_n111.f 0 _ rfl
              have c_n111_1 := x_n111.c 1 _ rfl
              have f_n111_1 := x_n111.f 1 _ rfl
              have x_r111 : Box w111 (b95) [.int .u64 0, .int .u64 tp] := (by refine Box.below ?_ hb; repeat (first | (with_reducible assumption) | (with_reducible refine Box.drew ?_) | (with_reducible refine Box.drewN ?_ _) | ((with_reducible refine Box.new ?_); simp; done) | (with_reducible apply Box.set2) | ((with_reducible apply Box.put); (with_reducible assumption); rfl) | (with_reducible refine Box.alloc ?_ _) | (with_reducible refine Box.other ?_ (by first | (dsimp only; omega) | omega) _)))
              have z_r111 := x_r111.lt
              have c_r111_0 := x_r111.c 0 _ rfl
              have f_r111_0 := x_r111.f 0 _ rfl
              have c_r111_1 := x_r111.c 1 _ rfl
              have f_r111_1 := x_r111.f 1 _ rfl
              have x_p111 : Box w111 (w96.heap.size) [.int .u64 0, .int .u64 tp] := (by refine Box.below ?_ hb; repeat (first | (with_reducible assumption) | (with_reducible refine Box.drew ?_) | (with_reducible refine Box.drewN ?_ _) | ((with_reducible refine Box.new ?_); simp; done) | (with_reducible apply Box.set2) | ((with_reducible apply Box.put); (with_reducible assumption); rfl) | (with_reducible refine Box.alloc ?_ _) | (with_reducible refine Box.other ?_ (by first | (dsimp only; omega) | omega) _)))
              have z_p111 := x_p111.lt
              have c_p111_0 := x_p111.c 0 _ rfl
              have f_p111_0 := x_p111.f 0 _ rfl
              have c_p111_1 := x_p111.c 1 _ rfl
              have f_p111_1 := x_p111.f 1 _ rfl
              have t111 := hb.size
              try simp at t111
              clear hb hB110 hs110 x_x110 z_x110 c_x110_0 c_x110_1 c_x110_2 c_x110_3 c_x110_4 c_x110_5 f_x110_0 f_x110_1 f_x110_2 f_x110_3 f_x110_4 f_x110_5 x_o110 z_o110 c_o110_0 c_o110_1 c_o110_2 c_o110_3 c_o110_4 c_o110_5 f_o110_0 f_o110_1 f_o110_2 f_o110_3 f_o110_4 f_o110_5 x_n110 z_n110 c_n110_0 c_n110_1 f_n110_0 f_n110_1 x_r110 z_r110 c_r110_0 c_r110_1 f_r110_0 f_r110_1 x_p110 z_p110 c_p110_0 c_p110_1 f_p110_0 f_p110_1
              go_wp2_with fail
              refine (alive03_any _).mono ?_
              rintro e w112 ⟨rfl, hb⟩
              have hB112 : Below w.heap.size w w112 := below_thru (by go_grown) hb
              have hs112 : w.heap.size ≤ w112.heap.size := hB112.size
              have x_x112 : Box w112 (w.heap.size) [.int .i64 bu, .int .i64 ra, .int .i64 pe, .int .i64 le, .int .i64 pt, .int .u64 a] := (by refine Box.below ?_ hb; repeat (first | (with_reducible assumption) | (with_reducible refine Box.drew ?_) | (with_reducible refine Box.drewN ?_ _) | ((with_reducible refine Box.new ?_); simp; done) | (with_reducible apply Box.set2) | ((with_reducible apply Box.put); (with_reducible assumption); rfl) | (with_reducible refine Box.alloc ?_ _) | (with_reducible refine Box.other ?_ (by first | (dsimp only; omega) | omega) _)))
              have z_x112 := x_x112.lt
              have c_x112_0 := x_x112.c 0 _ rfl
              have f_x112_0 := x_x112.f 0 _ rfl
              have c_x112_1 := x_x112.c 1 _ rfl
              have f_x112_1 := x_x112.f 1 _ rfl
              have c_x112_2 := x_x112.c 2 _ rfl
              have f_x112_2 := x_x112.f 2 _ rfl
              have c_x112_3 := x_x112.c 3 _ rfl
              have f_x112_3 := x_x112.f 3 _ rfl
              have c_x112_4 := x_x112.c 4 _ rfl
              have f_x112_4 := x_x112.f 4 _ rfl
              have c_x112_5 := x_x112.c 5 _ rfl
              have f_x112_5 := x_x112.f 5 _ rfl
              have x_o112 : Box w112 (w81.heap.size) [.int .i64 bu, .int .i64 ra, .int .i64 pe, .int .i64 bu, .int .i64 0, .int .u64 t] := (by refine Box.below ?_ hb; repeat (first | (with_reducible assumption) | (with_reducible refine Box.drew ?_) | (with_reducible refine Box.drewN ?_ _) | ((with_reducible refine Box.new ?_); simp; done) | (with_reducible apply Box.set2) | ((with_reducible apply Box.put); (with_reducible assumption); rfl) | (with_reducible refine Box.alloc ?_ _) | (with_reducible refine Box.other ?_ (by first | (dsimp only; omega) | omega) _)))
              have z_o112 := x_o112.lt
              have c_o112_0 := x_o112.c 0 _ rfl
              have f_o112_0 := x_o112.f 0 _ rfl
              have c_o112_1 := x_o112.c 1 _ rfl
              have f_o112_1 := x_o112.f 1 _ rfl
              have c_o112_2 := x_o112.c 2 _ rfl
              have f_o112_2 := x_o112.f 2 _ rfl
              have c_o112_3 := x_o112.c 3 _ rfl
              have f_o112_3 := x_o112.f 3 _ rfl
              have c_o112_4 := x_o112.c 4 _ rfl
              have f_o112_4 := x_o112.f 4 _ rfl
              have c_o112_5 := x_o112.c 5 _ rfl
              have f_o112_5 := x_o112.f 5 _ rfl
              have x_n112 : Box w112 (b94) [.int .u64 ah, .int .u64 al] := (by refine Box.below ?_ hb; repeat (first | (with_reducible assumption) | (with_reducible refine Box.drew ?_) | (with_reducible refine Box.drewN ?_ _) | ((with_reducible refine Box.new ?_); simp; done) | (with_reducible apply Box.set2) | ((with_reducible apply Box.put); (with_reducible assumption); rfl) | (with_reducible refine Box.alloc ?_ _) | (with_reducible refine Box.other ?_ (by first | (dsimp only; omega) | omega) _)))
              have z_n112 := x_n112.lt
              have c_n112_0 := x_n112.c 0 _ rfl
              have f_n112_0 := x_n112.f 0 _ rfl
              have c_n112_1 := x_n112.c 1 _ rfl
              have f_n112_1 := x_n112.f 1 _ rfl
              have x_r112 : Box w112 (b95) [.int .u64 0, .int .u64 tp] := (by refine Box.below ?_ hb; repeat (first | (with_reducible assumption) | (with_reducible refine Box.drew ?_) | (with_reducible refine Box.drewN ?_ _) | ((with_reducible refine Box.new ?_); simp; done) | (with_reducible apply Box.set2) | ((with_reducible apply Box.put); (with_reducible assumption); rfl) | (with_reducible refine Box.alloc ?_ _) | (with_reducible refine Box.other ?_ (by first | (dsimp only; omega) | omega) _)))
              have z_r112 := x_r112.lt
              have c_r112_0 := x_r112.c 0 _ rfl
              have f_r112_0 := x_r112.f 0 _ rfl
              have c_r112_1 := x_r112.c 1 _ rfl
              have f_r112_1 := x_r112.f 1 _ rfl
              have x_p112 : Box w112 (w96.heap.size) [.int .u64 0, .int .u64 tp] := (by refine Box.below ?_ hb; repeat (first | (with_reducible assumption) | (with_reducible refine Box.drew ?_) | (with_reducible refine Box.drewN ?_ _) | ((with_reducible refine Box.new ?_); simp; done) | (with_reducible apply Box.set2) | ((with_reducible apply Box.put); (with_reducible assumption); rfl) | (with_reducible refine Box.alloc ?_ _) | (with_reducible refine Box.other ?_ (by first | (dsimp only; omega) | omega) _)))
              have z_p112 := x_p112.lt
              have c_p112_0 := x_p112.c 0 _ rfl
              have f_p112_0 := x_p112.f 0 _ rfl
              have c_p112_1 := x_p112.c 1 _ rfl
              have f_p112_1 := x_p112.f 1 _ rfl
              have t112 := hb.size
              try simp at t112
              clear hb hB111 hs111 x_x111 z_x111 c_x111_0 c_x111_1 c_x111_2 c_x111_3 c_x111_4 c_x111_5 f_x111_0 f_x111_1 f_x111_2 f_x111_3 f_x111_4 f_x111_5 x_o111 z_o111 c_o111_0 c_o111_1 c_o111_2 c_o111_3 c_o111_4 c_o111_5 f_o111_0 f_o111_1 f_o111_2 f_o111_3 f_o111_4 f_o111_5 x_n111 z_n111 c_n111_0 c_n111_1 f_n111_0 f_n111_1 x_r111 z_r111 c_r111_0 c_r111_1 f_r111_0 f_r111_1 x_p111 z_p111 c_p111_0 c_p111_1 f_p111_0 f_p111_1
              go_wp2_with fail
              go_returns
              exact ⟨rfl, by go_grown⟩

end Go.Proofs.Ytikhdfmdbpcajaa
