/-
  BucketBound, walked over the contracts of package bucket: it returns true.
-/
import Derived.Test.YtikhdfmdbpcajaaLaw03
import Derived.Test.YtikhdfmdbpcajaaSlices
import Derived.Deep.QuietTactic
import Derived.BigQuiet
namespace Go.Proofs.Ytikhdfmdbpcajaa
open Go.RowKit

theorem isU_nil : isU 0 := u0
theorem full_is {bu ra pe t : Int} (h : Hid (limE bu ra pe = 0)) (w : World) :
    Calls Try.prog 10 #[.agg #[.int .i64 bu, .int .i64 ra, .int .i64 pe], .int .u64 t] w fun e w' =>
      e = .returned (.tuple #[.agg #[.int .i64 bu, .int .i64 ra, .int .i64 pe, .int .i64 bu, .int .i64 0, .int .u64 t], .int .i64 0]) ∧ Below w.heap.size w w' := full_ok h w
theorem bound_refill {bu ra pe L P T a t ch : Int} (hb : Buc bu ra pe L P T) (hT : T ≤ t) (h : ch * pe + vol pe L P ≤ bu * pe + (T - a) * ra) :
    ch * pe + vol pe (filL bu ra pe L P T t) (filP bu ra pe L P T t) ≤ bu * pe + (t - a) * ra := by
  have hv := hb.vol_filled hT
  have e : (t - a) * ra = (T - a) * ra + (t - T) * ra := by rw [← Int.add_mul]; congr 1; omega
  have := Int.min_le_left (vol pe L P + (t - T) * ra) (bu * pe)
  omega
theorem bound_charge {pe L P ch c r : Int} (h : ch * pe + vol pe L P ≤ r) : (ch + c) * pe + vol pe (L - c) P ≤ r := by
  rw [vol_charged, Int.add_mul]
  omega
theorem bound_end {bu pe ch v g : Int} (hp : 0 < pe) (hv : 0 ≤ v) (h : ch * pe + v ≤ bu * pe + g) : ch ≤ g / pe + bu := by
  have e : (ch - bu) * pe ≤ g := by rw [Int.sub_mul]; omega
  have := (Int.le_ediv_iff_mul_le hp).2 e
  omega

set_option maxRecDepth 100000 in
set_option maxHeartbeats 6400000 in
theorem bound_l {bu ra pe a : Int} {at0 at1 : Option Addr} {cap cap1 : Nat} {ts cs : List Int} (w : World) (hi : Ints w .u64 at0 cap ts) (hj : Ints w .i64 at1 cap1 cs) (h : Hid (limE bu ra pe = 8)) :
    Calls Try.prog 8 #[.agg #[.int .i64 bu, .int .i64 ra, .int .i64 pe], .int .u64 a, .slice at0 ts.length cap, .slice at1 cs.length cap1] w fun e w' => e = .returned (.bool true) ∧ Below w.heap.size w w' := by
  have i1 := hi.room
  have i2 := hi.most
  have i3 := hj.room
  have i4 := hj.most
  go_enter Try.func8, Try.ntmps8
  go_wp2_with fail
  refine (rlimit_is h _).mono ?_
  rintro e w1 ⟨rfl, hb⟩
  have hB1 : Below w.heap.size w w1 := below_thru (by go_grown) hb
  have hs1 : w.heap.size ≤ w1.heap.size := hB1.size
  have x_l1 : Box w1 (w.heap.size) [.int .i64 bu, .int .i64 ra, .int .i64 pe] := (by refine Box.below ?_ hb; repeat (first | (with_reducible assumption) | (with_reducible refine Box.drew ?_) | (with_reducible refine Box.drewN ?_ _) | ((with_reducible refine Box.new ?_); simp; done) | (with_reducible apply Box.set2) | ((with_reducible apply Box.put); (with_reducible assumption); rfl) | (with_reducible refine Box.alloc ?_ _) | (with_reducible refine Box.other ?_ (by first | (dsimp only; omega) | omega) _)))
  have z_l1 := x_l1.lt
  have c_l1_0 := x_l1.c 0 _ rfl
  have f_l1_0 := x_l1.f 0 _ rfl
  have c_l1_1 := x_l1.c 1 _ rfl
  have f_l1_1 := x_l1.f 1 _ rfl
  have c_l1_2 := x_l1.c 2 _ rfl
  have f_l1_2 := x_l1.f 2 _ rfl
  have t1 := hb.size
  try simp at t1
  clear hb
  go_wp2_with fail
  refine (alive03_any _).mono ?_
  rintro e w2 ⟨rfl, hb⟩
  have hB2 : Below w.heap.size w w2 := below_thru (by go_grown) hb
  have hs2 : w.heap.size ≤ w2.heap.size := hB2.size
  have x_l2 : Box w2 (w.heap.size) [.int .i64 bu, .int .i64 ra, .int .i64 pe] := (by refine Box.below ?_ hb; repeat (first | (with_reducible assumption) | (with_reducible refine Box.drew ?_) | (with_reducible refine Box.drewN ?_ _) | ((with_reducible refine Box.new ?_); simp; done) | (with_reducible apply Box.set2) | ((with_reducible apply Box.put); (with_reducible assumption); rfl) | (with_reducible refine Box.alloc ?_ _) | (with_reducible refine Box.other ?_ (by first | (dsimp only; omega) | omega) _)))
  have z_l2 := x_l2.lt
  have c_l2_0 := x_l2.c 0 _ rfl
  have f_l2_0 := x_l2.f 0 _ rfl
  have c_l2_1 := x_l2.c 1 _ rfl
  have f_l2_1 := x_l2.f 1 _ rfl
  have c_l2_2 := x_l2.c 2 _ rfl
  have f_l2_2 := x_l2.f 2 _ rfl
  have t2 := hb.size
  try simp at t2
  clear hb hB1 hs1 x_l1 z_l1 c_l1_0 c_l1_1 c_l1_2 f_l1_0 f_l1_1 f_l1_2
  go_wp2_with fail
  go_returns
  exact ⟨rfl, by go_grown⟩

set_option maxRecDepth 100000 in
set_option maxHeartbeats 6400000 in
theorem bound_long {bu ra pe a : Int} {at0 at1 : Option Addr} {cap cap1 : Nat} {ts cs : List Int} (w : World) (hi : Ints w .u64 at0 cap ts) (hj : Ints w .i64 at1 cap1 cs) (h : Hid (limE bu ra pe = 0)) (hl : 30 < ts.length) :
    Calls Try.prog 8 #[.agg #[.int .i64 bu, .int .i64 ra, .int .i64 pe], .int .u64 a, .slice at0 ts.length cap, .slice at1 cs.length cap1] w fun e w' => e = .returned (.bool true) ∧ Below w.heap.size w w' := by
  have i1 := hi.room
  have i2 := hi.most
  have i3 := hj.room
  have i4 := hj.most
  have d1 : decide ((30 : Int) < (ts.length : Int)) = true := decide_eq_true (by omega)
  go_enter Try.func8, Try.ntmps8
  go_wp2_with fail
  refine (rlimit_is h _).mono ?_
  rintro e w1 ⟨rfl, hb⟩
  have hB1 : Below w.heap.size w w1 := below_thru (by go_grown) hb
  have hs1 : w.heap.size ≤ w1.heap.size := hB1.size
  have x_l1 : Box w1 (w.heap.size) [.int .i64 bu, .int .i64 ra, .int .i64 pe] := (by refine Box.below ?_ hb; repeat (first | (with_reducible assumption) | (with_reducible refine Box.drew ?_) | (with_reducible refine Box.drewN ?_ _) | ((with_reducible refine Box.new ?_); simp; done) | (with_reducible apply Box.set2) | ((with_reducible apply Box.put); (with_reducible assumption); rfl) | (with_reducible refine Box.alloc ?_ _) | (with_reducible refine Box.other ?_ (by first | (dsimp only; omega) | omega) _)))
  have z_l1 := x_l1.lt
  have c_l1_0 := x_l1.c 0 _ rfl
  have f_l1_0 := x_l1.f 0 _ rfl
  have c_l1_1 := x_l1.c 1 _ rfl
  have f_l1_1 := x_l1.f 1 _ rfl
  have c_l1_2 := x_l1.c 2 _ rfl
  have f_l1_2 := x_l1.f 2 _ rfl
  have t1 := hb.size
  try simp at t1
  clear hb
  go_wp2_with fail
  refine (alive03_any _).mono ?_
  rintro e w2 ⟨rfl, hb⟩
  have hB2 : Below w.heap.size w w2 := below_thru (by go_grown) hb
  have hs2 : w.heap.size ≤ w2.heap.size := hB2.size
  have x_l2 : Box w2 (w.heap.size) [.int .i64 bu, .int .i64 ra, .int .i64 pe] := (by refine Box.below ?_ hb; repeat (first | (with_reducible assumption) | (with_reducible refine Box.drew ?_) | (with_reducible refine Box.drewN ?_ _) | ((with_reducible refine Box.new ?_); simp; done) | (with_reducible apply Box.set2) | ((with_reducible apply Box.put); (with_reducible assumption); rfl) | (with_reducible refine Box.alloc ?_ _) | (with_reducible refine Box.other ?_ (by first | (dsimp only; omega) | omega) _)))
  have z_l2 := x_l2.lt
  have c_l2_0 := x_l2.c 0 _ rfl
  have f_l2_0 := x_l2.f 0 _ rfl
  have c_l2_1 := x_l2.c 1 _ rfl
  have f_l2_1 := x_l2.f 1 _ rfl
  have c_l2_2 := x_l2.c 2 _ rfl
  have f_l2_2 := x_l2.f 2 _ rfl
  have t2 := hb.size
  try simp at t2
  clear hb hB1 hs1 x_l1 z_l1 c_l1_0 c_l1_1 c_l1_2 f_l1_0 f_l1_1 f_l1_2
  go_wp2_with fail
  go_returns
  exact ⟨rfl, by go_grown⟩

set_option maxRecDepth 100000 in
set_option maxHeartbeats 6400000 in
theorem bound_few {bu ra pe a : Int} {at0 at1 : Option Addr} {cap cap1 : Nat} {ts cs : List Int} (w : World) (hi : Ints w .u64 at0 cap ts) (hj : Ints w .i64 at1 cap1 cs) (h : Hid (limE bu ra pe = 0)) (hl : ts.length ≤ 30) (hm : cs.length < ts.length) :
    Calls Try.prog 8 #[.agg #[.int .i64 bu, .int .i64 ra, .int .i64 pe], .int .u64 a, .slice at0 ts.length cap, .slice at1 cs.length cap1] w fun e w' => e = .returned (.bool true) ∧ Below w.heap.size w w' := by
  have i1 := hi.room
  have i2 := hi.most
  have i3 := hj.room
  have i4 := hj.most
  have d1 : decide ((30 : Int) < (ts.length : Int)) = false := decide_eq_false (by omega)
  have d2 : decide ((cs.length : Int) < (ts.length : Int)) = true := decide_eq_true (by omega)
  go_enter Try.func8, Try.ntmps8
  go_wp2_with fail
  refine (rlimit_is h _).mono ?_
  rintro e w1 ⟨rfl, hb⟩
  have hB1 : Below w.heap.size w w1 := below_thru (by go_grown) hb
  have hs1 : w.heap.size ≤ w1.heap.size := hB1.size
  have x_l1 : Box w1 (w.heap.size) [.int .i64 bu, .int .i64 ra, .int .i64 pe] := (by refine Box.below ?_ hb; repeat (first | (with_reducible assumption) | (with_reducible refine Box.drew ?_) | (with_reducible refine Box.drewN ?_ _) | ((with_reducible refine Box.new ?_); simp; done) | (with_reducible apply Box.set2) | ((with_reducible apply Box.put); (with_reducible assumption); rfl) | (with_reducible refine Box.alloc ?_ _) | (with_reducible refine Box.other ?_ (by first | (dsimp only; omega) | omega) _)))
  have z_l1 := x_l1.lt
  have c_l1_0 := x_l1.c 0 _ rfl
  have f_l1_0 := x_l1.f 0 _ rfl
  have c_l1_1 := x_l1.c 1 _ rfl
  have f_l1_1 := x_l1.f 1 _ rfl
  have c_l1_2 := x_l1.c 2 _ rfl
  have f_l1_2 := x_l1.f 2 _ rfl
  have t1 := hb.size
  try simp at t1
  clear hb
  go_wp2_with fail
  refine (alive03_any _).mono ?_
  rintro e w2 ⟨rfl, hb⟩
  have hB2 : Below w.heap.size w w2 := below_thru (by go_grown) hb
  have hs2 : w.heap.size ≤ w2.heap.size := hB2.size
  have x_l2 : Box w2 (w.heap.size) [.int .i64 bu, .int .i64 ra, .int .i64 pe] := (by refine Box.below ?_ hb; repeat (first | (with_reducible assumption) | (with_reducible refine Box.drew ?_) | (with_reducible refine Box.drewN ?_ _) | ((with_reducible refine Box.new ?_); simp; done) | (with_reducible apply Box.set2) | ((with_reducible apply Box.put); (with_reducible assumption); rfl) | (with_reducible refine Box.alloc ?_ _) | (with_reducible refine Box.other ?_ (by first | (dsimp only; omega) | omega) _)))
  have z_l2 := x_l2.lt
  have c_l2_0 := x_l2.c 0 _ rfl
  have f_l2_0 := x_l2.f 0 _ rfl
  have c_l2_1 := x_l2.c 1 _ rfl
  have f_l2_1 := x_l2.f 1 _ rfl
  have c_l2_2 := x_l2.c 2 _ rfl
  have f_l2_2 := x_l2.f 2 _ rfl
  have t2 := hb.size
  try simp at t2
  clear hb hB1 hs1 x_l1 z_l1 c_l1_0 c_l1_1 c_l1_2 f_l1_0 f_l1_1 f_l1_2
  go_wp2_with fail
  go_returns
  exact ⟨rfl, by go_grown⟩

set_option maxRecDepth 100000 in
set_option maxHeartbeats 12800000 in
theorem bound_main {bu ra pe a : Int} {at0 at1 : Option Addr} {cap cap1 : Nat} {ts cs : List Int} (w : World) (hi : Ints w .u64 at0 cap ts) (hj : Ints w .i64 at1 cap1 cs) (h : Hid (limE bu ra pe = 0)) (ta : isU a) (ht : ∀ k, k < ts.length → isU (nth ts k)) (hc : ∀ k, k < cs.length → tickI (nth cs k)) (hl : ts.length ≤ 30) (hm : ts.length ≤ cs.length) :
    Calls Try.prog 8 #[.agg #[.int .i64 bu, .int .i64 ra, .int .i64 pe], .int .u64 a, .slice at0 ts.length cap, .slice at1 cs.length cap1] w fun e w' => e = .returned (.bool true) ∧ Below w.heap.size w w' := by
  have i1 := hi.room
  have i2 := hi.most
  have i3 := hj.room
  have i4 := hj.most
  have d1 : decide ((30 : Int) < (ts.length : Int)) = false := decide_eq_false (by omega)
  have d2 : decide ((cs.length : Int) < (ts.length : Int)) = false := decide_eq_false (by omega)
  have d3 : decide (cs.length < ts.length) = false := decide_eq_false (by omega)
  have d4 : decide (30 < ts.length) = false := decide_eq_false (by omega)
  have hB := Buc.full h.out ta
  have HB := Lib.hid hB
  have HV := Lib.hid (show (0 : Int) * pe + vol pe bu 0 ≤ bu * pe + (a - a) * ra by unfold vol; rw [Int.sub_self, Int.zero_mul, Int.zero_mul]; omega)
  clear hB
  go_enter Try.func8, Try.ntmps8
  go_wp2_with fail
  refine (rlimit_is h _).mono ?_
  rintro e w1 ⟨rfl, hb⟩
  have hB1 : Below w.heap.size w w1 := below_thru (by go_grown) hb
  have hs1 : w.heap.size ≤ w1.heap.size := hB1.size
  have x_l1 : Box w1 (w.heap.size) [.int .i64 bu, .int .i64 ra, .int .i64 pe] := (by refine Box.below ?_ hb; repeat (first | (with_reducible assumption) | (with_reducible refine Box.drew ?_) | (with_reducible refine Box.drewN ?_ _) | ((with_reducible refine Box.new ?_); simp; done) | (with_reducible apply Box.set2) | ((with_reducible apply Box.put); (with_reducible assumption); rfl) | (with_reducible refine Box.alloc ?_ _) | (with_reducible refine Box.other ?_ (by first | (dsimp only; omega) | omega) _)))
  have z_l1 := x_l1.lt
  have c_l1_0 := x_l1.c 0 _ rfl
  have f_l1_0 := x_l1.f 0 _ rfl
  have c_l1_1 := x_l1.c 1 _ rfl
  have f_l1_1 := x_l1.f 1 _ rfl
  have c_l1_2 := x_l1.c 2 _ rfl
  have f_l1_2 := x_l1.f 2 _ rfl
  have t1 := hb.size
  try simp at t1
  clear hb
  go_wp2_with fail
  refine (full_ok h _).mono ?_
  rintro e w2 ⟨rfl, hb⟩
  have hB2 : Below w.heap.size w w2 := below_thru (by go_grown) hb
  have hs2 : w.heap.size ≤ w2.heap.size := hB2.size
  have x_l2 : Box w2 (w.heap.size) [.int .i64 bu, .int .i64 ra, .int .i64 pe] := (by refine Box.below ?_ hb; repeat (first | (with_reducible assumption) | (with_reducible refine Box.drew ?_) | (with_reducible refine Box.drewN ?_ _) | ((with_reducible refine Box.new ?_); simp; done) | (with_reducible apply Box.set2) | ((with_reducible apply Box.put); (with_reducible assumption); rfl) | (with_reducible refine Box.alloc ?_ _) | (with_reducible refine Box.other ?_ (by first | (dsimp only; omega) | omega) _)))
  have z_l2 := x_l2.lt
  have c_l2_0 := x_l2.c 0 _ rfl
  have f_l2_0 := x_l2.f 0 _ rfl
  have c_l2_1 := x_l2.c 1 _ rfl
  have f_l2_1 := x_l2.f 1 _ rfl
  have c_l2_2 := x_l2.c 2 _ rfl
  have f_l2_2 := x_l2.f 2 _ rfl
  have t2 := hb.size
  try simp at t2
  clear hb hB1 hs1 x_l1 z_l1 c_l1_0 c_l1_1 c_l1_2 f_l1_0 f_l1_1 f_l1_2
  have hbb := z_l2
  go_upto_region 4 with fail
  have x_b30 : Box (w2.alloc (.cells #[.int .i64 bu, .int .i64 ra, .int .i64 pe, .int .i64 bu, .int .i64 0, .int .u64 a] 27)) w2.heap.size [.int .i64 bu, .int .i64 ra, .int .i64 pe, .int .i64 bu, .int .i64 0, .int .u64 a] := Box.new rfl
  have x_l30 := Box.alloc x_l2 (.cells #[.int .i64 bu, .int .i64 ra, .int .i64 pe, .int .i64 bu, .int .i64 0, .int .u64 a] 27)
  have hB30 := hB2.alloc hs2 (.cells #[.int .i64 bu, .int .i64 ra, .int .i64 pe, .int .i64 bu, .int .i64 0, .int .u64 a] 27)
  have hs30 := hB30.size
  obtain ⟨w30, h9⟩ : ∃ W, w2.alloc (.cells #[.int .i64 bu, .int .i64 ra, .int .i64 pe, .int .i64 bu, .int .i64 0, .int .u64 a] 27) = W := ⟨_, rfl⟩
  rw [h9] at x_b30 x_l30 hB30 hs30 ⊢
  clear hB2 hs2 h9 x_l2 z_l2 c_l2_0 c_l2_1 c_l2_2 f_l2_0 f_l2_1 f_l2_2
  have z_l30 := x_l30.lt
  have c_l30_0 := x_l30.c 0 _ rfl; have f_l30_0 := x_l30.f 0 _ rfl
  have c_l30_1 := x_l30.c 1 _ rfl; have f_l30_1 := x_l30.f 1 _ rfl
  have c_l30_2 := x_l30.c 2 _ rfl; have f_l30_2 := x_l30.f 2 _ rfl
  have z_b30 := x_b30.lt
  have c_b30_0 := x_b30.c 0 _ rfl; have f_b30_0 := x_b30.f 0 _ rfl
  have c_b30_1 := x_b30.c 1 _ rfl; have f_b30_1 := x_b30.f 1 _ rfl
  have c_b30_2 := x_b30.c 2 _ rfl; have f_b30_2 := x_b30.f 2 _ rfl
  have c_b30_3 := x_b30.c 3 _ rfl; have f_b30_3 := x_b30.f 3 _ rfl
  have c_b30_4 := x_b30.c 4 _ rfl; have f_b30_4 := x_b30.f 4 _ rfl
  have c_b30_5 := x_b30.c 5 _ rfl; have f_b30_5 := x_b30.f 5 _ rfl
  go_wp2_with fail
  go_loopw [11, 12] (fun s11 s12 wr => ∃ (k : Nat) (ch lv pv t : Int), s11 = .int .u64 ch ∧ s12 = .int .i64 k ∧ k ≤ ts.length ∧ 0 ≤ ch ∧ ch ≤ k * 1000000000 ∧ a ≤ t ∧ Hid (Buc bu ra pe lv pv t) ∧ Hid (ch * pe + vol pe lv pv ≤ bu * pe + (t - a) * ra) ∧
    Box wr (w.heap.size) [.int .i64 bu, .int .i64 ra, .int .i64 pe] ∧ Box wr (w2.heap.size) [.int .i64 bu, .int .i64 ra, .int .i64 pe, .int .i64 lv, .int .i64 pv, .int .u64 t] ∧ Below w.heap.size w wr) (fun _ s12 _ => ts.length - (intOf s12).toNat)
  case atStart => exact ⟨0, 0, bu, 0, a, rfl, rfl, by omega, by omega, by omega, by omega, HB, HV, x_l30, x_b30, hB30⟩
  case round =>
    clear hB30 hs30 x_l30 z_l30 c_l30_0 c_l30_1 c_l30_2 f_l30_0 f_l30_1 f_l30_2 x_b30 z_b30 c_b30_0 c_b30_1 c_b30_2 c_b30_3 c_b30_4 c_b30_5 f_b30_0 f_b30_1 f_b30_2 f_b30_3 f_b30_4 f_b30_5
    obtain ⟨k, ch, lv, pv, t, rfl, rfl, hk, hc0, hc1, hat, HB1, HV1, x_l50, x_b50, hB50⟩ := hrel
    clear HB HV
    have hs50 := hB50.size
    have tt := HB1.out.tick
    have tt0 := tt.1
    have tt1 := tt.2
    by_cases hlt : k < ts.length
    case neg =>
      obtain ⟨z1, z2, z3, z4, z5, z6⟩ := HB1.out.nums
      have g := fil_range z3 z4 ta tt hat HB1.out.q0 (by have := HB1.out.q1; omega)
      have hend := bound_end (show 0 < pe by omega) HB1.out.vol0.1 HV1.out
      have e1 := wN_parts ((t - a) * ra)
      obtain ⟨mh, f1⟩ : ∃ x, wHi ((t - a) * ra) = x := ⟨_, rfl⟩
      obtain ⟨ml, f2⟩ : ∃ x, wLo ((t - a) * ra) = x := ⟨_, rfl⟩
      have m1 : isU mh := by rw [← f1]; exact isU_hi (by unfold isW; omega)
      have m2 : isU ml := by rw [← f2]; exact isU_lo _
      have E1 := Lib.hid (show (t - a) * ra = wN mh ml by rw [← f1, ← f2, wN_parts])
      obtain ⟨g0, eg⟩ : ∃ x, (t - a) * ra = x := ⟨_, rfl⟩
      rw [eg] at g hend e1
      have E2 := Lib.hid (show wN mh ml = g0 by rw [← f1, ← f2, eg, wN_parts])
      have h0 : 0 ≤ g0 / pe := Int.ediv_nonneg g.1 (by omega)
      have h1 : g0 / pe ≤ g0 := Int.ediv_le_self _ g.1
      obtain ⟨qh, f3⟩ : ∃ x, wHi (g0 / pe) = x := ⟨_, rfl⟩
      obtain ⟨ql, f4⟩ : ∃ x, wLo (g0 / pe) = x := ⟨_, rfl⟩
      obtain ⟨qm, f5⟩ : ∃ x, g0 % pe = x := ⟨_, rfl⟩
      have E3 := Lib.hid f3
      have E4 := Lib.hid f4
      have E5 := Lib.hid f5
      have m3 : isU qh := by rw [← f3]; exact isU_hi (by unfold isW; omega)
      have m4 : isU ql := by rw [← f4]; exact isU_lo _
      obtain ⟨bh, f6⟩ : ∃ x, wHi (g0 / pe + bu) = x := ⟨_, rfl⟩
      obtain ⟨bl, f7⟩ : ∃ x, wLo (g0 / pe + bu) = x := ⟨_, rfl⟩
      have m5 : isU bh := by rw [← f6]; exact isU_hi (by unfold isW; omega)
      have m6 : isU bl := by rw [← f7]; exact isU_lo _
      have E6 := Lib.hid (show wN qh ql + wN 0 bu = wN bh bl by rw [← f3, ← f4, ← f6, ← f7, wN_parts, wN_parts]; unfold wN; omega)
      obtain ⟨cc, f8⟩ : ∃ x, cmpI (wN 0 ch) (wN bh bl) = x := ⟨_, rfl⟩
      have E7 := Lib.hid f8
      have d9 : decide (cc ≤ 0) = true := decide_eq_true (by
        rw [← f8, ← f6, ← f7, wN_parts]
        unfold cmpI wN
        split <;> (try split) <;> omega)
      have k1 : isU (t - a) := by unfold isU at *; omega
      have k2 : isU ra := by unfold isU; omega
      have k3 : isU pe := by unfold isU; omega
      have k4 : isU bu := by unfold isU; omega
      have k5 : isU ch := by unfold isU; omega
      have u1 : IntKind.u64.wrap (t - a) = t - a := IntWalk.u64_in _ (by unfold isU at k1; omega)
      have u2 : IntKind.u64.wrap ra = ra := IntWalk.u64_in _ (by omega)
      have u3 : IntKind.u64.wrap pe = pe := IntWalk.u64_in _ (by omega)
      have u4 : IntKind.u64.wrap bu = bu := IntWalk.u64_in _ (by omega)
      have hp : pe ≠ 0 := by omega
      clear f1 f2 f3 f4 f5 f6 f7 f8 eg e1 hend
      have z_l50 := x_l50.lt
      have c_l50_0 := x_l50.c 0 _ rfl; have f_l50_0 := x_l50.f 0 _ rfl
      have c_l50_1 := x_l50.c 1 _ rfl; have f_l50_1 := x_l50.f 1 _ rfl
      have c_l50_2 := x_l50.c 2 _ rfl; have f_l50_2 := x_l50.f 2 _ rfl
      have z_b50 := x_b50.lt
      have c_b50_0 := x_b50.c 0 _ rfl; have f_b50_0 := x_b50.f 0 _ rfl
      have c_b50_1 := x_b50.c 1 _ rfl; have f_b50_1 := x_b50.f 1 _ rfl
      have c_b50_2 := x_b50.c 2 _ rfl; have f_b50_2 := x_b50.f 2 _ rfl
      have c_b50_3 := x_b50.c 3 _ rfl; have f_b50_3 := x_b50.f 3 _ rfl
      have c_b50_4 := x_b50.c 4 _ rfl; have f_b50_4 := x_b50.f 4 _ rfl
      have c_b50_5 := x_b50.c 5 _ rfl; have f_b50_5 := x_b50.f 5 _ rfl
      go_upto_region 22 with fail
      go_cut [17, 18, 19] (fun p q0 q1 wx => ∃ b : Nat, p = .pointer (some ⟨b, 0, none⟩) ∧ q0 = .int .u64 qm ∧ q1 = .int .i64 0 ∧ Box wx b [.int .u64 qh, .int .u64 ql] ∧ Box wx (w.heap.size) [.int .i64 bu, .int .i64 ra, .int .i64 pe] ∧ Box wx (w2.heap.size) [.int .i64 bu, .int .i64 ra, .int .i64 pe, .int .i64 lv, .int .i64 pv, .int .u64 t] ∧ Below w.heap.size w wx)
      case first =>
        as_aux_lemma =>
          go_region_held3 (fun w' => w'.cell? ⟨w2.heap.size, 5, none⟩ = some (.int .u64 t) ∧ w'.cell? ⟨w.heap.size, 1, none⟩ = some (.int .i64 ra) ∧ w'.cell? ⟨w.heap.size, 2, none⟩ = some (.int .i64 pe)) (((repeat' apply And.intro) <;> (first | (go_keep; done) | go_cell)))
            (first
              | (go_at_call 29; refine (mul_nm (h := mh) (l := ml) _ k1 k2 m2 E1).mono ?_; rintro e v1 ⟨rfl, hv1⟩; have hV1 : Below w.heap.size w v1 := below_thru (by go_grown) hv1; have hs_v1 : w.heap.size ≤ v1.heap.size := hV1.size; have x_l_v1 : Box v1 (w.heap.size) [.int .i64 bu, .int .i64 ra, .int .i64 pe] := (by refine Box.below ?_ hv1; repeat (first | (with_reducible assumption) | (with_reducible refine Box.drew ?_) | (with_reducible refine Box.drewN ?_ _) | ((with_reducible refine Box.new ?_); simp; done) | (with_reducible apply Box.set2) | ((with_reducible apply Box.put); (with_reducible assumption); rfl) | (with_reducible refine Box.alloc ?_ _) | (with_reducible refine Box.other ?_ (by first | (dsimp only; omega) | omega) _))); have z_l_v1 := x_l_v1.lt; have c_l_v1_0 := x_l_v1.c 0 _ rfl; have f_l_v1_0 := x_l_v1.f 0 _ rfl; have c_l_v1_1 := x_l_v1.c 1 _ rfl; have f_l_v1_1 := x_l_v1.f 1 _ rfl; have c_l_v1_2 := x_l_v1.c 2 _ rfl; have f_l_v1_2 := x_l_v1.f 2 _ rfl; have x_b_v1 : Box v1 (w2.heap.size) [.int .i64 bu, .int .i64 ra, .int .i64 pe, .int .i64 lv, .int .i64 pv, .int .u64 t] := (by refine Box.below ?_ hv1; repeat (first | (with_reducible assumption) | (with_reducible refine Box.drew ?_) | (with_reducible refine Box.drewN ?_ _) | ((with_reducible refine Box.new ?_); simp; done) | (with_reducible apply Box.set2) | ((with_reducible apply Box.put); (with_reducible assumption); rfl) | (with_reducible refine Box.alloc ?_ _) | (with_reducible refine Box.other ?_ (by first | (dsimp only; omega) | omega) _))); have z_b_v1 := x_b_v1.lt; have c_b_v1_0 := x_b_v1.c 0 _ rfl; have f_b_v1_0 := x_b_v1.f 0 _ rfl; have c_b_v1_1 := x_b_v1.c 1 _ rfl; have f_b_v1_1 := x_b_v1.f 1 _ rfl; have c_b_v1_2 := x_b_v1.c 2 _ rfl; have f_b_v1_2 := x_b_v1.f 2 _ rfl; have c_b_v1_3 := x_b_v1.c 3 _ rfl; have f_b_v1_3 := x_b_v1.f 3 _ rfl; have c_b_v1_4 := x_b_v1.c 4 _ rfl; have f_b_v1_4 := x_b_v1.f 4 _ rfl; have c_b_v1_5 := x_b_v1.c 5 _ rfl; have f_b_v1_5 := x_b_v1.f 5 _ rfl; (first | (with_reducible have y := Box.below (Box.drew (Box.new rfl)) hv1) | (with_reducible have y := Box.below (Box.new rfl) hv1) | (with_reducible have y := Box.below y hv1) | (have y := trivial)); (try simp only [World.size_alloc] at y); try (have yz := Box.lt y; have y0 := Box.c y 0 _ rfl; have yf0 := Box.f y 0 _ rfl; have y1 := Box.c y 1 _ rfl; have yf1 := Box.f y 1 _ rfl))
              | (go_at_call 32; refine (div_nm _ m1 m2 k3 hp E2 E3 E4 E5).mono ?_; rintro e v2 ⟨rfl, hv2⟩; have hV2 : Below w.heap.size w v2 := below_thru (by go_grown) hv2; have hs_v2 : w.heap.size ≤ v2.heap.size := hV2.size; have x_l_v2 : Box v2 (w.heap.size) [.int .i64 bu, .int .i64 ra, .int .i64 pe] := (by refine Box.below ?_ hv2; repeat (first | (with_reducible assumption) | (with_reducible refine Box.drew ?_) | (with_reducible refine Box.drewN ?_ _) | ((with_reducible refine Box.new ?_); simp; done) | (with_reducible apply Box.set2) | ((with_reducible apply Box.put); (with_reducible assumption); rfl) | (with_reducible refine Box.alloc ?_ _) | (with_reducible refine Box.other ?_ (by first | (dsimp only; omega) | omega) _))); have z_l_v2 := x_l_v2.lt; have c_l_v2_0 := x_l_v2.c 0 _ rfl; have f_l_v2_0 := x_l_v2.f 0 _ rfl; have c_l_v2_1 := x_l_v2.c 1 _ rfl; have f_l_v2_1 := x_l_v2.f 1 _ rfl; have c_l_v2_2 := x_l_v2.c 2 _ rfl; have f_l_v2_2 := x_l_v2.f 2 _ rfl; have x_b_v2 : Box v2 (w2.heap.size) [.int .i64 bu, .int .i64 ra, .int .i64 pe, .int .i64 lv, .int .i64 pv, .int .u64 t] := (by refine Box.below ?_ hv2; repeat (first | (with_reducible assumption) | (with_reducible refine Box.drew ?_) | (with_reducible refine Box.drewN ?_ _) | ((with_reducible refine Box.new ?_); simp; done) | (with_reducible apply Box.set2) | ((with_reducible apply Box.put); (with_reducible assumption); rfl) | (with_reducible refine Box.alloc ?_ _) | (with_reducible refine Box.other ?_ (by first | (dsimp only; omega) | omega) _))); have z_b_v2 := x_b_v2.lt; have c_b_v2_0 := x_b_v2.c 0 _ rfl; have f_b_v2_0 := x_b_v2.f 0 _ rfl; have c_b_v2_1 := x_b_v2.c 1 _ rfl; have f_b_v2_1 := x_b_v2.f 1 _ rfl; have c_b_v2_2 := x_b_v2.c 2 _ rfl; have f_b_v2_2 := x_b_v2.f 2 _ rfl; have c_b_v2_3 := x_b_v2.c 3 _ rfl; have f_b_v2_3 := x_b_v2.f 3 _ rfl; have c_b_v2_4 := x_b_v2.c 4 _ rfl; have f_b_v2_4 := x_b_v2.f 4 _ rfl; have c_b_v2_5 := x_b_v2.c 5 _ rfl; have f_b_v2_5 := x_b_v2.f 5 _ rfl; (first | (with_reducible have y := Box.below (Box.drew (Box.new rfl)) hv2) | (with_reducible have y := Box.below (Box.new rfl) hv2) | (with_reducible have y := Box.below y hv2) | (have y := trivial)); (try simp only [World.size_alloc] at y); try (have yz := Box.lt y; have y0 := Box.c y 0 _ rfl; have yf0 := Box.f y 0 _ rfl; have y1 := Box.c y 1 _ rfl; have yf1 := Box.f y 1 _ rfl)))
          all_goals
            go_wp2_with fail
            go_meet
            refine ⟨_, rfl, rfl, rfl, ?_, ?_, ?_, ?_⟩
            all_goals first
              | ((repeat (first | (with_reducible assumption) | (with_reducible refine Box.drew ?_) | (with_reducible refine Box.drewN ?_ _) | ((with_reducible refine Box.new ?_); simp; done) | (with_reducible apply Box.set2) | (with_reducible refine Box.alloc ?_ _) | (with_reducible refine Box.other ?_ (by first | (dsimp only; omega) | omega) _))); done)
              | (go_grown; done)
      case rest =>
        as_aux_lemma =>
          obtain ⟨b51, rfl, rfl, rfl, x_q51, x_l51, x_b51, hB51⟩ := hcut
          obtain ⟨w51, rfl⟩ : ∃ u : World, u = wc := ⟨_, rfl⟩
          clear hB50 hs50 x_l50 z_l50 c_l50_0 c_l50_1 c_l50_2 f_l50_0 f_l50_1 f_l50_2 x_b50 z_b50 c_b50_0 c_b50_1 c_b50_2 c_b50_3 c_b50_4 c_b50_5 f_b50_0 f_b50_1 f_b50_2 f_b50_3 f_b50_4 f_b50_5
          have hs51 : w.heap.size ≤ w51.heap.size := hB51.size
          have z_l51 := x_l51.lt
          have c_l51_0 := x_l51.c 0 _ rfl; have f_l51_0 := x_l51.f 0 _ rfl
          have c_l51_1 := x_l51.c 1 _ rfl; have f_l51_1 := x_l51.f 1 _ rfl
          have c_l51_2 := x_l51.c 2 _ rfl; have f_l51_2 := x_l51.f 2 _ rfl
          have z_b51 := x_b51.lt
          have c_b51_0 := x_b51.c 0 _ rfl; have f_b51_0 := x_b51.f 0 _ rfl
          have c_b51_1 := x_b51.c 1 _ rfl; have f_b51_1 := x_b51.f 1 _ rfl
          have c_b51_2 := x_b51.c 2 _ rfl; have f_b51_2 := x_b51.f 2 _ rfl
          have c_b51_3 := x_b51.c 3 _ rfl; have f_b51_3 := x_b51.f 3 _ rfl
          have c_b51_4 := x_b51.c 4 _ rfl; have f_b51_4 := x_b51.f 4 _ rfl
          have c_b51_5 := x_b51.c 5 _ rfl; have f_b51_5 := x_b51.f 5 _ rfl
          have z_q51 := x_q51.lt
          have c_q51_0 := x_q51.c 0 _ rfl; have f_q51_0 := x_q51.f 0 _ rfl
          have c_q51_1 := x_q51.c 1 _ rfl; have f_q51_1 := x_q51.f 1 _ rfl
          go_upto_region 23 with fail
          go_cut [20, 21] (fun p q0 wx => ∃ b : Nat, p = .pointer (some ⟨b, 0, none⟩) ∧ q0 = .int .i64 0 ∧ Box wx b [.int .u64 bh, .int .u64 bl] ∧ Box wx (w.heap.size) [.int .i64 bu, .int .i64 ra, .int .i64 pe] ∧ Box wx (w2.heap.size) [.int .i64 bu, .int .i64 ra, .int .i64 pe, .int .i64 lv, .int .i64 pv, .int .u64 t] ∧ Box wx (b51) [.int .u64 qh, .int .u64 ql] ∧ Below w.heap.size w wx)
          case first =>
            as_aux_lemma =>
              go_region_held3 (fun w' => w'.cell? ⟨b51, 0, none⟩ = some (.int .u64 qh) ∧ w'.cell? ⟨b51, 1, none⟩ = some (.int .u64 ql) ∧ w'.cell? ⟨w.heap.size, 0, none⟩ = some (.int .i64 bu)) (((repeat' apply And.intro) <;> (first | (go_keep; done) | go_cell)))
                (first
                  | (go_at_call 30; refine (of_any bu _).mono ?_; rintro e v1 ⟨rfl, hv1⟩; have hV1 : Below w.heap.size w v1 := below_thru (by go_grown) hv1; have hs_v1 : w.heap.size ≤ v1.heap.size := hV1.size; have x_l_v1 : Box v1 (w.heap.size) [.int .i64 bu, .int .i64 ra, .int .i64 pe] := (by refine Box.below ?_ hv1; repeat (first | (with_reducible assumption) | (with_reducible refine Box.drew ?_) | (with_reducible refine Box.drewN ?_ _) | ((with_reducible refine Box.new ?_); simp; done) | (with_reducible apply Box.set2) | ((with_reducible apply Box.put); (with_reducible assumption); rfl) | (with_reducible refine Box.alloc ?_ _) | (with_reducible refine Box.other ?_ (by first | (dsimp only; omega) | omega) _))); have z_l_v1 := x_l_v1.lt; have c_l_v1_0 := x_l_v1.c 0 _ rfl; have f_l_v1_0 := x_l_v1.f 0 _ rfl; have c_l_v1_1 := x_l_v1.c 1 _ rfl; have f_l_v1_1 := x_l_v1.f 1 _ rfl; have c_l_v1_2 := x_l_v1.c 2 _ rfl; have f_l_v1_2 := x_l_v1.f 2 _ rfl; have x_b_v1 : Box v1 (w2.heap.size) [.int .i64 bu, .int .i64 ra, .int .i64 pe, .int .i64 lv, .int .i64 pv, .int .u64 t] := (by refine Box.below ?_ hv1; repeat (first | (with_reducible assumption) | (with_reducible refine Box.drew ?_) | (with_reducible refine Box.drewN ?_ _) | ((with_reducible refine Box.new ?_); simp; done) | (with_reducible apply Box.set2) | ((with_reducible apply Box.put); (with_reducible assumption); rfl) | (with_reducible refine Box.alloc ?_ _) | (with_reducible refine Box.other ?_ (by first | (dsimp only; omega) | omega) _))); have z_b_v1 := x_b_v1.lt; have c_b_v1_0 := x_b_v1.c 0 _ rfl; have f_b_v1_0 := x_b_v1.f 0 _ rfl; have c_b_v1_1 := x_b_v1.c 1 _ rfl; have f_b_v1_1 := x_b_v1.f 1 _ rfl; have c_b_v1_2 := x_b_v1.c 2 _ rfl; have f_b_v1_2 := x_b_v1.f 2 _ rfl; have c_b_v1_3 := x_b_v1.c 3 _ rfl; have f_b_v1_3 := x_b_v1.f 3 _ rfl; have c_b_v1_4 := x_b_v1.c 4 _ rfl; have f_b_v1_4 := x_b_v1.f 4 _ rfl; have c_b_v1_5 := x_b_v1.c 5 _ rfl; have f_b_v1_5 := x_b_v1.f 5 _ rfl; have x_q_v1 : Box v1 (b51) [.int .u64 qh, .int .u64 ql] := (by refine Box.below ?_ hv1; repeat (first | (with_reducible assumption) | (with_reducible refine Box.drew ?_) | (with_reducible refine Box.drewN ?_ _) | ((with_reducible refine Box.new ?_); simp; done) | (with_reducible apply Box.set2) | ((with_reducible apply Box.put); (with_reducible assumption); rfl) | (with_reducible refine Box.alloc ?_ _) | (with_reducible refine Box.other ?_ (by first | (dsimp only; omega) | omega) _))); have z_q_v1 := x_q_v1.lt; have c_q_v1_0 := x_q_v1.c 0 _ rfl; have f_q_v1_0 := x_q_v1.f 0 _ rfl; have c_q_v1_1 := x_q_v1.c 1 _ rfl; have f_q_v1_1 := x_q_v1.f 1 _ rfl; (first | (with_reducible have y := Box.below (Box.drew (Box.new rfl)) hv1) | (with_reducible have y := Box.below (Box.new rfl) hv1) | (with_reducible have y := Box.below y hv1) | (have y := trivial)); (try simp only [World.size_alloc] at y); try (have yz := Box.lt y; have y0 := Box.c y 0 _ rfl; have yf0 := Box.f y 0 _ rfl; have y1 := Box.c y 1 _ rfl; have yf1 := Box.f y 1 _ rfl))
                  | (go_at_call 28; refine (add_nm (h := bh) (l := bl) _ m3 m4 isU_nil k4 m5 m6 E6).mono ?_; rintro e v2 ⟨rfl, hv2⟩; have hV2 : Below w.heap.size w v2 := below_thru (by go_grown) hv2; have hs_v2 : w.heap.size ≤ v2.heap.size := hV2.size; have x_l_v2 : Box v2 (w.heap.size) [.int .i64 bu, .int .i64 ra, .int .i64 pe] := (by refine Box.below ?_ hv2; repeat (first | (with_reducible assumption) | (with_reducible refine Box.drew ?_) | (with_reducible refine Box.drewN ?_ _) | ((with_reducible refine Box.new ?_); simp; done) | (with_reducible apply Box.set2) | ((with_reducible apply Box.put); (with_reducible assumption); rfl) | (with_reducible refine Box.alloc ?_ _) | (with_reducible refine Box.other ?_ (by first | (dsimp only; omega) | omega) _))); have z_l_v2 := x_l_v2.lt; have c_l_v2_0 := x_l_v2.c 0 _ rfl; have f_l_v2_0 := x_l_v2.f 0 _ rfl; have c_l_v2_1 := x_l_v2.c 1 _ rfl; have f_l_v2_1 := x_l_v2.f 1 _ rfl; have c_l_v2_2 := x_l_v2.c 2 _ rfl; have f_l_v2_2 := x_l_v2.f 2 _ rfl; have x_b_v2 : Box v2 (w2.heap.size) [.int .i64 bu, .int .i64 ra, .int .i64 pe, .int .i64 lv, .int .i64 pv, .int .u64 t] := (by refine Box.below ?_ hv2; repeat (first | (with_reducible assumption) | (with_reducible refine Box.drew ?_) | (with_reducible refine Box.drewN ?_ _) | ((with_reducible refine Box.new ?_); simp; done) | (with_reducible apply Box.set2) | ((with_reducible apply Box.put); (with_reducible assumption); rfl) | (with_reducible refine Box.alloc ?_ _) | (with_reducible refine Box.other ?_ (by first | (dsimp only; omega) | omega) _))); have z_b_v2 := x_b_v2.lt; have c_b_v2_0 := x_b_v2.c 0 _ rfl; have f_b_v2_0 := x_b_v2.f 0 _ rfl; have c_b_v2_1 := x_b_v2.c 1 _ rfl; have f_b_v2_1 := x_b_v2.f 1 _ rfl; have c_b_v2_2 := x_b_v2.c 2 _ rfl; have f_b_v2_2 := x_b_v2.f 2 _ rfl; have c_b_v2_3 := x_b_v2.c 3 _ rfl; have f_b_v2_3 := x_b_v2.f 3 _ rfl; have c_b_v2_4 := x_b_v2.c 4 _ rfl; have f_b_v2_4 := x_b_v2.f 4 _ rfl; have c_b_v2_5 := x_b_v2.c 5 _ rfl; have f_b_v2_5 := x_b_v2.f 5 _ rfl; have x_q_v2 : Box v2 (b51) [.int .u64 qh, .int .u64 ql] := (by refine Box.below ?_ hv2; repeat (first | (with_reducible assumption) | (with_reducible refine Box.drew ?_) | (with_reducible refine Box.drewN ?_ _) | ((with_reducible refine Box.new ?_); simp; done) | (with_reducible apply Box.set2) | ((with_reducible apply Box.put); (with_reducible assumption); rfl) | (with_reducible refine Box.alloc ?_ _) | (with_reducible refine Box.other ?_ (by first | (dsimp only; omega) | omega) _))); have z_q_v2 := x_q_v2.lt; have c_q_v2_0 := x_q_v2.c 0 _ rfl; have f_q_v2_0 := x_q_v2.f 0 _ rfl; have c_q_v2_1 := x_q_v2.c 1 _ rfl; have f_q_v2_1 := x_q_v2.f 1 _ rfl; (first | (with_reducible have y := Box.below (Box.drew (Box.new rfl)) hv2) | (with_reducible have y := Box.below (Box.new rfl) hv2) | (with_reducible have y := Box.below y hv2) | (have y := trivial)); (try simp only [World.size_alloc] at y); try (have yz := Box.lt y; have y0 := Box.c y 0 _ rfl; have yf0 := Box.f y 0 _ rfl; have y1 := Box.c y 1 _ rfl; have yf1 := Box.f y 1 _ rfl)))
              all_goals
                go_wp2_with fail
                go_meet
                refine ⟨_, rfl, rfl, ?_, ?_, ?_, ?_, ?_⟩
                all_goals first
                  | ((repeat (first | (with_reducible assumption) | (with_reducible refine Box.drew ?_) | (with_reducible refine Box.drewN ?_ _) | ((with_reducible refine Box.new ?_); simp; done) | (with_reducible apply Box.set2) | (with_reducible refine Box.alloc ?_ _) | (with_reducible refine Box.other ?_ (by first | (dsimp only; omega) | omega) _))); done)
                  | (go_grown; done)
          case rest =>
            as_aux_lemma =>
              obtain ⟨b52, rfl, rfl, x_r52, x_l52, x_b52, x_q52, hB52⟩ := hcut
              obtain ⟨w52, rfl⟩ : ∃ u : World, u = wc := ⟨_, rfl⟩
              clear hB51 hs51 x_l51 z_l51 c_l51_0 c_l51_1 c_l51_2 f_l51_0 f_l51_1 f_l51_2 x_b51 z_b51 c_b51_0 c_b51_1 c_b51_2 c_b51_3 c_b51_4 c_b51_5 f_b51_0 f_b51_1 f_b51_2 f_b51_3 f_b51_4 f_b51_5 x_q51 z_q51 c_q51_0 c_q51_1 f_q51_0 f_q51_1
              have hs52 : w.heap.size ≤ w52.heap.size := hB52.size
              have z_l52 := x_l52.lt
              have c_l52_0 := x_l52.c 0 _ rfl; have f_l52_0 := x_l52.f 0 _ rfl
              have c_l52_1 := x_l52.c 1 _ rfl; have f_l52_1 := x_l52.f 1 _ rfl
              have c_l52_2 := x_l52.c 2 _ rfl; have f_l52_2 := x_l52.f 2 _ rfl
              have z_b52 := x_b52.lt
              have c_b52_0 := x_b52.c 0 _ rfl; have f_b52_0 := x_b52.f 0 _ rfl
              have c_b52_1 := x_b52.c 1 _ rfl; have f_b52_1 := x_b52.f 1 _ rfl
              have c_b52_2 := x_b52.c 2 _ rfl; have f_b52_2 := x_b52.f 2 _ rfl
              have c_b52_3 := x_b52.c 3 _ rfl; have f_b52_3 := x_b52.f 3 _ rfl
              have c_b52_4 := x_b52.c 4 _ rfl; have f_b52_4 := x_b52.f 4 _ rfl
              have c_b52_5 := x_b52.c 5 _ rfl; have f_b52_5 := x_b52.f 5 _ rfl
              have z_q52 := x_q52.lt
              have c_q52_0 := x_q52.c 0 _ rfl; have f_q52_0 := x_q52.f 0 _ rfl
              have c_q52_1 := x_q52.c 1 _ rfl; have f_q52_1 := x_q52.f 1 _ rfl
              have z_r52 := x_r52.lt
              have c_r52_0 := x_r52.c 0 _ rfl; have f_r52_0 := x_r52.f 0 _ rfl
              have c_r52_1 := x_r52.c 1 _ rfl; have f_r52_1 := x_r52.f 1 _ rfl
              clear x_q52 z_q52 c_q52_0 c_q52_1 f_q52_0 f_q52_1
              go_upto_region 24 with fail
              go_cut [8] (fun q0 wx => q0 = .bool true ∧ Box wx (w.heap.size) [.int .i64 bu, .int .i64 ra, .int .i64 pe] ∧ Box wx (w2.heap.size) [.int .i64 bu, .int .i64 ra, .int .i64 pe, .int .i64 lv, .int .i64 pv, .int .u64 t] ∧ Box wx (b52) [.int .u64 bh, .int .u64 bl] ∧ Below w.heap.size w wx)
              case first =>
                as_aux_lemma =>
                  go_region_held3 (fun w' => w'.cell? ⟨b52, 0, none⟩ = some (.int .u64 bh) ∧ w'.cell? ⟨b52, 1, none⟩ = some (.int .u64 bl)) (((repeat' apply And.intro) <;> (first | (go_keep; done) | go_cell)))
                    (first
                      | (go_at_call 30; refine (of_any ch _).mono ?_; rintro e v1 ⟨rfl, hv1⟩; have hV1 : Below w.heap.size w v1 := below_thru (by go_grown) hv1; have hs_v1 : w.heap.size ≤ v1.heap.size := hV1.size; have x_l_v1 : Box v1 (w.heap.size) [.int .i64 bu, .int .i64 ra, .int .i64 pe] := (by refine Box.below ?_ hv1; repeat (first | (with_reducible assumption) | (with_reducible refine Box.drew ?_) | (with_reducible refine Box.drewN ?_ _) | ((with_reducible refine Box.new ?_); simp; done) | (with_reducible apply Box.set2) | ((with_reducible apply Box.put); (with_reducible assumption); rfl) | (with_reducible refine Box.alloc ?_ _) | (with_reducible refine Box.other ?_ (by first | (dsimp only; omega) | omega) _))); have z_l_v1 := x_l_v1.lt; have c_l_v1_0 := x_l_v1.c 0 _ rfl; have f_l_v1_0 := x_l_v1.f 0 _ rfl; have c_l_v1_1 := x_l_v1.c 1 _ rfl; have f_l_v1_1 := x_l_v1.f 1 _ rfl; have c_l_v1_2 := x_l_v1.c 2 _ rfl; have f_l_v1_2 := x_l_v1.f 2 _ rfl; have x_b_v1 : Box v1 (w2.heap.size) [.int .i64 bu, .int .i64 ra, .int .i64 pe, .int .i64 lv, .int .i64 pv, .int .u64 t] := (by refine Box.below ?_ hv1; repeat (first | (with_reducible assumption) | (with_reducible refine Box.drew ?_) | (with_reducible refine Box.drewN ?_ _) | ((with_reducible refine Box.new ?_); simp; done) | (with_reducible apply Box.set2) | ((with_reducible apply Box.put); (with_reducible assumption); rfl) | (with_reducible refine Box.alloc ?_ _) | (with_reducible refine Box.other ?_ (by first | (dsimp only; omega) | omega) _))); have z_b_v1 := x_b_v1.lt; have c_b_v1_0 := x_b_v1.c 0 _ rfl; have f_b_v1_0 := x_b_v1.f 0 _ rfl; have c_b_v1_1 := x_b_v1.c 1 _ rfl; have f_b_v1_1 := x_b_v1.f 1 _ rfl; have c_b_v1_2 := x_b_v1.c 2 _ rfl; have f_b_v1_2 := x_b_v1.f 2 _ rfl; have c_b_v1_3 := x_b_v1.c 3 _ rfl; have f_b_v1_3 := x_b_v1.f 3 _ rfl; have c_b_v1_4 := x_b_v1.c 4 _ rfl; have f_b_v1_4 := x_b_v1.f 4 _ rfl; have c_b_v1_5 := x_b_v1.c 5 _ rfl; have f_b_v1_5 := x_b_v1.f 5 _ rfl; have x_r_v1 : Box v1 (b52) [.int .u64 bh, .int .u64 bl] := (by refine Box.below ?_ hv1; repeat (first | (with_reducible assumption) | (with_reducible refine Box.drew ?_) | (with_reducible refine Box.drewN ?_ _) | ((with_reducible refine Box.new ?_); simp; done) | (with_reducible apply Box.set2) | ((with_reducible apply Box.put); (with_reducible assumption); rfl) | (with_reducible refine Box.alloc ?_ _) | (with_reducible refine Box.other ?_ (by first | (dsimp only; omega) | omega) _))); have z_r_v1 := x_r_v1.lt; have c_r_v1_0 := x_r_v1.c 0 _ rfl; have f_r_v1_0 := x_r_v1.f 0 _ rfl; have c_r_v1_1 := x_r_v1.c 1 _ rfl; have f_r_v1_1 := x_r_v1.f 1 _ rfl)
                      | (go_at_call 31; refine (cmp_nm _ k5 m6 E7).mono ?_; rintro e v2 ⟨rfl, hv2⟩; have hV2 : Below w.heap.size w v2 := below_thru (by go_grown) hv2; have hs_v2 : w.heap.size ≤ v2.heap.size := hV2.size; have x_l_v2 : Box v2 (w.heap.size) [.int .i64 bu, .int .i64 ra, .int .i64 pe] := (by refine Box.below ?_ hv2; repeat (first | (with_reducible assumption) | (with_reducible refine Box.drew ?_) | (with_reducible refine Box.drewN ?_ _) | ((with_reducible refine Box.new ?_); simp; done) | (with_reducible apply Box.set2) | ((with_reducible apply Box.put); (with_reducible assumption); rfl) | (with_reducible refine Box.alloc ?_ _) | (with_reducible refine Box.other ?_ (by first | (dsimp only; omega) | omega) _))); have z_l_v2 := x_l_v2.lt; have c_l_v2_0 := x_l_v2.c 0 _ rfl; have f_l_v2_0 := x_l_v2.f 0 _ rfl; have c_l_v2_1 := x_l_v2.c 1 _ rfl; have f_l_v2_1 := x_l_v2.f 1 _ rfl; have c_l_v2_2 := x_l_v2.c 2 _ rfl; have f_l_v2_2 := x_l_v2.f 2 _ rfl; have x_b_v2 : Box v2 (w2.heap.size) [.int .i64 bu, .int .i64 ra, .int .i64 pe, .int .i64 lv, .int .i64 pv, .int .u64 t] := (by refine Box.below ?_ hv2; repeat (first | (with_reducible assumption) | (with_reducible refine Box.drew ?_) | (with_reducible refine Box.drewN ?_ _) | ((with_reducible refine Box.new ?_); simp; done) | (with_reducible apply Box.set2) | ((with_reducible apply Box.put); (with_reducible assumption); rfl) | (with_reducible refine Box.alloc ?_ _) | (with_reducible refine Box.other ?_ (by first | (dsimp only; omega) | omega) _))); have z_b_v2 := x_b_v2.lt; have c_b_v2_0 := x_b_v2.c 0 _ rfl; have f_b_v2_0 := x_b_v2.f 0 _ rfl; have c_b_v2_1 := x_b_v2.c 1 _ rfl; have f_b_v2_1 := x_b_v2.f 1 _ rfl; have c_b_v2_2 := x_b_v2.c 2 _ rfl; have f_b_v2_2 := x_b_v2.f 2 _ rfl; have c_b_v2_3 := x_b_v2.c 3 _ rfl; have f_b_v2_3 := x_b_v2.f 3 _ rfl; have c_b_v2_4 := x_b_v2.c 4 _ rfl; have f_b_v2_4 := x_b_v2.f 4 _ rfl; have c_b_v2_5 := x_b_v2.c 5 _ rfl; have f_b_v2_5 := x_b_v2.f 5 _ rfl; have x_r_v2 : Box v2 (b52) [.int .u64 bh, .int .u64 bl] := (by refine Box.below ?_ hv2; repeat (first | (with_reducible assumption) | (with_reducible refine Box.drew ?_) | (with_reducible refine Box.drewN ?_ _) | ((with_reducible refine Box.new ?_); simp; done) | (with_reducible apply Box.set2) | ((with_reducible apply Box.put); (with_reducible assumption); rfl) | (with_reducible refine Box.alloc ?_ _) | (with_reducible refine Box.other ?_ (by first | (dsimp only; omega) | omega) _))); have z_r_v2 := x_r_v2.lt; have c_r_v2_0 := x_r_v2.c 0 _ rfl; have f_r_v2_0 := x_r_v2.f 0 _ rfl; have c_r_v2_1 := x_r_v2.c 1 _ rfl; have f_r_v2_1 := x_r_v2.f 1 _ rfl)
                      | (go_at_call 20; refine (alive03_any _).mono ?_; rintro e v3 ⟨rfl, hv3⟩; have hV3 : Below w.heap.size w v3 := below_thru (by go_grown) hv3; have hs_v3 : w.heap.size ≤ v3.heap.size := hV3.size; have x_l_v3 : Box v3 (w.heap.size) [.int .i64 bu, .int .i64 ra, .int .i64 pe] := (by refine Box.below ?_ hv3; repeat (first | (with_reducible assumption) | (with_reducible refine Box.drew ?_) | (with_reducible refine Box.drewN ?_ _) | ((with_reducible refine Box.new ?_); simp; done) | (with_reducible apply Box.set2) | ((with_reducible apply Box.put); (with_reducible assumption); rfl) | (with_reducible refine Box.alloc ?_ _) | (with_reducible refine Box.other ?_ (by first | (dsimp only; omega) | omega) _))); have z_l_v3 := x_l_v3.lt; have c_l_v3_0 := x_l_v3.c 0 _ rfl; have f_l_v3_0 := x_l_v3.f 0 _ rfl; have c_l_v3_1 := x_l_v3.c 1 _ rfl; have f_l_v3_1 := x_l_v3.f 1 _ rfl; have c_l_v3_2 := x_l_v3.c 2 _ rfl; have f_l_v3_2 := x_l_v3.f 2 _ rfl; have x_b_v3 : Box v3 (w2.heap.size) [.int .i64 bu, .int .i64 ra, .int .i64 pe, .int .i64 lv, .int .i64 pv, .int .u64 t] := (by refine Box.below ?_ hv3; repeat (first | (with_reducible assumption) | (with_reducible refine Box.drew ?_) | (with_reducible refine Box.drewN ?_ _) | ((with_reducible refine Box.new ?_); simp; done) | (with_reducible apply Box.set2) | ((with_reducible apply Box.put); (with_reducible assumption); rfl) | (with_reducible refine Box.alloc ?_ _) | (with_reducible refine Box.other ?_ (by first | (dsimp only; omega) | omega) _))); have z_b_v3 := x_b_v3.lt; have c_b_v3_0 := x_b_v3.c 0 _ rfl; have f_b_v3_0 := x_b_v3.f 0 _ rfl; have c_b_v3_1 := x_b_v3.c 1 _ rfl; have f_b_v3_1 := x_b_v3.f 1 _ rfl; have c_b_v3_2 := x_b_v3.c 2 _ rfl; have f_b_v3_2 := x_b_v3.f 2 _ rfl; have c_b_v3_3 := x_b_v3.c 3 _ rfl; have f_b_v3_3 := x_b_v3.f 3 _ rfl; have c_b_v3_4 := x_b_v3.c 4 _ rfl; have f_b_v3_4 := x_b_v3.f 4 _ rfl; have c_b_v3_5 := x_b_v3.c 5 _ rfl; have f_b_v3_5 := x_b_v3.f 5 _ rfl; have x_r_v3 : Box v3 (b52) [.int .u64 bh, .int .u64 bl] := (by refine Box.below ?_ hv3; repeat (first | (with_reducible assumption) | (with_reducible refine Box.drew ?_) | (with_reducible refine Box.drewN ?_ _) | ((with_reducible refine Box.new ?_); simp; done) | (with_reducible apply Box.set2) | ((with_reducible apply Box.put); (with_reducible assumption); rfl) | (with_reducible refine Box.alloc ?_ _) | (with_reducible refine Box.other ?_ (by first | (dsimp only; omega) | omega) _))); have z_r_v3 := x_r_v3.lt; have c_r_v3_0 := x_r_v3.c 0 _ rfl; have f_r_v3_0 := x_r_v3.f 0 _ rfl; have c_r_v3_1 := x_r_v3.c 1 _ rfl; have f_r_v3_1 := x_r_v3.f 1 _ rfl))
                  all_goals
                    go_wp2_with fail
                    go_meet
                    refine ⟨rfl, ?_, ?_, ?_, ?_⟩
                    all_goals first
                      | ((repeat (first | (with_reducible assumption) | (with_reducible refine Box.drew ?_) | (with_reducible refine Box.drewN ?_ _) | ((with_reducible refine Box.new ?_); simp; done) | (with_reducible apply Box.set2) | (with_reducible refine Box.alloc ?_ _) | (with_reducible refine Box.other ?_ (by first | (dsimp only; omega) | omega) _))); done)
                      | (go_grown; done)
              case rest =>
                as_aux_lemma =>
                  obtain ⟨rfl, x_l53, x_b53, x_r53, hB53⟩ := hcut
                  obtain ⟨w53, rfl⟩ : ∃ u : World, u = wc := ⟨_, rfl⟩
                  clear hB52 hs52 x_l52 z_l52 c_l52_0 c_l52_1 c_l52_2 f_l52_0 f_l52_1 f_l52_2 x_b52 z_b52 c_b52_0 c_b52_1 c_b52_2 c_b52_3 c_b52_4 c_b52_5 f_b52_0 f_b52_1 f_b52_2 f_b52_3 f_b52_4 f_b52_5 x_r52 z_r52 c_r52_0 c_r52_1 f_r52_0 f_r52_1
                  have hs53 : w.heap.size ≤ w53.heap.size := hB53.size
                  have z_l53 := x_l53.lt
                  have c_l53_0 := x_l53.c 0 _ rfl; have f_l53_0 := x_l53.f 0 _ rfl
                  have c_l53_1 := x_l53.c 1 _ rfl; have f_l53_1 := x_l53.f 1 _ rfl
                  have c_l53_2 := x_l53.c 2 _ rfl; have f_l53_2 := x_l53.f 2 _ rfl
                  have z_b53 := x_b53.lt
                  have c_b53_0 := x_b53.c 0 _ rfl; have f_b53_0 := x_b53.f 0 _ rfl
                  have c_b53_1 := x_b53.c 1 _ rfl; have f_b53_1 := x_b53.f 1 _ rfl
                  have c_b53_2 := x_b53.c 2 _ rfl; have f_b53_2 := x_b53.f 2 _ rfl
                  have c_b53_3 := x_b53.c 3 _ rfl; have f_b53_3 := x_b53.f 3 _ rfl
                  have c_b53_4 := x_b53.c 4 _ rfl; have f_b53_4 := x_b53.f 4 _ rfl
                  have c_b53_5 := x_b53.c 5 _ rfl; have f_b53_5 := x_b53.f 5 _ rfl
                  have z_r53 := x_r53.lt
                  have c_r53_0 := x_r53.c 0 _ rfl; have f_r53_0 := x_r53.f 0 _ rfl
                  have c_r53_1 := x_r53.c 1 _ rfl; have f_r53_1 := x_r53.f 1 _ rfl
                  go_wp2_with fail
                  go_returns
                  exact ⟨rfl, by go_grown⟩
    case pos =>
      obtain ⟨tb, toff, rfl, T0⟩ := hi.at hlt
      obtain ⟨cb, coff, rfl, C0⟩ := hj.at (show k < cs.length by omega)
      have zt := lt_of_cell T0
      have zc := lt_of_cell C0
      have hkc : (k : Int) < (cs.length : Int) := by omega
      have htk := ht k hlt
      have hck := hc k (show k < cs.length by omega)
      obtain ⟨tk, etk⟩ : ∃ x, nth ts k = x := ⟨_, rfl⟩
      obtain ⟨co, eco⟩ : ∃ x, nth cs k = x := ⟨_, rfl⟩
      rw [etk] at T0 htk
      rw [eco] at C0 hck
      clear etk eco
      have tk0 := htk.1
      have tk1 := htk.2
      have r1 : IntKind.u64.wrap (18446744073709551615 - t) = 18446744073709551615 - t := IntWalk.u64_in _ (by omega)
      by_cases hfar : 18446744073709551615 - t < tk
      case pos =>
        have d1 : decide (tk > 18446744073709551615 - t) = true := decide_eq_true (by omega)
        have d1' : decide (18446744073709551615 - t < tk) = true := decide_eq_true (by omega)
        have z_l50 := x_l50.lt
        have c_l50_0 := x_l50.c 0 _ rfl; have f_l50_0 := x_l50.f 0 _ rfl
        have c_l50_1 := x_l50.c 1 _ rfl; have f_l50_1 := x_l50.f 1 _ rfl
        have c_l50_2 := x_l50.c 2 _ rfl; have f_l50_2 := x_l50.f 2 _ rfl
        have z_b50 := x_b50.lt
        have c_b50_0 := x_b50.c 0 _ rfl; have f_b50_0 := x_b50.f 0 _ rfl
        have c_b50_1 := x_b50.c 1 _ rfl; have f_b50_1 := x_b50.f 1 _ rfl
        have c_b50_2 := x_b50.c 2 _ rfl; have f_b50_2 := x_b50.f 2 _ rfl
        have c_b50_3 := x_b50.c 3 _ rfl; have f_b50_3 := x_b50.f 3 _ rfl
        have c_b50_4 := x_b50.c 4 _ rfl; have f_b50_4 := x_b50.f 4 _ rfl
        have c_b50_5 := x_b50.c 5 _ rfl; have f_b50_5 := x_b50.f 5 _ rfl
        have c_t50 := cell_below hB50 T0
        have c_co50 := cell_below hB50 C0
        go_upto_region 10 with fail
        go_cut [59] (fun q0 wx => q0 = .bool true ∧ Box wx (w.heap.size) [.int .i64 bu, .int .i64 ra, .int .i64 pe] ∧ Box wx (w2.heap.size) [.int .i64 bu, .int .i64 ra, .int .i64 pe, .int .i64 lv, .int .i64 pv, .int .u64 t] ∧ Below w.heap.size w wx)
        case first =>
          as_aux_lemma =>
            go_region_held3 (fun w' => w'.cell? ⟨tb, toff + k, none⟩ = some (.int .u64 tk) ∧ w'.cell? ⟨w2.heap.size, 5, none⟩ = some (.int .u64 t)) (((repeat' apply And.intro) <;> (first | (go_keep; done) | go_cell)))
              (fail)
            all_goals
              go_wp2_with fail
              go_meet
              refine ⟨rfl, ?_, ?_, ?_⟩
              all_goals first
                | ((repeat (first | (with_reducible assumption) | (with_reducible refine Box.drew ?_) | (with_reducible refine Box.drewN ?_ _) | ((with_reducible refine Box.new ?_); simp; done) | (with_reducible apply Box.set2) | (with_reducible refine Box.alloc ?_ _) | (with_reducible refine Box.other ?_ (by first | (dsimp only; omega) | omega) _))); done)
                | (go_grown; done)
        case rest =>
          as_aux_lemma =>
            obtain ⟨rfl, x_l51, x_b51, hB51⟩ := hcut
            obtain ⟨w51, rfl⟩ : ∃ u : World, u = wc := ⟨_, rfl⟩
            clear hB50 hs50 c_t50 c_co50 x_l50 z_l50 c_l50_0 c_l50_1 c_l50_2 f_l50_0 f_l50_1 f_l50_2 x_b50 z_b50 c_b50_0 c_b50_1 c_b50_2 c_b50_3 c_b50_4 c_b50_5 f_b50_0 f_b50_1 f_b50_2 f_b50_3 f_b50_4 f_b50_5
            have c_t51 := cell_below hB51 T0
            have c_co51 := cell_below hB51 C0
            have hs51 : w.heap.size ≤ w51.heap.size := hB51.size
            have z_l51 := x_l51.lt
            have c_l51_0 := x_l51.c 0 _ rfl; have f_l51_0 := x_l51.f 0 _ rfl
            have c_l51_1 := x_l51.c 1 _ rfl; have f_l51_1 := x_l51.f 1 _ rfl
            have c_l51_2 := x_l51.c 2 _ rfl; have f_l51_2 := x_l51.f 2 _ rfl
            have z_b51 := x_b51.lt
            have c_b51_0 := x_b51.c 0 _ rfl; have f_b51_0 := x_b51.f 0 _ rfl
            have c_b51_1 := x_b51.c 1 _ rfl; have f_b51_1 := x_b51.f 1 _ rfl
            have c_b51_2 := x_b51.c 2 _ rfl; have f_b51_2 := x_b51.f 2 _ rfl
            have c_b51_3 := x_b51.c 3 _ rfl; have f_b51_3 := x_b51.f 3 _ rfl
            have c_b51_4 := x_b51.c 4 _ rfl; have f_b51_4 := x_b51.f 4 _ rfl
            have c_b51_5 := x_b51.c 5 _ rfl; have f_b51_5 := x_b51.f 5 _ rfl
            go_wp2_with fail
            refine (alive03_any _).mono ?_
            rintro e w52 ⟨rfl, hb⟩
            have hB52 : Below w.heap.size w w52 := below_thru (by go_grown) hb
            have hs52 : w.heap.size ≤ w52.heap.size := hB52.size
            have x_l52 : Box w52 (w.heap.size) [.int .i64 bu, .int .i64 ra, .int .i64 pe] := (by refine Box.below ?_ hb; repeat (first | (with_reducible assumption) | (with_reducible refine Box.drew ?_) | (with_reducible refine Box.drewN ?_ _) | ((with_reducible refine Box.new ?_); simp; done) | (with_reducible apply Box.set2) | ((with_reducible apply Box.put); (with_reducible assumption); rfl) | (with_reducible refine Box.alloc ?_ _) | (with_reducible refine Box.other ?_ (by first | (dsimp only; omega) | omega) _)))
            have z_l52 := x_l52.lt
            have c_l52_0 := x_l52.c 0 _ rfl
            have f_l52_0 := x_l52.f 0 _ rfl
            have c_l52_1 := x_l52.c 1 _ rfl
            have f_l52_1 := x_l52.f 1 _ rfl
            have c_l52_2 := x_l52.c 2 _ rfl
            have f_l52_2 := x_l52.f 2 _ rfl
            have x_b52 : Box w52 (w2.heap.size) [.int .i64 bu, .int .i64 ra, .int .i64 pe, .int .i64 lv, .int .i64 pv, .int .u64 t] := (by refine Box.below ?_ hb; repeat (first | (with_reducible assumption) | (with_reducible refine Box.drew ?_) | (with_reducible refine Box.drewN ?_ _) | ((with_reducible refine Box.new ?_); simp; done) | (with_reducible apply Box.set2) | ((with_reducible apply Box.put); (with_reducible assumption); rfl) | (with_reducible refine Box.alloc ?_ _) | (with_reducible refine Box.other ?_ (by first | (dsimp only; omega) | omega) _)))
            have z_b52 := x_b52.lt
            have c_b52_0 := x_b52.c 0 _ rfl
            have f_b52_0 := x_b52.f 0 _ rfl
            have c_b52_1 := x_b52.c 1 _ rfl
            have f_b52_1 := x_b52.f 1 _ rfl
            have c_b52_2 := x_b52.c 2 _ rfl
            have f_b52_2 := x_b52.f 2 _ rfl
            have c_b52_3 := x_b52.c 3 _ rfl
            have f_b52_3 := x_b52.f 3 _ rfl
            have c_b52_4 := x_b52.c 4 _ rfl
            have f_b52_4 := x_b52.f 4 _ rfl
            have c_b52_5 := x_b52.c 5 _ rfl
            have f_b52_5 := x_b52.f 5 _ rfl
            have c_t52 := cell_below hB52 T0
            have c_co52 := cell_below hB52 C0
            have t52 := hb.size
            try simp at t52
            clear hb hB51 hs51 c_t51 c_co51 x_l51 z_l51 c_l51_0 c_l51_1 c_l51_2 f_l51_0 f_l51_1 f_l51_2 x_b51 z_b51 c_b51_0 c_b51_1 c_b51_2 c_b51_3 c_b51_4 c_b51_5 f_b51_0 f_b51_1 f_b51_2 f_b51_3 f_b51_4 f_b51_5
            go_wp2_with fail
            go_returns
            exact ⟨rfl, by go_grown⟩
      case neg =>
        have d1 : decide (tk > 18446744073709551615 - t) = false := decide_eq_false (by omega)
        have d1' : decide (18446744073709551615 - t < tk) = false := decide_eq_false (by omega)
        have r2 : IntKind.u64.wrap (t + tk) = t + tk := IntWalk.u64_in _ (by omega)
        have tt2 : isU (t + tk) := by unfold isU; omega
        have bF := HB1.out.filled tt2
        have vF := bound_refill (a := a) (t := t + tk) HB1.out (by omega) HV1.out
        rw [show filA t (t + tk) = t + tk from if_neg (by omega)] at bF
        have E3 := Lib.hid (show filA t (t + tk) = t + tk from if_neg (by omega))
        obtain ⟨L, e1⟩ : ∃ x, filL bu ra pe lv pv t (t + tk) = x := ⟨_, rfl⟩
        obtain ⟨Q, e2⟩ : ∃ x, filP bu ra pe lv pv t (t + tk) = x := ⟨_, rfl⟩
        rw [e1, e2] at bF vF
        have E1 := Lib.hid e1
        have E2 := Lib.hid e2
        have BF := Lib.hid bF
        have VF := Lib.hid vF
        have K1 := Lib.hid bF.ok
        have hL0 := bF.l0
        have hll : L ≤ 1000000000 := by have := bF.l1; have := bF.nums; omega
        clear e1 e2 bF vF HV1
        by_cases hneg : co < 0
        case pos =>
          have d2 : decide (co < 0) = true := decide_eq_true hneg
          have z_l50 := x_l50.lt
          have c_l50_0 := x_l50.c 0 _ rfl; have f_l50_0 := x_l50.f 0 _ rfl
          have c_l50_1 := x_l50.c 1 _ rfl; have f_l50_1 := x_l50.f 1 _ rfl
          have c_l50_2 := x_l50.c 2 _ rfl; have f_l50_2 := x_l50.f 2 _ rfl
          have z_b50 := x_b50.lt
          have c_b50_0 := x_b50.c 0 _ rfl; have f_b50_0 := x_b50.f 0 _ rfl
          have c_b50_1 := x_b50.c 1 _ rfl; have f_b50_1 := x_b50.f 1 _ rfl
          have c_b50_2 := x_b50.c 2 _ rfl; have f_b50_2 := x_b50.f 2 _ rfl
          have c_b50_3 := x_b50.c 3 _ rfl; have f_b50_3 := x_b50.f 3 _ rfl
          have c_b50_4 := x_b50.c 4 _ rfl; have f_b50_4 := x_b50.f 4 _ rfl
          have c_b50_5 := x_b50.c 5 _ rfl; have f_b50_5 := x_b50.f 5 _ rfl
          have c_t50 := cell_below hB50 T0
          have c_co50 := cell_below hB50 C0
          go_upto_region 10 with fail
          go_cut [59] (fun q0 wx => q0 = .bool false ∧ Box wx (w.heap.size) [.int .i64 bu, .int .i64 ra, .int .i64 pe] ∧ Box wx (w2.heap.size) [.int .i64 bu, .int .i64 ra, .int .i64 pe, .int .i64 lv, .int .i64 pv, .int .u64 t] ∧ Below w.heap.size w wx)
          case first =>
            as_aux_lemma =>
              go_region_held3 (fun w' => w'.cell? ⟨tb, toff + k, none⟩ = some (.int .u64 tk) ∧ w'.cell? ⟨w2.heap.size, 5, none⟩ = some (.int .u64 t)) (((repeat' apply And.intro) <;> (first | (go_keep; done) | go_cell)))
                (fail)
              all_goals
                go_wp2_with fail
                go_meet
                refine ⟨rfl, ?_, ?_, ?_⟩
                all_goals first
                  | ((repeat (first | (with_reducible assumption) | (with_reducible refine Box.drew ?_) | (with_reducible refine Box.drewN ?_ _) | ((with_reducible refine Box.new ?_); simp; done) | (with_reducible apply Box.set2) | (with_reducible refine Box.alloc ?_ _) | (with_reducible refine Box.other ?_ (by first | (dsimp only; omega) | omega) _))); done)
                  | (go_grown; done)
          case rest =>
            as_aux_lemma =>
              obtain ⟨rfl, x_l51, x_b51, hB51⟩ := hcut
              obtain ⟨w51, rfl⟩ : ∃ u : World, u = wc := ⟨_, rfl⟩
              clear hB50 hs50 c_t50 c_co50 x_l50 z_l50 c_l50_0 c_l50_1 c_l50_2 f_l50_0 f_l50_1 f_l50_2 x_b50 z_b50 c_b50_0 c_b50_1 c_b50_2 c_b50_3 c_b50_4 c_b50_5 f_b50_0 f_b50_1 f_b50_2 f_b50_3 f_b50_4 f_b50_5
              have c_t51 := cell_below hB51 T0
              have c_co51 := cell_below hB51 C0
              have hs51 : w.heap.size ≤ w51.heap.size := hB51.size
              have z_l51 := x_l51.lt
              have c_l51_0 := x_l51.c 0 _ rfl; have f_l51_0 := x_l51.f 0 _ rfl
              have c_l51_1 := x_l51.c 1 _ rfl; have f_l51_1 := x_l51.f 1 _ rfl
              have c_l51_2 := x_l51.c 2 _ rfl; have f_l51_2 := x_l51.f 2 _ rfl
              have z_b51 := x_b51.lt
              have c_b51_0 := x_b51.c 0 _ rfl; have f_b51_0 := x_b51.f 0 _ rfl
              have c_b51_1 := x_b51.c 1 _ rfl; have f_b51_1 := x_b51.f 1 _ rfl
              have c_b51_2 := x_b51.c 2 _ rfl; have f_b51_2 := x_b51.f 2 _ rfl
              have c_b51_3 := x_b51.c 3 _ rfl; have f_b51_3 := x_b51.f 3 _ rfl
              have c_b51_4 := x_b51.c 4 _ rfl; have f_b51_4 := x_b51.f 4 _ rfl
              have c_b51_5 := x_b51.c 5 _ rfl; have f_b51_5 := x_b51.f 5 _ rfl
              go_upto_region 12 with fail
              go_cut [13, 14] (fun p q0 wx => ∃ b : Nat, p = .pointer (some ⟨b, 0, none⟩) ∧ q0 = .int .i64 0 ∧ Box wx b [.int .i64 bu, .int .i64 ra, .int .i64 pe, .int .i64 L, .int .i64 Q, .int .u64 (t + tk)] ∧ w51.heap.size ≤ b ∧ Box wx (w.heap.size) [.int .i64 bu, .int .i64 ra, .int .i64 pe] ∧ Box wx (w2.heap.size) [.int .i64 bu, .int .i64 ra, .int .i64 pe, .int .i64 lv, .int .i64 pv, .int .u64 t] ∧ Below w.heap.size w wx)
              case first =>
                as_aux_lemma =>
                  go_region_held3 (fun w' => w'.cell? ⟨w2.heap.size, 0, none⟩ = some (.int .i64 bu) ∧ w'.cell? ⟨w2.heap.size, 1, none⟩ = some (.int .i64 ra) ∧ w'.cell? ⟨w2.heap.size, 2, none⟩ = some (.int .i64 pe) ∧ w'.cell? ⟨w2.heap.size, 3, none⟩ = some (.int .i64 lv) ∧ w'.cell? ⟨w2.heap.size, 4, none⟩ = some (.int .i64 pv) ∧ w'.cell? ⟨w2.heap.size, 5, none⟩ = some (.int .u64 t) ∧ w'.cell? ⟨tb, toff + k, none⟩ = some (.int .u64 tk)) (((repeat' apply And.intro) <;> (first | (go_keep; done) | go_cell)))
                    (first
                      | (go_at_call 15; refine (refill_ok HB1.out tt2 E1 E2 E3 _).mono ?_; rintro e v1 ⟨rfl, hv1⟩; have hV1 : Below w.heap.size w v1 := below_thru (by go_grown) hv1; have hs_v1 : w.heap.size ≤ v1.heap.size := hV1.size; have x_l_v1 : Box v1 (w.heap.size) [.int .i64 bu, .int .i64 ra, .int .i64 pe] := (by refine Box.below ?_ hv1; repeat (first | (with_reducible assumption) | (with_reducible refine Box.drew ?_) | (with_reducible refine Box.drewN ?_ _) | ((with_reducible refine Box.new ?_); simp; done) | (with_reducible apply Box.set2) | ((with_reducible apply Box.put); (with_reducible assumption); rfl) | (with_reducible refine Box.alloc ?_ _) | (with_reducible refine Box.other ?_ (by first | (dsimp only; omega) | omega) _))); have z_l_v1 := x_l_v1.lt; have c_l_v1_0 := x_l_v1.c 0 _ rfl; have f_l_v1_0 := x_l_v1.f 0 _ rfl; have c_l_v1_1 := x_l_v1.c 1 _ rfl; have f_l_v1_1 := x_l_v1.f 1 _ rfl; have c_l_v1_2 := x_l_v1.c 2 _ rfl; have f_l_v1_2 := x_l_v1.f 2 _ rfl; have x_b_v1 : Box v1 (w2.heap.size) [.int .i64 bu, .int .i64 ra, .int .i64 pe, .int .i64 lv, .int .i64 pv, .int .u64 t] := (by refine Box.below ?_ hv1; repeat (first | (with_reducible assumption) | (with_reducible refine Box.drew ?_) | (with_reducible refine Box.drewN ?_ _) | ((with_reducible refine Box.new ?_); simp; done) | (with_reducible apply Box.set2) | ((with_reducible apply Box.put); (with_reducible assumption); rfl) | (with_reducible refine Box.alloc ?_ _) | (with_reducible refine Box.other ?_ (by first | (dsimp only; omega) | omega) _))); have z_b_v1 := x_b_v1.lt; have c_b_v1_0 := x_b_v1.c 0 _ rfl; have f_b_v1_0 := x_b_v1.f 0 _ rfl; have c_b_v1_1 := x_b_v1.c 1 _ rfl; have f_b_v1_1 := x_b_v1.f 1 _ rfl; have c_b_v1_2 := x_b_v1.c 2 _ rfl; have f_b_v1_2 := x_b_v1.f 2 _ rfl; have c_b_v1_3 := x_b_v1.c 3 _ rfl; have f_b_v1_3 := x_b_v1.f 3 _ rfl; have c_b_v1_4 := x_b_v1.c 4 _ rfl; have f_b_v1_4 := x_b_v1.f 4 _ rfl; have c_b_v1_5 := x_b_v1.c 5 _ rfl; have f_b_v1_5 := x_b_v1.f 5 _ rfl; have c_t_v1 := cell_below hV1 T0; have c_co_v1 := cell_below hV1 C0; have t_v1 := hv1.size; try simp at t_v1; (first | (with_reducible have y := Box.below (Box.drew (Box.new rfl)) hv1) | (with_reducible have y := Box.below (Box.new rfl) hv1) | (with_reducible have y := Box.below y hv1) | (have y := trivial)); (try simp only [World.size_alloc] at y); try (have yz := Box.lt y; have y0 := Box.c y 0 _ rfl; have yf0 := Box.f y 0 _ rfl; have y1 := Box.c y 1 _ rfl; have yf1 := Box.f y 1 _ rfl; have y2 := Box.c y 2 _ rfl; have yf2 := Box.f y 2 _ rfl; have y3 := Box.c y 3 _ rfl; have yf3 := Box.f y 3 _ rfl; have y4 := Box.c y 4 _ rfl; have yf4 := Box.f y 4 _ rfl; have y5 := Box.c y 5 _ rfl; have yf5 := Box.f y 5 _ rfl)))
                  all_goals
                    go_wp2_with fail
                    go_meet
                    refine ⟨_, rfl, rfl, ?_, ?_, ?_, ?_, ?_⟩
                    all_goals first
                      | (first | (dsimp only; omega) | omega | (simp; omega))
                      | ((repeat (first | (with_reducible apply put6) | (with_reducible refine other6 ?_ (by first | (dsimp only; omega) | omega) _ _ _ _ _ _) | (with_reducible assumption) | (with_reducible refine Box.drew ?_) | (with_reducible refine Box.drewN ?_ _) | ((with_reducible refine Box.new ?_); simp; done) | (with_reducible apply Box.set2) | (with_reducible refine Box.alloc ?_ _) | (with_reducible refine Box.other ?_ (by first | (dsimp only; omega) | omega) _))); done)
                      | (go_grown; done)
              case rest =>
                as_aux_lemma =>
                  obtain ⟨b52, rfl, rfl, x_c52, lo_c52, x_l52, x_b52, hB52⟩ := hcut
                  obtain ⟨w52, rfl⟩ : ∃ u : World, u = wc := ⟨_, rfl⟩
                  have o_c_l := Nat.lt_of_lt_of_le z_l51 lo_c52
                  have o_c_b := Nat.lt_of_lt_of_le z_b51 lo_c52
                  clear hB51 hs51 c_t51 c_co51 x_l51 z_l51 c_l51_0 c_l51_1 c_l51_2 f_l51_0 f_l51_1 f_l51_2 x_b51 z_b51 c_b51_0 c_b51_1 c_b51_2 c_b51_3 c_b51_4 c_b51_5 f_b51_0 f_b51_1 f_b51_2 f_b51_3 f_b51_4 f_b51_5
                  have c_t52 := cell_below hB52 T0
                  have c_co52 := cell_below hB52 C0
                  have hs52 : w.heap.size ≤ w52.heap.size := hB52.size
                  have z_l52 := x_l52.lt
                  have c_l52_0 := x_l52.c 0 _ rfl; have f_l52_0 := x_l52.f 0 _ rfl
                  have c_l52_1 := x_l52.c 1 _ rfl; have f_l52_1 := x_l52.f 1 _ rfl
                  have c_l52_2 := x_l52.c 2 _ rfl; have f_l52_2 := x_l52.f 2 _ rfl
                  have z_b52 := x_b52.lt
                  have c_b52_0 := x_b52.c 0 _ rfl; have f_b52_0 := x_b52.f 0 _ rfl
                  have c_b52_1 := x_b52.c 1 _ rfl; have f_b52_1 := x_b52.f 1 _ rfl
                  have c_b52_2 := x_b52.c 2 _ rfl; have f_b52_2 := x_b52.f 2 _ rfl
                  have c_b52_3 := x_b52.c 3 _ rfl; have f_b52_3 := x_b52.f 3 _ rfl
                  have c_b52_4 := x_b52.c 4 _ rfl; have f_b52_4 := x_b52.f 4 _ rfl
                  have c_b52_5 := x_b52.c 5 _ rfl; have f_b52_5 := x_b52.f 5 _ rfl
                  have z_c52 := x_c52.lt
                  have c_c52_0 := x_c52.c 0 _ rfl; have f_c52_0 := x_c52.f 0 _ rfl
                  have c_c52_1 := x_c52.c 1 _ rfl; have f_c52_1 := x_c52.f 1 _ rfl
                  have c_c52_2 := x_c52.c 2 _ rfl; have f_c52_2 := x_c52.f 2 _ rfl
                  have c_c52_3 := x_c52.c 3 _ rfl; have f_c52_3 := x_c52.f 3 _ rfl
                  have c_c52_4 := x_c52.c 4 _ rfl; have f_c52_4 := x_c52.f 4 _ rfl
                  have c_c52_5 := x_c52.c 5 _ rfl; have f_c52_5 := x_c52.f 5 _ rfl
                  go_wp2_with fail
                  refine (alive03_any _).mono ?_
                  rintro e w53 ⟨rfl, hb⟩
                  have hB53 : Below w.heap.size w w53 := below_thru (by go_grown) hb
                  have hs53 : w.heap.size ≤ w53.heap.size := hB53.size
                  have x_l53 : Box w53 (w.heap.size) [.int .i64 bu, .int .i64 ra, .int .i64 pe] := (by refine Box.below ?_ hb; repeat (first | (with_reducible assumption) | (with_reducible refine Box.drew ?_) | (with_reducible refine Box.drewN ?_ _) | ((with_reducible refine Box.new ?_); simp; done) | (with_reducible apply Box.set2) | ((with_reducible apply Box.put); (with_reducible assumption); rfl) | (with_reducible refine Box.alloc ?_ _) | (with_reducible refine Box.other ?_ (by first | (dsimp only; omega) | omega) _)))
                  have z_l53 := x_l53.lt
                  have c_l53_0 := x_l53.c 0 _ rfl
                  have f_l53_0 := x_l53.f 0 _ rfl
                  have c_l53_1 := x_l53.c 1 _ rfl
                  have f_l53_1 := x_l53.f 1 _ rfl
                  have c_l53_2 := x_l53.c 2 _ rfl
                  have f_l53_2 := x_l53.f 2 _ rfl
                  have x_b53 : Box w53 (w2.heap.size) [.int .i64 bu, .int .i64 ra, .int .i64 pe, .int .i64 lv, .int .i64 pv, .int .u64 t] := (by refine Box.below ?_ hb; repeat (first | (with_reducible assumption) | (with_reducible refine Box.drew ?_) | (with_reducible refine Box.drewN ?_ _) | ((with_reducible refine Box.new ?_); simp; done) | (with_reducible apply Box.set2) | ((with_reducible apply Box.put); (with_reducible assumption); rfl) | (with_reducible refine Box.alloc ?_ _) | (with_reducible refine Box.other ?_ (by first | (dsimp only; omega) | omega) _)))
                  have z_b53 := x_b53.lt
                  have c_b53_0 := x_b53.c 0 _ rfl
                  have f_b53_0 := x_b53.f 0 _ rfl
                  have c_b53_1 := x_b53.c 1 _ rfl
                  have f_b53_1 := x_b53.f 1 _ rfl
                  have c_b53_2 := x_b53.c 2 _ rfl
                  have f_b53_2 := x_b53.f 2 _ rfl
                  have c_b53_3 := x_b53.c 3 _ rfl
                  have f_b53_3 := x_b53.f 3 _ rfl
                  have c_b53_4 := x_b53.c 4 _ rfl
                  have f_b53_4 := x_b53.f 4 _ rfl
                  have c_b53_5 := x_b53.c 5 _ rfl
                  have f_b53_5 := x_b53.f 5 _ rfl
                  have x_c53 : Box w53 (b52) [.int .i64 bu, .int .i64 ra, .int .i64 pe, .int .i64 L, .int .i64 Q, .int .u64 (t + tk)] := (by refine Box.below ?_ hb; repeat (first | (with_reducible assumption) | (with_reducible refine Box.drew ?_) | (with_reducible refine Box.drewN ?_ _) | ((with_reducible refine Box.new ?_); simp; done) | (with_reducible apply Box.set2) | ((with_reducible apply Box.put); (with_reducible assumption); rfl) | (with_reducible refine Box.alloc ?_ _) | (with_reducible refine Box.other ?_ (by first | (dsimp only; omega) | omega) _)))
                  have z_c53 := x_c53.lt
                  have c_c53_0 := x_c53.c 0 _ rfl
                  have f_c53_0 := x_c53.f 0 _ rfl
                  have c_c53_1 := x_c53.c 1 _ rfl
                  have f_c53_1 := x_c53.f 1 _ rfl
                  have c_c53_2 := x_c53.c 2 _ rfl
                  have f_c53_2 := x_c53.f 2 _ rfl
                  have c_c53_3 := x_c53.c 3 _ rfl
                  have f_c53_3 := x_c53.f 3 _ rfl
                  have c_c53_4 := x_c53.c 4 _ rfl
                  have f_c53_4 := x_c53.f 4 _ rfl
                  have c_c53_5 := x_c53.c 5 _ rfl
                  have f_c53_5 := x_c53.f 5 _ rfl
                  have c_t53 := cell_below hB53 T0
                  have c_co53 := cell_below hB53 C0
                  have t53 := hb.size
                  try simp at t53
                  clear hb hB52 hs52 c_t52 c_co52 x_l52 z_l52 c_l52_0 c_l52_1 c_l52_2 f_l52_0 f_l52_1 f_l52_2 x_b52 z_b52 c_b52_0 c_b52_1 c_b52_2 c_b52_3 c_b52_4 c_b52_5 f_b52_0 f_b52_1 f_b52_2 f_b52_3 f_b52_4 f_b52_5 x_c52 z_c52 c_c52_0 c_c52_1 c_c52_2 c_c52_3 c_c52_4 c_c52_5 f_c52_0 f_c52_1 f_c52_2 f_c52_3 f_c52_4 f_c52_5
                  go_wp2_with fail
                  go_returns
                  exact ⟨rfl, by go_grown⟩
        case neg =>
          have d2 : decide (co < 0) = false := decide_eq_false hneg
          by_cases hch : co ≤ L
          case pos =>
            have BC := BF.out.charged (show 0 ≤ co by omega) hch
            have VC := bound_charge (c := co) VF.out
            obtain ⟨D, f1⟩ : ∃ x, L - co = x := ⟨_, rfl⟩
            rw [f1] at BC VC
            have F1 := Lib.hid f1
            have HB2 := Lib.hid BC
            have HV2 := Lib.hid VC
            have q1 : 0 ≤ co := by omega
            have r3 : IntKind.u64.wrap co = co := IntWalk.u64_in _ (by omega)
            have r4 : IntKind.u64.wrap (ch + co) = ch + co := IntWalk.u64_in _ (by omega)
            clear f1 BC VC
            have z_l50 := x_l50.lt
            have c_l50_0 := x_l50.c 0 _ rfl; have f_l50_0 := x_l50.f 0 _ rfl
            have c_l50_1 := x_l50.c 1 _ rfl; have f_l50_1 := x_l50.f 1 _ rfl
            have c_l50_2 := x_l50.c 2 _ rfl; have f_l50_2 := x_l50.f 2 _ rfl
            have z_b50 := x_b50.lt
            have c_b50_0 := x_b50.c 0 _ rfl; have f_b50_0 := x_b50.f 0 _ rfl
            have c_b50_1 := x_b50.c 1 _ rfl; have f_b50_1 := x_b50.f 1 _ rfl
            have c_b50_2 := x_b50.c 2 _ rfl; have f_b50_2 := x_b50.f 2 _ rfl
            have c_b50_3 := x_b50.c 3 _ rfl; have f_b50_3 := x_b50.f 3 _ rfl
            have c_b50_4 := x_b50.c 4 _ rfl; have f_b50_4 := x_b50.f 4 _ rfl
            have c_b50_5 := x_b50.c 5 _ rfl; have f_b50_5 := x_b50.f 5 _ rfl
            have c_t50 := cell_below hB50 T0
            have c_co50 := cell_below hB50 C0
            go_upto_region 10 with fail
            go_cut [59] (fun q0 wx => q0 = .bool false ∧ Box wx (w.heap.size) [.int .i64 bu, .int .i64 ra, .int .i64 pe] ∧ Box wx (w2.heap.size) [.int .i64 bu, .int .i64 ra, .int .i64 pe, .int .i64 lv, .int .i64 pv, .int .u64 t] ∧ Below w.heap.size w wx)
            case first =>
              as_aux_lemma =>
                go_region_held3 (fun w' => w'.cell? ⟨tb, toff + k, none⟩ = some (.int .u64 tk) ∧ w'.cell? ⟨w2.heap.size, 5, none⟩ = some (.int .u64 t)) (((repeat' apply And.intro) <;> (first | (go_keep; done) | go_cell)))
                  (fail)
                all_goals
                  go_wp2_with fail
                  go_meet
                  refine ⟨rfl, ?_, ?_, ?_⟩
                  all_goals first
                    | ((repeat (first | (with_reducible assumption) | (with_reducible refine Box.drew ?_) | (with_reducible refine Box.drewN ?_ _) | ((with_reducible refine Box.new ?_); simp; done) | (with_reducible apply Box.set2) | (with_reducible refine Box.alloc ?_ _) | (with_reducible refine Box.other ?_ (by first | (dsimp only; omega) | omega) _))); done)
                    | (go_grown; done)
            case rest =>
              as_aux_lemma =>
                obtain ⟨rfl, x_l51, x_b51, hB51⟩ := hcut
                obtain ⟨w51, rfl⟩ : ∃ u : World, u = wc := ⟨_, rfl⟩
                clear hB50 hs50 c_t50 c_co50 x_l50 z_l50 c_l50_0 c_l50_1 c_l50_2 f_l50_0 f_l50_1 f_l50_2 x_b50 z_b50 c_b50_0 c_b50_1 c_b50_2 c_b50_3 c_b50_4 c_b50_5 f_b50_0 f_b50_1 f_b50_2 f_b50_3 f_b50_4 f_b50_5
                have c_t51 := cell_below hB51 T0
                have c_co51 := cell_below hB51 C0
                have hs51 : w.heap.size ≤ w51.heap.size := hB51.size
                have z_l51 := x_l51.lt
                have c_l51_0 := x_l51.c 0 _ rfl; have f_l51_0 := x_l51.f 0 _ rfl
                have c_l51_1 := x_l51.c 1 _ rfl; have f_l51_1 := x_l51.f 1 _ rfl
                have c_l51_2 := x_l51.c 2 _ rfl; have f_l51_2 := x_l51.f 2 _ rfl
                have z_b51 := x_b51.lt
                have c_b51_0 := x_b51.c 0 _ rfl; have f_b51_0 := x_b51.f 0 _ rfl
                have c_b51_1 := x_b51.c 1 _ rfl; have f_b51_1 := x_b51.f 1 _ rfl
                have c_b51_2 := x_b51.c 2 _ rfl; have f_b51_2 := x_b51.f 2 _ rfl
                have c_b51_3 := x_b51.c 3 _ rfl; have f_b51_3 := x_b51.f 3 _ rfl
                have c_b51_4 := x_b51.c 4 _ rfl; have f_b51_4 := x_b51.f 4 _ rfl
                have c_b51_5 := x_b51.c 5 _ rfl; have f_b51_5 := x_b51.f 5 _ rfl
                go_upto_region 12 with fail
                go_cut [13, 14] (fun p q0 wx => ∃ b : Nat, p = .pointer (some ⟨b, 0, none⟩) ∧ q0 = .int .i64 0 ∧ Box wx b [.int .i64 bu, .int .i64 ra, .int .i64 pe, .int .i64 L, .int .i64 Q, .int .u64 (t + tk)] ∧ w51.heap.size ≤ b ∧ Box wx (w.heap.size) [.int .i64 bu, .int .i64 ra, .int .i64 pe] ∧ Box wx (w2.heap.size) [.int .i64 bu, .int .i64 ra, .int .i64 pe, .int .i64 lv, .int .i64 pv, .int .u64 t] ∧ Below w.heap.size w wx)
                case first =>
                  as_aux_lemma =>
                    go_region_held3 (fun w' => w'.cell? ⟨w2.heap.size, 0, none⟩ = some (.int .i64 bu) ∧ w'.cell? ⟨w2.heap.size, 1, none⟩ = some (.int .i64 ra) ∧ w'.cell? ⟨w2.heap.size, 2, none⟩ = some (.int .i64 pe) ∧ w'.cell? ⟨w2.heap.size, 3, none⟩ = some (.int .i64 lv) ∧ w'.cell? ⟨w2.heap.size, 4, none⟩ = some (.int .i64 pv) ∧ w'.cell? ⟨w2.heap.size, 5, none⟩ = some (.int .u64 t) ∧ w'.cell? ⟨tb, toff + k, none⟩ = some (.int .u64 tk)) (((repeat' apply And.intro) <;> (first | (go_keep; done) | go_cell)))
                      (first
                        | (go_at_call 15; refine (refill_ok HB1.out tt2 E1 E2 E3 _).mono ?_; rintro e v1 ⟨rfl, hv1⟩; have hV1 : Below w.heap.size w v1 := below_thru (by go_grown) hv1; have hs_v1 : w.heap.size ≤ v1.heap.size := hV1.size; have x_l_v1 : Box v1 (w.heap.size) [.int .i64 bu, .int .i64 ra, .int .i64 pe] := (by refine Box.below ?_ hv1; repeat (first | (with_reducible assumption) | (with_reducible refine Box.drew ?_) | (with_reducible refine Box.drewN ?_ _) | ((with_reducible refine Box.new ?_); simp; done) | (with_reducible apply Box.set2) | ((with_reducible apply Box.put); (with_reducible assumption); rfl) | (with_reducible refine Box.alloc ?_ _) | (with_reducible refine Box.other ?_ (by first | (dsimp only; omega) | omega) _))); have z_l_v1 := x_l_v1.lt; have c_l_v1_0 := x_l_v1.c 0 _ rfl; have f_l_v1_0 := x_l_v1.f 0 _ rfl; have c_l_v1_1 := x_l_v1.c 1 _ rfl; have f_l_v1_1 := x_l_v1.f 1 _ rfl; have c_l_v1_2 := x_l_v1.c 2 _ rfl; have f_l_v1_2 := x_l_v1.f 2 _ rfl; have x_b_v1 : Box v1 (w2.heap.size) [.int .i64 bu, .int .i64 ra, .int .i64 pe, .int .i64 lv, .int .i64 pv, .int .u64 t] := (by refine Box.below ?_ hv1; repeat (first | (with_reducible assumption) | (with_reducible refine Box.drew ?_) | (with_reducible refine Box.drewN ?_ _) | ((with_reducible refine Box.new ?_); simp; done) | (with_reducible apply Box.set2) | ((with_reducible apply Box.put); (with_reducible assumption); rfl) | (with_reducible refine Box.alloc ?_ _) | (with_reducible refine Box.other ?_ (by first | (dsimp only; omega) | omega) _))); have z_b_v1 := x_b_v1.lt; have c_b_v1_0 := x_b_v1.c 0 _ rfl; have f_b_v1_0 := x_b_v1.f 0 _ rfl; have c_b_v1_1 := x_b_v1.c 1 _ rfl; have f_b_v1_1 := x_b_v1.f 1 _ rfl; have c_b_v1_2 := x_b_v1.c 2 _ rfl; have f_b_v1_2 := x_b_v1.f 2 _ rfl; have c_b_v1_3 := x_b_v1.c 3 _ rfl; have f_b_v1_3 := x_b_v1.f 3 _ rfl; have c_b_v1_4 := x_b_v1.c 4 _ rfl; have f_b_v1_4 := x_b_v1.f 4 _ rfl; have c_b_v1_5 := x_b_v1.c 5 _ rfl; have f_b_v1_5 := x_b_v1.f 5 _ rfl; have c_t_v1 := cell_below hV1 T0; have c_co_v1 := cell_below hV1 C0; have t_v1 := hv1.size; try simp at t_v1; (first | (with_reducible have y := Box.below (Box.drew (Box.new rfl)) hv1) | (with_reducible have y := Box.below (Box.new rfl) hv1) | (with_reducible have y := Box.below y hv1) | (have y := trivial)); (try simp only [World.size_alloc] at y); try (have yz := Box.lt y; have y0 := Box.c y 0 _ rfl; have yf0 := Box.f y 0 _ rfl; have y1 := Box.c y 1 _ rfl; have yf1 := Box.f y 1 _ rfl; have y2 := Box.c y 2 _ rfl; have yf2 := Box.f y 2 _ rfl; have y3 := Box.c y 3 _ rfl; have yf3 := Box.f y 3 _ rfl; have y4 := Box.c y 4 _ rfl; have yf4 := Box.f y 4 _ rfl; have y5 := Box.c y 5 _ rfl; have yf5 := Box.f y 5 _ rfl)))
                    all_goals
                      go_wp2_with fail
                      go_meet
                      refine ⟨_, rfl, rfl, ?_, ?_, ?_, ?_, ?_⟩
                      all_goals first
                        | (first | (dsimp only; omega) | omega | (simp; omega))
                        | ((repeat (first | (with_reducible apply put6) | (with_reducible refine other6 ?_ (by first | (dsimp only; omega) | omega) _ _ _ _ _ _) | (with_reducible assumption) | (with_reducible refine Box.drew ?_) | (with_reducible refine Box.drewN ?_ _) | ((with_reducible refine Box.new ?_); simp; done) | (with_reducible apply Box.set2) | (with_reducible refine Box.alloc ?_ _) | (with_reducible refine Box.other ?_ (by first | (dsimp only; omega) | omega) _))); done)
                        | (go_grown; done)
                case rest =>
                  as_aux_lemma =>
                    obtain ⟨b52, rfl, rfl, x_c52, lo_c52, x_l52, x_b52, hB52⟩ := hcut
                    obtain ⟨w52, rfl⟩ : ∃ u : World, u = wc := ⟨_, rfl⟩
                    have o_c_l := Nat.lt_of_lt_of_le z_l51 lo_c52
                    have o_c_b := Nat.lt_of_lt_of_le z_b51 lo_c52
                    clear hB51 hs51 c_t51 c_co51 x_l51 z_l51 c_l51_0 c_l51_1 c_l51_2 f_l51_0 f_l51_1 f_l51_2 x_b51 z_b51 c_b51_0 c_b51_1 c_b51_2 c_b51_3 c_b51_4 c_b51_5 f_b51_0 f_b51_1 f_b51_2 f_b51_3 f_b51_4 f_b51_5
                    have c_t52 := cell_below hB52 T0
                    have c_co52 := cell_below hB52 C0
                    have hs52 : w.heap.size ≤ w52.heap.size := hB52.size
                    have z_l52 := x_l52.lt
                    have c_l52_0 := x_l52.c 0 _ rfl; have f_l52_0 := x_l52.f 0 _ rfl
                    have c_l52_1 := x_l52.c 1 _ rfl; have f_l52_1 := x_l52.f 1 _ rfl
                    have c_l52_2 := x_l52.c 2 _ rfl; have f_l52_2 := x_l52.f 2 _ rfl
                    have z_b52 := x_b52.lt
                    have c_b52_0 := x_b52.c 0 _ rfl; have f_b52_0 := x_b52.f 0 _ rfl
                    have c_b52_1 := x_b52.c 1 _ rfl; have f_b52_1 := x_b52.f 1 _ rfl
                    have c_b52_2 := x_b52.c 2 _ rfl; have f_b52_2 := x_b52.f 2 _ rfl
                    have c_b52_3 := x_b52.c 3 _ rfl; have f_b52_3 := x_b52.f 3 _ rfl
                    have c_b52_4 := x_b52.c 4 _ rfl; have f_b52_4 := x_b52.f 4 _ rfl
                    have c_b52_5 := x_b52.c 5 _ rfl; have f_b52_5 := x_b52.f 5 _ rfl
                    have z_c52 := x_c52.lt
                    have c_c52_0 := x_c52.c 0 _ rfl; have f_c52_0 := x_c52.f 0 _ rfl
                    have c_c52_1 := x_c52.c 1 _ rfl; have f_c52_1 := x_c52.f 1 _ rfl
                    have c_c52_2 := x_c52.c 2 _ rfl; have f_c52_2 := x_c52.f 2 _ rfl
                    have c_c52_3 := x_c52.c 3 _ rfl; have f_c52_3 := x_c52.f 3 _ rfl
                    have c_c52_4 := x_c52.c 4 _ rfl; have f_c52_4 := x_c52.f 4 _ rfl
                    have c_c52_5 := x_c52.c 5 _ rfl; have f_c52_5 := x_c52.f 5 _ rfl
                    go_upto_region 16 with fail
                    have x_b62 := put6 x_b52 (.int .i64 bu) (.int .i64 ra) (.int .i64 pe) (.int .i64 L) (.int .i64 Q) (.int .u64 (t + tk))
                    have x_l62 := other6 x_l52 (show w2.heap.size ≠ w.heap.size by omega) (.int .i64 bu) (.int .i64 ra) (.int .i64 pe) (.int .i64 L) (.int .i64 Q) (.int .u64 (t + tk))
                    have hB62 := below6b (show w.heap.size ≤ w2.heap.size by omega) hB52 (.int .i64 bu) (.int .i64 ra) (.int .i64 pe) (.int .i64 L) (.int .i64 Q) (.int .u64 (t + tk))
                    obtain ⟨w62, h9⟩ : ∃ W, ((((((w52.setCell ⟨w2.heap.size, 0, none⟩ (.int .i64 bu)).setCell ⟨w2.heap.size, 1, none⟩ (.int .i64 ra)).setCell ⟨w2.heap.size, 2, none⟩ (.int .i64 pe)).setCell ⟨w2.heap.size, 3, none⟩ (.int .i64 L)).setCell ⟨w2.heap.size, 4, none⟩ (.int .i64 Q)).setCell ⟨w2.heap.size, 5, none⟩ (.int .u64 (t + tk))) = W := ⟨_, rfl⟩
                    rw [h9] at x_b62 x_l62 hB62 ⊢
                    have hs62 := hB62.size
                    clear hB52 hs52 h9 x_l52 z_l52 c_l52_0 c_l52_1 c_l52_2 f_l52_0 f_l52_1 f_l52_2 x_b52 z_b52 c_b52_0 c_b52_1 c_b52_2 c_b52_3 c_b52_4 c_b52_5 f_b52_0 f_b52_1 f_b52_2 f_b52_3 f_b52_4 f_b52_5 x_c52 z_c52 c_c52_0 c_c52_1 c_c52_2 c_c52_3 c_c52_4 c_c52_5 f_c52_0 f_c52_1 f_c52_2 f_c52_3 f_c52_4 f_c52_5
                    have z_l62 := x_l62.lt
                    have c_l62_0 := x_l62.c 0 _ rfl; have f_l62_0 := x_l62.f 0 _ rfl
                    have c_l62_1 := x_l62.c 1 _ rfl; have f_l62_1 := x_l62.f 1 _ rfl
                    have c_l62_2 := x_l62.c 2 _ rfl; have f_l62_2 := x_l62.f 2 _ rfl
                    have z_b62 := x_b62.lt
                    have c_b62_0 := x_b62.c 0 _ rfl; have f_b62_0 := x_b62.f 0 _ rfl
                    have c_b62_1 := x_b62.c 1 _ rfl; have f_b62_1 := x_b62.f 1 _ rfl
                    have c_b62_2 := x_b62.c 2 _ rfl; have f_b62_2 := x_b62.f 2 _ rfl
                    have c_b62_3 := x_b62.c 3 _ rfl; have f_b62_3 := x_b62.f 3 _ rfl
                    have c_b62_4 := x_b62.c 4 _ rfl; have f_b62_4 := x_b62.f 4 _ rfl
                    have c_b62_5 := x_b62.c 5 _ rfl; have f_b62_5 := x_b62.f 5 _ rfl
                    have c_co62 := cell_below hB62 C0
                    have c_t62 := cell_below hB62 T0
                    go_upto_region 16 with fail
                    go_cut [15, 16] (fun p q0 wx => ∃ b : Nat, p = .pointer (some ⟨b, 0, none⟩) ∧ q0 = .int .i64 0 ∧ Box wx b [.int .i64 bu, .int .i64 ra, .int .i64 pe, .int .i64 D, .int .i64 Q, .int .u64 (t + tk)] ∧ w62.heap.size ≤ b ∧ Box wx (w.heap.size) [.int .i64 bu, .int .i64 ra, .int .i64 pe] ∧ Box wx (w2.heap.size) [.int .i64 bu, .int .i64 ra, .int .i64 pe, .int .i64 L, .int .i64 Q, .int .u64 (t + tk)] ∧ Below w.heap.size w wx)
                    case first =>
                      as_aux_lemma =>
                        go_region_held3 (fun w' => w'.cell? ⟨w2.heap.size, 0, none⟩ = some (.int .i64 bu) ∧ w'.cell? ⟨w2.heap.size, 1, none⟩ = some (.int .i64 ra) ∧ w'.cell? ⟨w2.heap.size, 2, none⟩ = some (.int .i64 pe) ∧ w'.cell? ⟨w2.heap.size, 3, none⟩ = some (.int .i64 L) ∧ w'.cell? ⟨w2.heap.size, 4, none⟩ = some (.int .i64 Q) ∧ w'.cell? ⟨w2.heap.size, 5, none⟩ = some (.int .u64 (t + tk)) ∧ w'.cell? ⟨cb, coff + k, none⟩ = some (.int .i64 co)) (((repeat' apply And.intro) <;> (first | (go_keep; done) | go_cell)))
                          (first
                            | (go_at_call 16; refine (charge_is K1 q1 hch hll F1 _).mono ?_; rintro e v1 ⟨rfl, hv1⟩; have hV1 : Below w.heap.size w v1 := below_thru (by go_grown) hv1; have hs_v1 : w.heap.size ≤ v1.heap.size := hV1.size; have x_l_v1 : Box v1 (w.heap.size) [.int .i64 bu, .int .i64 ra, .int .i64 pe] := (by refine Box.below ?_ hv1; repeat (first | (with_reducible assumption) | (with_reducible refine Box.drew ?_) | (with_reducible refine Box.drewN ?_ _) | ((with_reducible refine Box.new ?_); simp; done) | (with_reducible apply Box.set2) | ((with_reducible apply Box.put); (with_reducible assumption); rfl) | (with_reducible refine Box.alloc ?_ _) | (with_reducible refine Box.other ?_ (by first | (dsimp only; omega) | omega) _))); have z_l_v1 := x_l_v1.lt; have c_l_v1_0 := x_l_v1.c 0 _ rfl; have f_l_v1_0 := x_l_v1.f 0 _ rfl; have c_l_v1_1 := x_l_v1.c 1 _ rfl; have f_l_v1_1 := x_l_v1.f 1 _ rfl; have c_l_v1_2 := x_l_v1.c 2 _ rfl; have f_l_v1_2 := x_l_v1.f 2 _ rfl; have x_b_v1 : Box v1 (w2.heap.size) [.int .i64 bu, .int .i64 ra, .int .i64 pe, .int .i64 L, .int .i64 Q, .int .u64 (t + tk)] := (by refine Box.below ?_ hv1; repeat (first | (with_reducible assumption) | (with_reducible refine Box.drew ?_) | (with_reducible refine Box.drewN ?_ _) | ((with_reducible refine Box.new ?_); simp; done) | (with_reducible apply Box.set2) | ((with_reducible apply Box.put); (with_reducible assumption); rfl) | (with_reducible refine Box.alloc ?_ _) | (with_reducible refine Box.other ?_ (by first | (dsimp only; omega) | omega) _))); have z_b_v1 := x_b_v1.lt; have c_b_v1_0 := x_b_v1.c 0 _ rfl; have f_b_v1_0 := x_b_v1.f 0 _ rfl; have c_b_v1_1 := x_b_v1.c 1 _ rfl; have f_b_v1_1 := x_b_v1.f 1 _ rfl; have c_b_v1_2 := x_b_v1.c 2 _ rfl; have f_b_v1_2 := x_b_v1.f 2 _ rfl; have c_b_v1_3 := x_b_v1.c 3 _ rfl; have f_b_v1_3 := x_b_v1.f 3 _ rfl; have c_b_v1_4 := x_b_v1.c 4 _ rfl; have f_b_v1_4 := x_b_v1.f 4 _ rfl; have c_b_v1_5 := x_b_v1.c 5 _ rfl; have f_b_v1_5 := x_b_v1.f 5 _ rfl; have c_t_v1 := cell_below hV1 T0; have c_co_v1 := cell_below hV1 C0; have t_v1 := hv1.size; try simp at t_v1; (first | (with_reducible have y := Box.below (Box.drew (Box.new rfl)) hv1) | (with_reducible have y := Box.below (Box.new rfl) hv1) | (with_reducible have y := Box.below y hv1) | (have y := trivial)); (try simp only [World.size_alloc] at y); try (have yz := Box.lt y; have y0 := Box.c y 0 _ rfl; have yf0 := Box.f y 0 _ rfl; have y1 := Box.c y 1 _ rfl; have yf1 := Box.f y 1 _ rfl; have y2 := Box.c y 2 _ rfl; have yf2 := Box.f y 2 _ rfl; have y3 := Box.c y 3 _ rfl; have yf3 := Box.f y 3 _ rfl; have y4 := Box.c y 4 _ rfl; have yf4 := Box.f y 4 _ rfl; have y5 := Box.c y 5 _ rfl; have yf5 := Box.f y 5 _ rfl)))
                        all_goals
                          go_wp2_with fail
                          go_meet
                          refine ⟨_, rfl, rfl, ?_, ?_, ?_, ?_, ?_⟩
                          all_goals first
                            | (first | (dsimp only; omega) | omega | (simp; omega))
                            | ((repeat (first | (with_reducible apply put6) | (with_reducible refine other6 ?_ (by first | (dsimp only; omega) | omega) _ _ _ _ _ _) | (with_reducible assumption) | (with_reducible refine Box.drew ?_) | (with_reducible refine Box.drewN ?_ _) | ((with_reducible refine Box.new ?_); simp; done) | (with_reducible apply Box.set2) | (with_reducible refine Box.alloc ?_ _) | (with_reducible refine Box.other ?_ (by first | (dsimp only; omega) | omega) _))); done)
                            | (go_grown; done)
                    case rest =>
                      as_aux_lemma =>
                        obtain ⟨b63, rfl, rfl, x_d63, lo_d63, x_l63, x_b63, hB63⟩ := hcut
                        obtain ⟨w63, rfl⟩ : ∃ u : World, u = wc := ⟨_, rfl⟩
                        have o_d_l := Nat.lt_of_lt_of_le z_l62 lo_d63
                        have o_d_b := Nat.lt_of_lt_of_le z_b62 lo_d63
                        clear hB62 hs62 c_t62 c_co62 x_l62 z_l62 c_l62_0 c_l62_1 c_l62_2 f_l62_0 f_l62_1 f_l62_2 x_b62 z_b62 c_b62_0 c_b62_1 c_b62_2 c_b62_3 c_b62_4 c_b62_5 f_b62_0 f_b62_1 f_b62_2 f_b62_3 f_b62_4 f_b62_5
                        have c_t63 := cell_below hB63 T0
                        have c_co63 := cell_below hB63 C0
                        have hs63 : w.heap.size ≤ w63.heap.size := hB63.size
                        have z_l63 := x_l63.lt
                        have c_l63_0 := x_l63.c 0 _ rfl; have f_l63_0 := x_l63.f 0 _ rfl
                        have c_l63_1 := x_l63.c 1 _ rfl; have f_l63_1 := x_l63.f 1 _ rfl
                        have c_l63_2 := x_l63.c 2 _ rfl; have f_l63_2 := x_l63.f 2 _ rfl
                        have z_b63 := x_b63.lt
                        have c_b63_0 := x_b63.c 0 _ rfl; have f_b63_0 := x_b63.f 0 _ rfl
                        have c_b63_1 := x_b63.c 1 _ rfl; have f_b63_1 := x_b63.f 1 _ rfl
                        have c_b63_2 := x_b63.c 2 _ rfl; have f_b63_2 := x_b63.f 2 _ rfl
                        have c_b63_3 := x_b63.c 3 _ rfl; have f_b63_3 := x_b63.f 3 _ rfl
                        have c_b63_4 := x_b63.c 4 _ rfl; have f_b63_4 := x_b63.f 4 _ rfl
                        have c_b63_5 := x_b63.c 5 _ rfl; have f_b63_5 := x_b63.f 5 _ rfl
                        have z_d63 := x_d63.lt
                        have c_d63_0 := x_d63.c 0 _ rfl; have f_d63_0 := x_d63.f 0 _ rfl
                        have c_d63_1 := x_d63.c 1 _ rfl; have f_d63_1 := x_d63.f 1 _ rfl
                        have c_d63_2 := x_d63.c 2 _ rfl; have f_d63_2 := x_d63.f 2 _ rfl
                        have c_d63_3 := x_d63.c 3 _ rfl; have f_d63_3 := x_d63.f 3 _ rfl
                        have c_d63_4 := x_d63.c 4 _ rfl; have f_d63_4 := x_d63.f 4 _ rfl
                        have c_d63_5 := x_d63.c 5 _ rfl; have f_d63_5 := x_d63.f 5 _ rfl
                        go_upto_region 19 with fail
                        have x_b72 := put6 x_b63 (.int .i64 bu) (.int .i64 ra) (.int .i64 pe) (.int .i64 D) (.int .i64 Q) (.int .u64 (t + tk))
                        have x_l72 := other6 x_l63 (show w2.heap.size ≠ w.heap.size by omega) (.int .i64 bu) (.int .i64 ra) (.int .i64 pe) (.int .i64 D) (.int .i64 Q) (.int .u64 (t + tk))
                        have hB72 := below6b (show w.heap.size ≤ w2.heap.size by omega) hB63 (.int .i64 bu) (.int .i64 ra) (.int .i64 pe) (.int .i64 D) (.int .i64 Q) (.int .u64 (t + tk))
                        obtain ⟨w72, h9⟩ : ∃ W, ((((((w63.setCell ⟨w2.heap.size, 0, none⟩ (.int .i64 bu)).setCell ⟨w2.heap.size, 1, none⟩ (.int .i64 ra)).setCell ⟨w2.heap.size, 2, none⟩ (.int .i64 pe)).setCell ⟨w2.heap.size, 3, none⟩ (.int .i64 D)).setCell ⟨w2.heap.size, 4, none⟩ (.int .i64 Q)).setCell ⟨w2.heap.size, 5, none⟩ (.int .u64 (t + tk))) = W := ⟨_, rfl⟩
                        rw [h9] at x_b72 x_l72 hB72 ⊢
                        have hs72 := hB72.size
                        clear hB63 hs63 h9 x_l63 z_l63 c_l63_0 c_l63_1 c_l63_2 f_l63_0 f_l63_1 f_l63_2 x_b63 z_b63 c_b63_0 c_b63_1 c_b63_2 c_b63_3 c_b63_4 c_b63_5 f_b63_0 f_b63_1 f_b63_2 f_b63_3 f_b63_4 f_b63_5 x_d63 z_d63 c_d63_0 c_d63_1 c_d63_2 c_d63_3 c_d63_4 c_d63_5 f_d63_0 f_d63_1 f_d63_2 f_d63_3 f_d63_4 f_d63_5
                        have z_l72 := x_l72.lt
                        have c_l72_0 := x_l72.c 0 _ rfl; have f_l72_0 := x_l72.f 0 _ rfl
                        have c_l72_1 := x_l72.c 1 _ rfl; have f_l72_1 := x_l72.f 1 _ rfl
                        have c_l72_2 := x_l72.c 2 _ rfl; have f_l72_2 := x_l72.f 2 _ rfl
                        have z_b72 := x_b72.lt
                        have c_b72_0 := x_b72.c 0 _ rfl; have f_b72_0 := x_b72.f 0 _ rfl
                        have c_b72_1 := x_b72.c 1 _ rfl; have f_b72_1 := x_b72.f 1 _ rfl
                        have c_b72_2 := x_b72.c 2 _ rfl; have f_b72_2 := x_b72.f 2 _ rfl
                        have c_b72_3 := x_b72.c 3 _ rfl; have f_b72_3 := x_b72.f 3 _ rfl
                        have c_b72_4 := x_b72.c 4 _ rfl; have f_b72_4 := x_b72.f 4 _ rfl
                        have c_b72_5 := x_b72.c 5 _ rfl; have f_b72_5 := x_b72.f 5 _ rfl
                        have c_co72 := cell_below hB72 C0
                        go_wp2_with fail
                        go_roundw
                        case rel => exact ⟨k + 1, ch + co, D, Q, t + tk, by go_num, by go_num, by omega, by omega, by omega, by omega, HB2, HV2, x_l72, x_b72, hB72⟩
                        case measure => simp [intOf]; omega
          case neg =>
            have q1 : 0 ≤ co := by omega
            have hlow : L < co := by omega
            have d5 : decide (L ≥ co) = false := decide_eq_false (by omega)
            have d6 : decide (co ≤ L) = false := decide_eq_false (by omega)
            have z_l50 := x_l50.lt
            have c_l50_0 := x_l50.c 0 _ rfl; have f_l50_0 := x_l50.f 0 _ rfl
            have c_l50_1 := x_l50.c 1 _ rfl; have f_l50_1 := x_l50.f 1 _ rfl
            have c_l50_2 := x_l50.c 2 _ rfl; have f_l50_2 := x_l50.f 2 _ rfl
            have z_b50 := x_b50.lt
            have c_b50_0 := x_b50.c 0 _ rfl; have f_b50_0 := x_b50.f 0 _ rfl
            have c_b50_1 := x_b50.c 1 _ rfl; have f_b50_1 := x_b50.f 1 _ rfl
            have c_b50_2 := x_b50.c 2 _ rfl; have f_b50_2 := x_b50.f 2 _ rfl
            have c_b50_3 := x_b50.c 3 _ rfl; have f_b50_3 := x_b50.f 3 _ rfl
            have c_b50_4 := x_b50.c 4 _ rfl; have f_b50_4 := x_b50.f 4 _ rfl
            have c_b50_5 := x_b50.c 5 _ rfl; have f_b50_5 := x_b50.f 5 _ rfl
            have c_t50 := cell_below hB50 T0
            have c_co50 := cell_below hB50 C0
            go_upto_region 10 with fail
            go_cut [59] (fun q0 wx => q0 = .bool false ∧ Box wx (w.heap.size) [.int .i64 bu, .int .i64 ra, .int .i64 pe] ∧ Box wx (w2.heap.size) [.int .i64 bu, .int .i64 ra, .int .i64 pe, .int .i64 lv, .int .i64 pv, .int .u64 t] ∧ Below w.heap.size w wx)
            case first =>
              as_aux_lemma =>
                go_region_held3 (fun w' => w'.cell? ⟨tb, toff + k, none⟩ = some (.int .u64 tk) ∧ w'.cell? ⟨w2.heap.size, 5, none⟩ = some (.int .u64 t)) (((repeat' apply And.intro) <;> (first | (go_keep; done) | go_cell)))
                  (fail)
                all_goals
                  go_wp2_with fail
                  go_meet
                  refine ⟨rfl, ?_, ?_, ?_⟩
                  all_goals first
                    | ((repeat (first | (with_reducible assumption) | (with_reducible refine Box.drew ?_) | (with_reducible refine Box.drewN ?_ _) | ((with_reducible refine Box.new ?_); simp; done) | (with_reducible apply Box.set2) | (with_reducible refine Box.alloc ?_ _) | (with_reducible refine Box.other ?_ (by first | (dsimp only; omega) | omega) _))); done)
                    | (go_grown; done)
            case rest =>
              as_aux_lemma =>
                obtain ⟨rfl, x_l51, x_b51, hB51⟩ := hcut
                obtain ⟨w51, rfl⟩ : ∃ u : World, u = wc := ⟨_, rfl⟩
                clear hB50 hs50 c_t50 c_co50 x_l50 z_l50 c_l50_0 c_l50_1 c_l50_2 f_l50_0 f_l50_1 f_l50_2 x_b50 z_b50 c_b50_0 c_b50_1 c_b50_2 c_b50_3 c_b50_4 c_b50_5 f_b50_0 f_b50_1 f_b50_2 f_b50_3 f_b50_4 f_b50_5
                have c_t51 := cell_below hB51 T0
                have c_co51 := cell_below hB51 C0
                have hs51 : w.heap.size ≤ w51.heap.size := hB51.size
                have z_l51 := x_l51.lt
                have c_l51_0 := x_l51.c 0 _ rfl; have f_l51_0 := x_l51.f 0 _ rfl
                have c_l51_1 := x_l51.c 1 _ rfl; have f_l51_1 := x_l51.f 1 _ rfl
                have c_l51_2 := x_l51.c 2 _ rfl; have f_l51_2 := x_l51.f 2 _ rfl
                have z_b51 := x_b51.lt
                have c_b51_0 := x_b51.c 0 _ rfl; have f_b51_0 := x_b51.f 0 _ rfl
                have c_b51_1 := x_b51.c 1 _ rfl; have f_b51_1 := x_b51.f 1 _ rfl
                have c_b51_2 := x_b51.c 2 _ rfl; have f_b51_2 := x_b51.f 2 _ rfl
                have c_b51_3 := x_b51.c 3 _ rfl; have f_b51_3 := x_b51.f 3 _ rfl
                have c_b51_4 := x_b51.c 4 _ rfl; have f_b51_4 := x_b51.f 4 _ rfl
                have c_b51_5 := x_b51.c 5 _ rfl; have f_b51_5 := x_b51.f 5 _ rfl
                go_upto_region 12 with fail
                go_cut [13, 14] (fun p q0 wx => ∃ b : Nat, p = .pointer (some ⟨b, 0, none⟩) ∧ q0 = .int .i64 0 ∧ Box wx b [.int .i64 bu, .int .i64 ra, .int .i64 pe, .int .i64 L, .int .i64 Q, .int .u64 (t + tk)] ∧ w51.heap.size ≤ b ∧ Box wx (w.heap.size) [.int .i64 bu, .int .i64 ra, .int .i64 pe] ∧ Box wx (w2.heap.size) [.int .i64 bu, .int .i64 ra, .int .i64 pe, .int .i64 lv, .int .i64 pv, .int .u64 t] ∧ Below w.heap.size w wx)
                case first =>
                  as_aux_lemma =>
                    go_region_held3 (fun w' => w'.cell? ⟨w2.heap.size, 0, none⟩ = some (.int .i64 bu) ∧ w'.cell? ⟨w2.heap.size, 1, none⟩ = some (.int .i64 ra) ∧ w'.cell? ⟨w2.heap.size, 2, none⟩ = some (.int .i64 pe) ∧ w'.cell? ⟨w2.heap.size, 3, none⟩ = some (.int .i64 lv) ∧ w'.cell? ⟨w2.heap.size, 4, none⟩ = some (.int .i64 pv) ∧ w'.cell? ⟨w2.heap.size, 5, none⟩ = some (.int .u64 t) ∧ w'.cell? ⟨tb, toff + k, none⟩ = some (.int .u64 tk)) (((repeat' apply And.intro) <;> (first | (go_keep; done) | go_cell)))
                      (first
                        | (go_at_call 15; refine (refill_ok HB1.out tt2 E1 E2 E3 _).mono ?_; rintro e v1 ⟨rfl, hv1⟩; have hV1 : Below w.heap.size w v1 := below_thru (by go_grown) hv1; have hs_v1 : w.heap.size ≤ v1.heap.size := hV1.size; have x_l_v1 : Box v1 (w.heap.size) [.int .i64 bu, .int .i64 ra, .int .i64 pe] := (by refine Box.below ?_ hv1; repeat (first | (with_reducible assumption) | (with_reducible refine Box.drew ?_) | (with_reducible refine Box.drewN ?_ _) | ((with_reducible refine Box.new ?_); simp; done) | (with_reducible apply Box.set2) | ((with_reducible apply Box.put); (with_reducible assumption); rfl) | (with_reducible refine Box.alloc ?_ _) | (with_reducible refine Box.other ?_ (by first | (dsimp only; omega) | omega) _))); have z_l_v1 := x_l_v1.lt; have c_l_v1_0 := x_l_v1.c 0 _ rfl; have f_l_v1_0 := x_l_v1.f 0 _ rfl; have c_l_v1_1 := x_l_v1.c 1 _ rfl; have f_l_v1_1 := x_l_v1.f 1 _ rfl; have c_l_v1_2 := x_l_v1.c 2 _ rfl; have f_l_v1_2 := x_l_v1.f 2 _ rfl; have x_b_v1 : Box v1 (w2.heap.size) [.int .i64 bu, .int .i64 ra, .int .i64 pe, .int .i64 lv, .int .i64 pv, .int .u64 t] := (by refine Box.below ?_ hv1; repeat (first | (with_reducible assumption) | (with_reducible refine Box.drew ?_) | (with_reducible refine Box.drewN ?_ _) | ((with_reducible refine Box.new ?_); simp; done) | (with_reducible apply Box.set2) | ((with_reducible apply Box.put); (with_reducible assumption); rfl) | (with_reducible refine Box.alloc ?_ _) | (with_reducible refine Box.other ?_ (by first | (dsimp only; omega) | omega) _))); have z_b_v1 := x_b_v1.lt; have c_b_v1_0 := x_b_v1.c 0 _ rfl; have f_b_v1_0 := x_b_v1.f 0 _ rfl; have c_b_v1_1 := x_b_v1.c 1 _ rfl; have f_b_v1_1 := x_b_v1.f 1 _ rfl; have c_b_v1_2 := x_b_v1.c 2 _ rfl; have f_b_v1_2 := x_b_v1.f 2 _ rfl; have c_b_v1_3 := x_b_v1.c 3 _ rfl; have f_b_v1_3 := x_b_v1.f 3 _ rfl; have c_b_v1_4 := x_b_v1.c 4 _ rfl; have f_b_v1_4 := x_b_v1.f 4 _ rfl; have c_b_v1_5 := x_b_v1.c 5 _ rfl; have f_b_v1_5 := x_b_v1.f 5 _ rfl; have c_t_v1 := cell_below hV1 T0; have c_co_v1 := cell_below hV1 C0; have t_v1 := hv1.size; try simp at t_v1; (first | (with_reducible have y := Box.below (Box.drew (Box.new rfl)) hv1) | (with_reducible have y := Box.below (Box.new rfl) hv1) | (with_reducible have y := Box.below y hv1) | (have y := trivial)); (try simp only [World.size_alloc] at y); try (have yz := Box.lt y; have y0 := Box.c y 0 _ rfl; have yf0 := Box.f y 0 _ rfl; have y1 := Box.c y 1 _ rfl; have yf1 := Box.f y 1 _ rfl; have y2 := Box.c y 2 _ rfl; have yf2 := Box.f y 2 _ rfl; have y3 := Box.c y 3 _ rfl; have yf3 := Box.f y 3 _ rfl; have y4 := Box.c y 4 _ rfl; have yf4 := Box.f y 4 _ rfl; have y5 := Box.c y 5 _ rfl; have yf5 := Box.f y 5 _ rfl)))
                    all_goals
                      go_wp2_with fail
                      go_meet
                      refine ⟨_, rfl, rfl, ?_, ?_, ?_, ?_, ?_⟩
                      all_goals first
                        | (first | (dsimp only; omega) | omega | (simp; omega))
                        | ((repeat (first | (with_reducible apply put6) | (with_reducible refine other6 ?_ (by first | (dsimp only; omega) | omega) _ _ _ _ _ _) | (with_reducible assumption) | (with_reducible refine Box.drew ?_) | (with_reducible refine Box.drewN ?_ _) | ((with_reducible refine Box.new ?_); simp; done) | (with_reducible apply Box.set2) | (with_reducible refine Box.alloc ?_ _) | (with_reducible refine Box.other ?_ (by first | (dsimp only; omega) | omega) _))); done)
                        | (go_grown; done)
                case rest =>
                  as_aux_lemma =>
                    obtain ⟨b52, rfl, rfl, x_c52, lo_c52, x_l52, x_b52, hB52⟩ := hcut
                    obtain ⟨w52, rfl⟩ : ∃ u : World, u = wc := ⟨_, rfl⟩
                    have o_c_l := Nat.lt_of_lt_of_le z_l51 lo_c52
                    have o_c_b := Nat.lt_of_lt_of_le z_b51 lo_c52
                    clear hB51 hs51 c_t51 c_co51 x_l51 z_l51 c_l51_0 c_l51_1 c_l51_2 f_l51_0 f_l51_1 f_l51_2 x_b51 z_b51 c_b51_0 c_b51_1 c_b51_2 c_b51_3 c_b51_4 c_b51_5 f_b51_0 f_b51_1 f_b51_2 f_b51_3 f_b51_4 f_b51_5
                    have c_t52 := cell_below hB52 T0
                    have c_co52 := cell_below hB52 C0
                    have hs52 : w.heap.size ≤ w52.heap.size := hB52.size
                    have z_l52 := x_l52.lt
                    have c_l52_0 := x_l52.c 0 _ rfl; have f_l52_0 := x_l52.f 0 _ rfl
                    have c_l52_1 := x_l52.c 1 _ rfl; have f_l52_1 := x_l52.f 1 _ rfl
                    have c_l52_2 := x_l52.c 2 _ rfl; have f_l52_2 := x_l52.f 2 _ rfl
                    have z_b52 := x_b52.lt
                    have c_b52_0 := x_b52.c 0 _ rfl; have f_b52_0 := x_b52.f 0 _ rfl
                    have c_b52_1 := x_b52.c 1 _ rfl; have f_b52_1 := x_b52.f 1 _ rfl
                    have c_b52_2 := x_b52.c 2 _ rfl; have f_b52_2 := x_b52.f 2 _ rfl
                    have c_b52_3 := x_b52.c 3 _ rfl; have f_b52_3 := x_b52.f 3 _ rfl
                    have c_b52_4 := x_b52.c 4 _ rfl; have f_b52_4 := x_b52.f 4 _ rfl
                    have c_b52_5 := x_b52.c 5 _ rfl; have f_b52_5 := x_b52.f 5 _ rfl
                    have z_c52 := x_c52.lt
                    have c_c52_0 := x_c52.c 0 _ rfl; have f_c52_0 := x_c52.f 0 _ rfl
                    have c_c52_1 := x_c52.c 1 _ rfl; have f_c52_1 := x_c52.f 1 _ rfl
                    have c_c52_2 := x_c52.c 2 _ rfl; have f_c52_2 := x_c52.f 2 _ rfl
                    have c_c52_3 := x_c52.c 3 _ rfl; have f_c52_3 := x_c52.f 3 _ rfl
                    have c_c52_4 := x_c52.c 4 _ rfl; have f_c52_4 := x_c52.f 4 _ rfl
                    have c_c52_5 := x_c52.c 5 _ rfl; have f_c52_5 := x_c52.f 5 _ rfl
                    go_upto_region 16 with fail
                    have x_b62 := put6 x_b52 (.int .i64 bu) (.int .i64 ra) (.int .i64 pe) (.int .i64 L) (.int .i64 Q) (.int .u64 (t + tk))
                    have x_l62 := other6 x_l52 (show w2.heap.size ≠ w.heap.size by omega) (.int .i64 bu) (.int .i64 ra) (.int .i64 pe) (.int .i64 L) (.int .i64 Q) (.int .u64 (t + tk))
                    have hB62 := below6b (show w.heap.size ≤ w2.heap.size by omega) hB52 (.int .i64 bu) (.int .i64 ra) (.int .i64 pe) (.int .i64 L) (.int .i64 Q) (.int .u64 (t + tk))
                    obtain ⟨w62, h9⟩ : ∃ W, ((((((w52.setCell ⟨w2.heap.size, 0, none⟩ (.int .i64 bu)).setCell ⟨w2.heap.size, 1, none⟩ (.int .i64 ra)).setCell ⟨w2.heap.size, 2, none⟩ (.int .i64 pe)).setCell ⟨w2.heap.size, 3, none⟩ (.int .i64 L)).setCell ⟨w2.heap.size, 4, none⟩ (.int .i64 Q)).setCell ⟨w2.heap.size, 5, none⟩ (.int .u64 (t + tk))) = W := ⟨_, rfl⟩
                    rw [h9] at x_b62 x_l62 hB62 ⊢
                    have hs62 := hB62.size
                    clear hB52 hs52 h9 x_l52 z_l52 c_l52_0 c_l52_1 c_l52_2 f_l52_0 f_l52_1 f_l52_2 x_b52 z_b52 c_b52_0 c_b52_1 c_b52_2 c_b52_3 c_b52_4 c_b52_5 f_b52_0 f_b52_1 f_b52_2 f_b52_3 f_b52_4 f_b52_5 x_c52 z_c52 c_c52_0 c_c52_1 c_c52_2 c_c52_3 c_c52_4 c_c52_5 f_c52_0 f_c52_1 f_c52_2 f_c52_3 f_c52_4 f_c52_5
                    have z_l62 := x_l62.lt
                    have c_l62_0 := x_l62.c 0 _ rfl; have f_l62_0 := x_l62.f 0 _ rfl
                    have c_l62_1 := x_l62.c 1 _ rfl; have f_l62_1 := x_l62.f 1 _ rfl
                    have c_l62_2 := x_l62.c 2 _ rfl; have f_l62_2 := x_l62.f 2 _ rfl
                    have z_b62 := x_b62.lt
                    have c_b62_0 := x_b62.c 0 _ rfl; have f_b62_0 := x_b62.f 0 _ rfl
                    have c_b62_1 := x_b62.c 1 _ rfl; have f_b62_1 := x_b62.f 1 _ rfl
                    have c_b62_2 := x_b62.c 2 _ rfl; have f_b62_2 := x_b62.f 2 _ rfl
                    have c_b62_3 := x_b62.c 3 _ rfl; have f_b62_3 := x_b62.f 3 _ rfl
                    have c_b62_4 := x_b62.c 4 _ rfl; have f_b62_4 := x_b62.f 4 _ rfl
                    have c_b62_5 := x_b62.c 5 _ rfl; have f_b62_5 := x_b62.f 5 _ rfl
                    have c_co62 := cell_below hB62 C0
                    have c_t62 := cell_below hB62 T0
                    go_upto_region 16 with fail
                    go_cut [15, 16] (fun p q0 wx => ∃ b : Nat, p = .pointer (some ⟨b, 0, none⟩) ∧ q0 = .int .i64 20 ∧ Box wx b [.int .i64 0, .int .i64 0, .int .i64 0, .int .i64 0, .int .i64 0, .int .u64 0] ∧ w62.heap.size ≤ b ∧ Box wx (w.heap.size) [.int .i64 bu, .int .i64 ra, .int .i64 pe] ∧ Box wx (w2.heap.size) [.int .i64 bu, .int .i64 ra, .int .i64 pe, .int .i64 L, .int .i64 Q, .int .u64 (t + tk)] ∧ Below w.heap.size w wx)
                    case first =>
                      as_aux_lemma =>
                        go_region_held3 (fun w' => w'.cell? ⟨w2.heap.size, 0, none⟩ = some (.int .i64 bu) ∧ w'.cell? ⟨w2.heap.size, 1, none⟩ = some (.int .i64 ra) ∧ w'.cell? ⟨w2.heap.size, 2, none⟩ = some (.int .i64 pe) ∧ w'.cell? ⟨w2.heap.size, 3, none⟩ = some (.int .i64 L) ∧ w'.cell? ⟨w2.heap.size, 4, none⟩ = some (.int .i64 Q) ∧ w'.cell? ⟨w2.heap.size, 5, none⟩ = some (.int .u64 (t + tk)) ∧ w'.cell? ⟨cb, coff + k, none⟩ = some (.int .i64 co)) (((repeat' apply And.intro) <;> (first | (go_keep; done) | go_cell)))
                          (first
                            | (go_at_call 16; refine (charge_low K1 q1 hlow _).mono ?_; rintro e v1 ⟨rfl, hv1⟩; have hV1 : Below w.heap.size w v1 := below_thru (by go_grown) hv1; have hs_v1 : w.heap.size ≤ v1.heap.size := hV1.size; have x_l_v1 : Box v1 (w.heap.size) [.int .i64 bu, .int .i64 ra, .int .i64 pe] := (by refine Box.below ?_ hv1; repeat (first | (with_reducible assumption) | (with_reducible refine Box.drew ?_) | (with_reducible refine Box.drewN ?_ _) | ((with_reducible refine Box.new ?_); simp; done) | (with_reducible apply Box.set2) | ((with_reducible apply Box.put); (with_reducible assumption); rfl) | (with_reducible refine Box.alloc ?_ _) | (with_reducible refine Box.other ?_ (by first | (dsimp only; omega) | omega) _))); have z_l_v1 := x_l_v1.lt; have c_l_v1_0 := x_l_v1.c 0 _ rfl; have f_l_v1_0 := x_l_v1.f 0 _ rfl; have c_l_v1_1 := x_l_v1.c 1 _ rfl; have f_l_v1_1 := x_l_v1.f 1 _ rfl; have c_l_v1_2 := x_l_v1.c 2 _ rfl; have f_l_v1_2 := x_l_v1.f 2 _ rfl; have x_b_v1 : Box v1 (w2.heap.size) [.int .i64 bu, .int .i64 ra, .int .i64 pe, .int .i64 L, .int .i64 Q, .int .u64 (t + tk)] := (by refine Box.below ?_ hv1; repeat (first | (with_reducible assumption) | (with_reducible refine Box.drew ?_) | (with_reducible refine Box.drewN ?_ _) | ((with_reducible refine Box.new ?_); simp; done) | (with_reducible apply Box.set2) | ((with_reducible apply Box.put); (with_reducible assumption); rfl) | (with_reducible refine Box.alloc ?_ _) | (with_reducible refine Box.other ?_ (by first | (dsimp only; omega) | omega) _))); have z_b_v1 := x_b_v1.lt; have c_b_v1_0 := x_b_v1.c 0 _ rfl; have f_b_v1_0 := x_b_v1.f 0 _ rfl; have c_b_v1_1 := x_b_v1.c 1 _ rfl; have f_b_v1_1 := x_b_v1.f 1 _ rfl; have c_b_v1_2 := x_b_v1.c 2 _ rfl; have f_b_v1_2 := x_b_v1.f 2 _ rfl; have c_b_v1_3 := x_b_v1.c 3 _ rfl; have f_b_v1_3 := x_b_v1.f 3 _ rfl; have c_b_v1_4 := x_b_v1.c 4 _ rfl; have f_b_v1_4 := x_b_v1.f 4 _ rfl; have c_b_v1_5 := x_b_v1.c 5 _ rfl; have f_b_v1_5 := x_b_v1.f 5 _ rfl; have c_t_v1 := cell_below hV1 T0; have c_co_v1 := cell_below hV1 C0; have t_v1 := hv1.size; try simp at t_v1; (first | (with_reducible have y := Box.below (Box.drew (Box.new rfl)) hv1) | (with_reducible have y := Box.below (Box.new rfl) hv1) | (with_reducible have y := Box.below y hv1) | (have y := trivial)); (try simp only [World.size_alloc] at y); try (have yz := Box.lt y; have y0 := Box.c y 0 _ rfl; have yf0 := Box.f y 0 _ rfl; have y1 := Box.c y 1 _ rfl; have yf1 := Box.f y 1 _ rfl; have y2 := Box.c y 2 _ rfl; have yf2 := Box.f y 2 _ rfl; have y3 := Box.c y 3 _ rfl; have yf3 := Box.f y 3 _ rfl; have y4 := Box.c y 4 _ rfl; have yf4 := Box.f y 4 _ rfl; have y5 := Box.c y 5 _ rfl; have yf5 := Box.f y 5 _ rfl)))
                        all_goals
                          go_wp2_with fail
                          go_meet
                          refine ⟨_, rfl, rfl, ?_, ?_, ?_, ?_, ?_⟩
                          all_goals first
                            | (first | (dsimp only; omega) | omega | (simp; omega))
                            | ((repeat (first | (with_reducible apply put6) | (with_reducible refine other6 ?_ (by first | (dsimp only; omega) | omega) _ _ _ _ _ _) | (with_reducible assumption) | (with_reducible refine Box.drew ?_) | (with_reducible refine Box.drewN ?_ _) | ((with_reducible refine Box.new ?_); simp; done) | (with_reducible apply Box.set2) | (with_reducible refine Box.alloc ?_ _) | (with_reducible refine Box.other ?_ (by first | (dsimp only; omega) | omega) _))); done)
                            | (go_grown; done)
                    case rest =>
                      as_aux_lemma =>
                        obtain ⟨b63, rfl, rfl, x_d63, lo_d63, x_l63, x_b63, hB63⟩ := hcut
                        obtain ⟨w63, rfl⟩ : ∃ u : World, u = wc := ⟨_, rfl⟩
                        have o_d_l := Nat.lt_of_lt_of_le z_l62 lo_d63
                        have o_d_b := Nat.lt_of_lt_of_le z_b62 lo_d63
                        clear hB62 hs62 c_t62 c_co62 x_l62 z_l62 c_l62_0 c_l62_1 c_l62_2 f_l62_0 f_l62_1 f_l62_2 x_b62 z_b62 c_b62_0 c_b62_1 c_b62_2 c_b62_3 c_b62_4 c_b62_5 f_b62_0 f_b62_1 f_b62_2 f_b62_3 f_b62_4 f_b62_5
                        have c_t63 := cell_below hB63 T0
                        have c_co63 := cell_below hB63 C0
                        have hs63 : w.heap.size ≤ w63.heap.size := hB63.size
                        have z_l63 := x_l63.lt
                        have c_l63_0 := x_l63.c 0 _ rfl; have f_l63_0 := x_l63.f 0 _ rfl
                        have c_l63_1 := x_l63.c 1 _ rfl; have f_l63_1 := x_l63.f 1 _ rfl
                        have c_l63_2 := x_l63.c 2 _ rfl; have f_l63_2 := x_l63.f 2 _ rfl
                        have z_b63 := x_b63.lt
                        have c_b63_0 := x_b63.c 0 _ rfl; have f_b63_0 := x_b63.f 0 _ rfl
                        have c_b63_1 := x_b63.c 1 _ rfl; have f_b63_1 := x_b63.f 1 _ rfl
                        have c_b63_2 := x_b63.c 2 _ rfl; have f_b63_2 := x_b63.f 2 _ rfl
                        have c_b63_3 := x_b63.c 3 _ rfl; have f_b63_3 := x_b63.f 3 _ rfl
                        have c_b63_4 := x_b63.c 4 _ rfl; have f_b63_4 := x_b63.f 4 _ rfl
                        have c_b63_5 := x_b63.c 5 _ rfl; have f_b63_5 := x_b63.f 5 _ rfl
                        have z_d63 := x_d63.lt
                        have c_d63_0 := x_d63.c 0 _ rfl; have f_d63_0 := x_d63.f 0 _ rfl
                        have c_d63_1 := x_d63.c 1 _ rfl; have f_d63_1 := x_d63.f 1 _ rfl
                        have c_d63_2 := x_d63.c 2 _ rfl; have f_d63_2 := x_d63.f 2 _ rfl
                        have c_d63_3 := x_d63.c 3 _ rfl; have f_d63_3 := x_d63.f 3 _ rfl
                        have c_d63_4 := x_d63.c 4 _ rfl; have f_d63_4 := x_d63.f 4 _ rfl
                        have c_d63_5 := x_d63.c 5 _ rfl; have f_d63_5 := x_d63.f 5 _ rfl
                        clear x_d63 z_d63 c_d63_0 c_d63_1 c_d63_2 c_d63_3 c_d63_4 c_d63_5 f_d63_0 f_d63_1 f_d63_2 f_d63_3 f_d63_4 f_d63_5
                        go_upto_region 20 with fail
                        go_cut [117] (fun q0 wx => q0 = .bool false ∧ Box wx (w.heap.size) [.int .i64 bu, .int .i64 ra, .int .i64 pe] ∧ Box wx (w2.heap.size) [.int .i64 bu, .int .i64 ra, .int .i64 pe, .int .i64 L, .int .i64 Q, .int .u64 (t + tk)] ∧ Below w.heap.size w wx)
                        case first =>
                          as_aux_lemma =>
                            go_region_held3 (fun w' => w'.cell? ⟨w2.heap.size, 3, none⟩ = some (.int .i64 L) ∧ w'.cell? ⟨cb, coff + k, none⟩ = some (.int .i64 co)) (((repeat' apply And.intro) <;> (first | (go_keep; done) | go_cell)))
                              (fail)
                            all_goals
                              go_wp2_with fail
                              go_meet
                              refine ⟨rfl, ?_, ?_, ?_⟩
                              all_goals first
                                | ((repeat (first | (with_reducible assumption) | (with_reducible refine Box.drew ?_) | (with_reducible refine Box.drewN ?_ _) | ((with_reducible refine Box.new ?_); simp; done) | (with_reducible apply Box.set2) | (with_reducible refine Box.alloc ?_ _) | (with_reducible refine Box.other ?_ (by first | (dsimp only; omega) | omega) _))); done)
                                | (go_grown; done)
                        case rest =>
                          as_aux_lemma =>
                            obtain ⟨rfl, x_l64, x_b64, hB64⟩ := hcut
                            obtain ⟨w64, rfl⟩ : ∃ u : World, u = wc := ⟨_, rfl⟩
                            clear hB63 hs63 c_t63 c_co63 x_l63 z_l63 c_l63_0 c_l63_1 c_l63_2 f_l63_0 f_l63_1 f_l63_2 x_b63 z_b63 c_b63_0 c_b63_1 c_b63_2 c_b63_3 c_b63_4 c_b63_5 f_b63_0 f_b63_1 f_b63_2 f_b63_3 f_b63_4 f_b63_5
                            have c_t64 := cell_below hB64 T0
                            have c_co64 := cell_below hB64 C0
                            have hs64 : w.heap.size ≤ w64.heap.size := hB64.size
                            have z_l64 := x_l64.lt
                            have c_l64_0 := x_l64.c 0 _ rfl; have f_l64_0 := x_l64.f 0 _ rfl
                            have c_l64_1 := x_l64.c 1 _ rfl; have f_l64_1 := x_l64.f 1 _ rfl
                            have c_l64_2 := x_l64.c 2 _ rfl; have f_l64_2 := x_l64.f 2 _ rfl
                            have z_b64 := x_b64.lt
                            have c_b64_0 := x_b64.c 0 _ rfl; have f_b64_0 := x_b64.f 0 _ rfl
                            have c_b64_1 := x_b64.c 1 _ rfl; have f_b64_1 := x_b64.f 1 _ rfl
                            have c_b64_2 := x_b64.c 2 _ rfl; have f_b64_2 := x_b64.f 2 _ rfl
                            have c_b64_3 := x_b64.c 3 _ rfl; have f_b64_3 := x_b64.f 3 _ rfl
                            have c_b64_4 := x_b64.c 4 _ rfl; have f_b64_4 := x_b64.f 4 _ rfl
                            have c_b64_5 := x_b64.c 5 _ rfl; have f_b64_5 := x_b64.f 5 _ rfl
                            go_wp2_with fail
                            go_roundw
                            case rel => exact ⟨k + 1, ch, L, Q, t + tk, rfl, by go_num, by omega, by omega, by omega, by omega, BF, VF, x_l64, x_b64, hB64⟩
                            case measure => simp [intOf]; omega

end Go.Proofs.Ytikhdfmdbpcajaa
