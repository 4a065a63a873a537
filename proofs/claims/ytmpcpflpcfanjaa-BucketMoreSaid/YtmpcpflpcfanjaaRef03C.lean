/-
  The reference of layer 3, walked: refilling.
-/
import Derived.Test.YtmpcpflpcfanjaaRef03B
import Derived.IntWalk
namespace Go.Proofs.Ytmpcpflpcfanjaa
open Go.RowKit

theorem limE_zero {b r p : Int} (h : limE b r p = 0) : 1 ≤ b ∧ b ≤ 1000000000 ∧ 0 ≤ r ∧ r ≤ 1000000000 ∧ 1 ≤ p ∧ p ≤ 1000000000 := by
  unfold limE at h
  split at h
  · assumption
  · cases h
theorem fil_range {r a t q : Int} (h0 : 0 ≤ r) (h1 : r ≤ 1000000000) (ha : isU a) (ht : isU t) (hat : a ≤ t) (hq : 0 ≤ q) (hq1 : q ≤ 1000000000) : 0 ≤ (t - a) * r ∧ (t - a) * r ≤ 18446744073709551615000000000 := by
  have _ := hq
  have _ := hq1
  unfold isU at ha ht
  refine ⟨Int.mul_nonneg (by omega) h0, ?_⟩
  have h2 := Int.mul_le_mul_of_nonneg_left h1 (show 0 ≤ t - a by omega)
  have h3 : (t - a) * 1000000000 ≤ 18446744073709551615 * 1000000000 := Int.mul_le_mul_of_nonneg_right (by omega) (by omega)
  omega
theorem rdiv_nm {ah al d n h l m : Int} (w : World) (h1 : isU ah) (h2 : isU al) (h3 : isU d) (hd : d ≠ 0) (en : Hid (wN ah al = n)) (e1 : Hid (wHi (n / d) = h)) (e2 : Hid (wLo (n / d) = l)) (e3 : Hid (n % d = m)) :
    Calls Try.prog 94 #[.agg #[.int .u64 ah, .int .u64 al], .int .u64 d] w fun e w' =>
      e = .returned (.tuple #[.agg #[.int .u64 h, .int .u64 l], .int .u64 m, .int .i64 0]) ∧ Below w.heap.size w w' := by
  rw [← e1.out, ← e2.out, ← e3.out]
  exact rdiv_ok w h1 h2 h3 hd n en
theorem Box.put {w : World} {b i : Nat} {vs us : List Value} {x : Value} (h : Box w b vs) (e : vs.set i x = us) : Box (w.setCell ⟨b, i, none⟩ x) b us := by
  rw [← e]
  exact h.set i x
theorem isU_of {n x : Int} (h : Hid (wLo n = x)) : isU x := by
  rw [← h.out]
  exact isU_lo _

set_option maxRecDepth 100000 in
set_option maxHeartbeats 3200000 in
theorem rfilled_before {bu ra pe le pt a t : Int} (hat : t < a) (w : World) :
    Calls Try.prog 83 #[.agg #[.int .i64 bu, .int .i64 ra, .int .i64 pe, .int .i64 le, .int .i64 pt, .int .u64 a], .int .u64 t] w fun e w' => e = .returned (.agg #[.int .i64 bu, .int .i64 ra, .int .i64 pe, .int .i64 le, .int .i64 pt, .int .u64 a]) ∧ Below w.heap.size w w' := by
  have d1 : decide (t < a) = true := decide_eq_true hat
  go_enter Try.func83, Try.ntmps83
  go_wp2_with fail
  refine bodyPost_ret (v := .agg #[.int .i64 bu, .int .i64 ra, .int .i64 pe, .int .i64 le, .int .i64 pt, .int .u64 a]) (by simp [results, Try.results83, go_sem]) rfl ⟨rfl, ?_⟩
  go_grown

set_option maxRecDepth 100000 in
set_option maxHeartbeats 3200000 in
theorem rfilled_full {bu ra pe le pt a t : Int} (hv : limE bu ra pe = 0) (hl0 : 0 ≤ le) (hl1 : le ≤ bu) (hq0 : 0 ≤ pt) (hq1 : pt < pe) (ta : isU a) (tt : isU t) (hat : a ≤ t) (hf : bu - le ≤ ((t - a) * ra + pt) / pe) (w : World) :
    Calls Try.prog 83 #[.agg #[.int .i64 bu, .int .i64 ra, .int .i64 pe, .int .i64 le, .int .i64 pt, .int .u64 a], .int .u64 t] w fun e w' => e = .returned (.agg #[.int .i64 bu, .int .i64 ra, .int .i64 pe, .int .i64 bu, .int .i64 0, .int .u64 t]) ∧ Below w.heap.size w w' := by
  obtain ⟨z1, z2, z3, z4, z5, z6⟩ := limE_zero hv
  obtain ⟨g0, g1⟩ := fil_range z3 z4 ta tt hat hq0 (by omega)
  have d1 : decide (t < a) = false := decide_eq_false (by omega)
  obtain ⟨mh, e1⟩ : ∃ x, wHi ((t - a) * ra) = x := ⟨_, rfl⟩
  obtain ⟨ml, e2⟩ : ∃ x, wLo ((t - a) * ra) = x := ⟨_, rfl⟩
  obtain ⟨nh, e3⟩ : ∃ x, wHi ((t - a) * ra + pt) = x := ⟨_, rfl⟩
  obtain ⟨nl, e4⟩ : ∃ x, wLo ((t - a) * ra + pt) = x := ⟨_, rfl⟩
  obtain ⟨qh, e5⟩ : ∃ x, wHi (((t - a) * ra + pt) / pe) = x := ⟨_, rfl⟩
  obtain ⟨ql, e6⟩ : ∃ x, wLo (((t - a) * ra + pt) / pe) = x := ⟨_, rfl⟩
  obtain ⟨m, e7⟩ : ∃ x, ((t - a) * ra + pt) % pe = x := ⟨_, rfl⟩
  have k1 : isU (t - a) := by unfold isU at *; omega
  have k2 : isU ra := by unfold isU; omega
  have k3 : isU pt := by unfold isU; omega
  have k4 : isU pe := by unfold isU; omega
  have m1 : isU mh := by rw [← e1]; exact isU_hi (by unfold isW; omega)
  have m2 : isU ml := by rw [← e2]; exact isU_lo _
  have m3 : isU nh := by rw [← e3]; exact isU_hi (by unfold isW; omega)
  have m4 : isU nl := by rw [← e4]; exact isU_lo _
  have E1 := Lib.hid (show (t - a) * ra = wN mh ml by rw [← e1, ← e2, wN_parts])
  have E2 := Lib.hid (show wN mh ml + wN 0 pt = wN nh nl by rw [← e1, ← e2, ← e3, ← e4, wN_parts, wN_parts]; unfold wN; omega)
  have E3 := Lib.hid (show wN nh nl = (t - a) * ra + pt by rw [← e3, ← e4, wN_parts])
  have E4 := Lib.hid e5
  have E5 := Lib.hid e6
  have E6 := Lib.hid e7
  have u1 : IntKind.u64.wrap (t - a) = t - a := IntWalk.u64_in _ (by unfold isU at k1; omega)
  have u2 : IntKind.u64.wrap ra = ra := IntWalk.u64_in _ (by omega)
  have u3 : IntKind.u64.wrap pt = pt := IntWalk.u64_in _ (by omega)
  have u4 : IntKind.u64.wrap (bu - le) = bu - le := IntWalk.u64_in _ (by omega)
  have k5 : isU (bu - le) := by unfold isU; omega
  obtain ⟨cc, e8⟩ : ∃ x, cmpI (wN qh ql) (wN 0 (bu - le)) = x := ⟨_, rfl⟩
  have E7 := Lib.hid e8
  rw [← e5, ← e6, wN_parts] at e8
  have hw : wN 0 (bu - le) = bu - le := by unfold wN; omega
  rw [hw] at e8
  have d2 : decide (0 ≤ cc) = true := decide_eq_true (by rw [← e8]; unfold cmpI; split <;> (try split) <;> omega)
  clear e1 e2 e3 e4 e5 e6 e7 e8 hw hf
  go_enter Try.func83, Try.ntmps83
  go_upto_region 3 with fail
  go_cut [5, 6] (fun p q0 wx => ∃ b : Nat, p = .pointer (some ⟨b, 0, none⟩) ∧ q0 = .int .i64 0 ∧ Box wx b [.int .u64 nh, .int .u64 nl] ∧ Box wx (w.heap.size) [.int .i64 bu, .int .i64 ra, .int .i64 pe, .int .i64 le, .int .i64 pt, .int .u64 a] ∧ Box wx (w.heap.size + 1) [.int .i64 0, .int .i64 0, .int .i64 0, .int .i64 0, .int .i64 0, .int .u64 0] ∧ Below w.heap.size w wx)
  case first =>
    go_region_held3 (fun w' => w'.cell? ⟨w.heap.size, 5, none⟩ = some (.int .u64 a) ∧ w'.cell? ⟨w.heap.size, 1, none⟩ = some (.int .i64 ra) ∧ w'.cell? ⟨w.heap.size, 4, none⟩ = some (.int .i64 pt)) (((repeat' apply And.intro) <;> (first | (go_keep; done) | go_cell)))
      (first
        | (go_at_call 93; refine (rmul_ok (h := mh) (l := ml) _ k1 k2 m1 m2 E1.out).mono ?_; rintro e v1 ⟨rfl, hv1⟩; have hV1 : Below w.heap.size w v1 := below_thru (by go_grown) hv1; have hs_v1 : w.heap.size ≤ v1.heap.size := hV1.size; have x_x_v1 : Box v1 (w.heap.size) [.int .i64 bu, .int .i64 ra, .int .i64 pe, .int .i64 le, .int .i64 pt, .int .u64 a] := (by refine Box.below ?_ hv1; repeat (first | (with_reducible assumption) | (with_reducible refine Box.drew ?_) | (with_reducible refine Box.drewN ?_ _) | ((with_reducible refine Box.new ?_); simp; done) | (with_reducible apply Box.set2) | ((with_reducible apply Box.put); (with_reducible assumption); rfl) | (with_reducible refine Box.alloc ?_ _) | (with_reducible refine Box.other ?_ (by first | (dsimp only; omega) | omega) _))); have z_x_v1 := x_x_v1.lt; have c_x_v1_0 := x_x_v1.c 0 _ rfl; have f_x_v1_0 := x_x_v1.f 0 _ rfl; have c_x_v1_1 := x_x_v1.c 1 _ rfl; have f_x_v1_1 := x_x_v1.f 1 _ rfl; have c_x_v1_2 := x_x_v1.c 2 _ rfl; have f_x_v1_2 := x_x_v1.f 2 _ rfl; have c_x_v1_3 := x_x_v1.c 3 _ rfl; have f_x_v1_3 := x_x_v1.f 3 _ rfl; have c_x_v1_4 := x_x_v1.c 4 _ rfl; have f_x_v1_4 := x_x_v1.f 4 _ rfl; have c_x_v1_5 := x_x_v1.c 5 _ rfl; have f_x_v1_5 := x_x_v1.f 5 _ rfl; have x_z_v1 : Box v1 (w.heap.size + 1) [.int .i64 0, .int .i64 0, .int .i64 0, .int .i64 0, .int .i64 0, .int .u64 0] := (by refine Box.below ?_ hv1; repeat (first | (with_reducible assumption) | (with_reducible refine Box.drew ?_) | (with_reducible refine Box.drewN ?_ _) | ((with_reducible refine Box.new ?_); simp; done) | (with_reducible apply Box.set2) | ((with_reducible apply Box.put); (with_reducible assumption); rfl) | (with_reducible refine Box.alloc ?_ _) | (with_reducible refine Box.other ?_ (by first | (dsimp only; omega) | omega) _))); have z_z_v1 := x_z_v1.lt; have c_z_v1_0 := x_z_v1.c 0 _ rfl; have f_z_v1_0 := x_z_v1.f 0 _ rfl; have c_z_v1_1 := x_z_v1.c 1 _ rfl; have f_z_v1_1 := x_z_v1.f 1 _ rfl; have c_z_v1_2 := x_z_v1.c 2 _ rfl; have f_z_v1_2 := x_z_v1.f 2 _ rfl; have c_z_v1_3 := x_z_v1.c 3 _ rfl; have f_z_v1_3 := x_z_v1.f 3 _ rfl; have c_z_v1_4 := x_z_v1.c 4 _ rfl; have f_z_v1_4 := x_z_v1.f 4 _ rfl; have c_z_v1_5 := x_z_v1.c 5 _ rfl; have f_z_v1_5 := x_z_v1.f 5 _ rfl; (first | (with_reducible have y := Box.below (Box.drew (Box.new rfl)) hv1) | (with_reducible have y := Box.below (Box.new rfl) hv1) | (with_reducible have y := Box.below y hv1) | (have y := trivial)); (try simp only [World.size_alloc] at y); try (have yz := Box.lt y; have y0 := Box.c y 0 _ rfl; have yf0 := Box.f y 0 _ rfl; have y1 := Box.c y 1 _ rfl; have yf1 := Box.f y 1 _ rfl))
        | (go_at_call 92; refine (radd_ok (h := nh) (l := nl) _ m1 m2 u0 k3 m3 m4 E2.out).mono ?_; rintro e v2 ⟨rfl, hv2⟩; have hV2 : Below w.heap.size w v2 := below_thru (by go_grown) hv2; have hs_v2 : w.heap.size ≤ v2.heap.size := hV2.size; have x_x_v2 : Box v2 (w.heap.size) [.int .i64 bu, .int .i64 ra, .int .i64 pe, .int .i64 le, .int .i64 pt, .int .u64 a] := (by refine Box.below ?_ hv2; repeat (first | (with_reducible assumption) | (with_reducible refine Box.drew ?_) | (with_reducible refine Box.drewN ?_ _) | ((with_reducible refine Box.new ?_); simp; done) | (with_reducible apply Box.set2) | ((with_reducible apply Box.put); (with_reducible assumption); rfl) | (with_reducible refine Box.alloc ?_ _) | (with_reducible refine Box.other ?_ (by first | (dsimp only; omega) | omega) _))); have z_x_v2 := x_x_v2.lt; have c_x_v2_0 := x_x_v2.c 0 _ rfl; have f_x_v2_0 := x_x_v2.f 0 _ rfl; have c_x_v2_1 := x_x_v2.c 1 _ rfl; have f_x_v2_1 := x_x_v2.f 1 _ rfl; have c_x_v2_2 := x_x_v2.c 2 _ rfl; have f_x_v2_2 := x_x_v2.f 2 _ rfl; have c_x_v2_3 := x_x_v2.c 3 _ rfl; have f_x_v2_3 := x_x_v2.f 3 _ rfl; have c_x_v2_4 := x_x_v2.c 4 _ rfl; have f_x_v2_4 := x_x_v2.f 4 _ rfl; have c_x_v2_5 := x_x_v2.c 5 _ rfl; have f_x_v2_5 := x_x_v2.f 5 _ rfl; have x_z_v2 : Box v2 (w.heap.size + 1) [.int .i64 0, .int .i64 0, .int .i64 0, .int .i64 0, .int .i64 0, .int .u64 0] := (by refine Box.below ?_ hv2; repeat (first | (with_reducible assumption) | (with_reducible refine Box.drew ?_) | (with_reducible refine Box.drewN ?_ _) | ((with_reducible refine Box.new ?_); simp; done) | (with_reducible apply Box.set2) | ((with_reducible apply Box.put); (with_reducible assumption); rfl) | (with_reducible refine Box.alloc ?_ _) | (with_reducible refine Box.other ?_ (by first | (dsimp only; omega) | omega) _))); have z_z_v2 := x_z_v2.lt; have c_z_v2_0 := x_z_v2.c 0 _ rfl; have f_z_v2_0 := x_z_v2.f 0 _ rfl; have c_z_v2_1 := x_z_v2.c 1 _ rfl; have f_z_v2_1 := x_z_v2.f 1 _ rfl; have c_z_v2_2 := x_z_v2.c 2 _ rfl; have f_z_v2_2 := x_z_v2.f 2 _ rfl; have c_z_v2_3 := x_z_v2.c 3 _ rfl; have f_z_v2_3 := x_z_v2.f 3 _ rfl; have c_z_v2_4 := x_z_v2.c 4 _ rfl; have f_z_v2_4 := x_z_v2.f 4 _ rfl; have c_z_v2_5 := x_z_v2.c 5 _ rfl; have f_z_v2_5 := x_z_v2.f 5 _ rfl; (first | (with_reducible have y := Box.below (Box.drew (Box.new rfl)) hv2) | (with_reducible have y := Box.below (Box.new rfl) hv2) | (with_reducible have y := Box.below y hv2) | (have y := trivial)); (try simp only [World.size_alloc] at y); try (have yz := Box.lt y; have y0 := Box.c y 0 _ rfl; have yf0 := Box.f y 0 _ rfl; have y1 := Box.c y 1 _ rfl; have yf1 := Box.f y 1 _ rfl)))
    all_goals
      go_wp2_with fail
      go_meet
      refine ⟨_, rfl, rfl, ?_, ?_, ?_, ?_⟩
      all_goals first
        | ((repeat (first | (with_reducible assumption) | (with_reducible refine Box.drew ?_) | (with_reducible refine Box.drewN ?_ _) | ((with_reducible refine Box.new ?_); simp; done) | (with_reducible apply Box.set2) | (with_reducible refine Box.alloc ?_ _) | (with_reducible refine Box.other ?_ (by first | (dsimp only; omega) | omega) _))); done)
        | (go_grown; done)
  case rest =>
    obtain ⟨b1, rfl, rfl, x_n1, x_x1, x_z1, hB1⟩ := hcut
    obtain ⟨w1, rfl⟩ : ∃ u : World, u = wc := ⟨_, rfl⟩
    have hs1 : w.heap.size ≤ w1.heap.size := hB1.size
    have z_x1 := x_x1.lt
    have c_x1_0 := x_x1.c 0 _ rfl; have f_x1_0 := x_x1.f 0 _ rfl
    have c_x1_1 := x_x1.c 1 _ rfl; have f_x1_1 := x_x1.f 1 _ rfl
    have c_x1_2 := x_x1.c 2 _ rfl; have f_x1_2 := x_x1.f 2 _ rfl
    have c_x1_3 := x_x1.c 3 _ rfl; have f_x1_3 := x_x1.f 3 _ rfl
    have c_x1_4 := x_x1.c 4 _ rfl; have f_x1_4 := x_x1.f 4 _ rfl
    have c_x1_5 := x_x1.c 5 _ rfl; have f_x1_5 := x_x1.f 5 _ rfl
    have z_z1 := x_z1.lt
    have c_z1_0 := x_z1.c 0 _ rfl; have f_z1_0 := x_z1.f 0 _ rfl
    have c_z1_1 := x_z1.c 1 _ rfl; have f_z1_1 := x_z1.f 1 _ rfl
    have c_z1_2 := x_z1.c 2 _ rfl; have f_z1_2 := x_z1.f 2 _ rfl
    have c_z1_3 := x_z1.c 3 _ rfl; have f_z1_3 := x_z1.f 3 _ rfl
    have c_z1_4 := x_z1.c 4 _ rfl; have f_z1_4 := x_z1.f 4 _ rfl
    have c_z1_5 := x_z1.c 5 _ rfl; have f_z1_5 := x_z1.f 5 _ rfl
    have z_n1 := x_n1.lt
    have c_n1_0 := x_n1.c 0 _ rfl; have f_n1_0 := x_n1.f 0 _ rfl
    have c_n1_1 := x_n1.c 1 _ rfl; have f_n1_1 := x_n1.f 1 _ rfl
    go_wp2_with fail
    refine (rdiv_nm _ m3 m4 k4 (by omega) E3 E4 E5 E6).mono ?_
    rintro e w2 ⟨rfl, hb⟩
    have hB2 : Below w.heap.size w w2 := below_thru (by go_grown) hb
    have hs2 : w.heap.size ≤ w2.heap.size := hB2.size
    have x_x2 : Box w2 (w.heap.size) [.int .i64 bu, .int .i64 ra, .int .i64 pe, .int .i64 le, .int .i64 pt, .int .u64 a] := (by refine Box.below ?_ hb; repeat (first | (with_reducible assumption) | (with_reducible refine Box.drew ?_) | (with_reducible refine Box.drewN ?_ _) | ((with_reducible refine Box.new ?_); simp; done) | (with_reducible apply Box.set2) | ((with_reducible apply Box.put); (with_reducible assumption); rfl) | (with_reducible refine Box.alloc ?_ _) | (with_reducible refine Box.other ?_ (by first | (dsimp only; omega) | omega) _)))
    have z_x2 := x_x2.lt
    have c_x2_0 := x_x2.c 0 _ rfl
    have f_x2_0 := x_x2.f 0 _ rfl
    have c_x2_1 := x_x2.c 1 _ rfl
    have f_x2_1 := x_x2.f 1 _ rfl
    have c_x2_2 := x_x2.c 2 _ rfl
    have f_x2_2 := x_x2.f 2 _ rfl
    have c_x2_3 := x_x2.c 3 _ rfl
    have f_x2_3 := x_x2.f 3 _ rfl
    have c_x2_4 := x_x2.c 4 _ rfl
    have f_x2_4 := x_x2.f 4 _ rfl
    have c_x2_5 := x_x2.c 5 _ rfl
    have f_x2_5 := x_x2.f 5 _ rfl
    have x_z2 : Box w2 (w.heap.size + 1) [.int .i64 0, .int .i64 0, .int .i64 0, .int .i64 0, .int .i64 0, .int .u64 0] := (by refine Box.below ?_ hb; repeat (first | (with_reducible assumption) | (with_reducible refine Box.drew ?_) | (with_reducible refine Box.drewN ?_ _) | ((with_reducible refine Box.new ?_); simp; done) | (with_reducible apply Box.set2) | ((with_reducible apply Box.put); (with_reducible assumption); rfl) | (with_reducible refine Box.alloc ?_ _) | (with_reducible refine Box.other ?_ (by first | (dsimp only; omega) | omega) _)))
    have z_z2 := x_z2.lt
    have c_z2_0 := x_z2.c 0 _ rfl
    have f_z2_0 := x_z2.f 0 _ rfl
    have c_z2_1 := x_z2.c 1 _ rfl
    have f_z2_1 := x_z2.f 1 _ rfl
    have c_z2_2 := x_z2.c 2 _ rfl
    have f_z2_2 := x_z2.f 2 _ rfl
    have c_z2_3 := x_z2.c 3 _ rfl
    have f_z2_3 := x_z2.f 3 _ rfl
    have c_z2_4 := x_z2.c 4 _ rfl
    have f_z2_4 := x_z2.f 4 _ rfl
    have c_z2_5 := x_z2.c 5 _ rfl
    have f_z2_5 := x_z2.f 5 _ rfl
    have x_n2 : Box w2 (b1) [.int .u64 nh, .int .u64 nl] := (by refine Box.below ?_ hb; repeat (first | (with_reducible assumption) | (with_reducible refine Box.drew ?_) | (with_reducible refine Box.drewN ?_ _) | ((with_reducible refine Box.new ?_); simp; done) | (with_reducible apply Box.set2) | ((with_reducible apply Box.put); (with_reducible assumption); rfl) | (with_reducible refine Box.alloc ?_ _) | (with_reducible refine Box.other ?_ (by first | (dsimp only; omega) | omega) _)))
    have z_n2 := x_n2.lt
    have c_n2_0 := x_n2.c 0 _ rfl
    have f_n2_0 := x_n2.f 0 _ rfl
    have c_n2_1 := x_n2.c 1 _ rfl
    have f_n2_1 := x_n2.f 1 _ rfl
    clear hb hB1 hs1 x_x1 z_x1 c_x1_0 c_x1_1 c_x1_2 c_x1_3 c_x1_4 c_x1_5 f_x1_0 f_x1_1 f_x1_2 f_x1_3 f_x1_4 f_x1_5 x_z1 z_z1 c_z1_0 c_z1_1 c_z1_2 c_z1_3 c_z1_4 c_z1_5 f_z1_0 f_z1_1 f_z1_2 f_z1_3 f_z1_4 f_z1_5 x_n1 z_n1 c_n1_0 c_n1_1 f_n1_0 f_n1_1
    clear x_n2 z_n2 c_n2_0 c_n2_1 f_n2_0 f_n2_1
    go_wp2_with fail
    refine (rcmp_nm _ (isU_of E5) k5 E7.out).mono ?_
    rintro e w3 ⟨rfl, hb⟩
    have hB3 : Below w.heap.size w w3 := below_thru (by go_grown) hb
    have hs3 : w.heap.size ≤ w3.heap.size := hB3.size
    have x_x3 : Box w3 (w.heap.size) [.int .i64 bu, .int .i64 ra, .int .i64 pe, .int .i64 le, .int .i64 pt, .int .u64 t] := (by refine Box.below ?_ hb; repeat (first | (with_reducible assumption) | (with_reducible refine Box.drew ?_) | (with_reducible refine Box.drewN ?_ _) | ((with_reducible refine Box.new ?_); simp; done) | (with_reducible apply Box.set2) | ((with_reducible apply Box.put); (with_reducible assumption); rfl) | (with_reducible refine Box.alloc ?_ _) | (with_reducible refine Box.other ?_ (by first | (dsimp only; omega) | omega) _)))
    have z_x3 := x_x3.lt
    have c_x3_0 := x_x3.c 0 _ rfl
    have f_x3_0 := x_x3.f 0 _ rfl
    have c_x3_1 := x_x3.c 1 _ rfl
    have f_x3_1 := x_x3.f 1 _ rfl
    have c_x3_2 := x_x3.c 2 _ rfl
    have f_x3_2 := x_x3.f 2 _ rfl
    have c_x3_3 := x_x3.c 3 _ rfl
    have f_x3_3 := x_x3.f 3 _ rfl
    have c_x3_4 := x_x3.c 4 _ rfl
    have f_x3_4 := x_x3.f 4 _ rfl
    have c_x3_5 := x_x3.c 5 _ rfl
    have f_x3_5 := x_x3.f 5 _ rfl
    have x_z3 : Box w3 (w.heap.size + 1) [.int .i64 0, .int .i64 0, .int .i64 0, .int .i64 0, .int .i64 0, .int .u64 0] := (by refine Box.below ?_ hb; repeat (first | (with_reducible assumption) | (with_reducible refine Box.drew ?_) | (with_reducible refine Box.drewN ?_ _) | ((with_reducible refine Box.new ?_); simp; done) | (with_reducible apply Box.set2) | ((with_reducible apply Box.put); (with_reducible assumption); rfl) | (with_reducible refine Box.alloc ?_ _) | (with_reducible refine Box.other ?_ (by first | (dsimp only; omega) | omega) _)))
    have z_z3 := x_z3.lt
    have c_z3_0 := x_z3.c 0 _ rfl
    have f_z3_0 := x_z3.f 0 _ rfl
    have c_z3_1 := x_z3.c 1 _ rfl
    have f_z3_1 := x_z3.f 1 _ rfl
    have c_z3_2 := x_z3.c 2 _ rfl
    have f_z3_2 := x_z3.f 2 _ rfl
    have c_z3_3 := x_z3.c 3 _ rfl
    have f_z3_3 := x_z3.f 3 _ rfl
    have c_z3_4 := x_z3.c 4 _ rfl
    have f_z3_4 := x_z3.f 4 _ rfl
    have c_z3_5 := x_z3.c 5 _ rfl
    have f_z3_5 := x_z3.f 5 _ rfl
    have x_o3 : Box w3 (w2.heap.size) [.int .u64 qh, .int .u64 ql] := (by refine Box.below ?_ hb; repeat (first | (with_reducible assumption) | (with_reducible refine Box.drew ?_) | (with_reducible refine Box.drewN ?_ _) | ((with_reducible refine Box.new ?_); simp; done) | (with_reducible apply Box.set2) | ((with_reducible apply Box.put); (with_reducible assumption); rfl) | (with_reducible refine Box.alloc ?_ _) | (with_reducible refine Box.other ?_ (by first | (dsimp only; omega) | omega) _)))
    have z_o3 := x_o3.lt
    have c_o3_0 := x_o3.c 0 _ rfl
    have f_o3_0 := x_o3.f 0 _ rfl
    have c_o3_1 := x_o3.c 1 _ rfl
    have f_o3_1 := x_o3.f 1 _ rfl
    clear hb hB2 hs2 x_x2 z_x2 c_x2_0 c_x2_1 c_x2_2 c_x2_3 c_x2_4 c_x2_5 f_x2_0 f_x2_1 f_x2_2 f_x2_3 f_x2_4 f_x2_5 x_z2 z_z2 c_z2_0 c_z2_1 c_z2_2 c_z2_3 c_z2_4 c_z2_5 f_z2_0 f_z2_1 f_z2_2 f_z2_3 f_z2_4 f_z2_5
    go_wp2_with fail
    refine bodyPost_ret (v := .agg #[.int .i64 bu, .int .i64 ra, .int .i64 pe, .int .i64 bu, .int .i64 0, .int .u64 t]) (by simp [results, Try.results83, go_sem, c_z3_0, c_z3_1, c_z3_2, c_z3_3, c_z3_4, c_z3_5]) rfl ⟨rfl, ?_⟩
    go_grown

set_option maxRecDepth 100000 in
set_option maxHeartbeats 3200000 in
theorem rfilled_part {bu ra pe le pt a t : Int} (hv : limE bu ra pe = 0) (hl0 : 0 ≤ le) (hl1 : le ≤ bu) (hq0 : 0 ≤ pt) (hq1 : pt < pe) (ta : isU a) (tt : isU t) (hat : a ≤ t) (hf : ((t - a) * ra + pt) / pe < bu - le) (w : World) :
    Calls Try.prog 83 #[.agg #[.int .i64 bu, .int .i64 ra, .int .i64 pe, .int .i64 le, .int .i64 pt, .int .u64 a], .int .u64 t] w fun e w' => e = .returned (.agg #[.int .i64 bu, .int .i64 ra, .int .i64 pe, .int .i64 (le + ((t - a) * ra + pt) / pe), .int .i64 (((t - a) * ra + pt) % pe), .int .u64 t]) ∧ Below w.heap.size w w' := by
  obtain ⟨z1, z2, z3, z4, z5, z6⟩ := limE_zero hv
  obtain ⟨g0, g1⟩ := fil_range z3 z4 ta tt hat hq0 (by omega)
  have d1 : decide (t < a) = false := decide_eq_false (by omega)
  obtain ⟨mh, e1⟩ : ∃ x, wHi ((t - a) * ra) = x := ⟨_, rfl⟩
  obtain ⟨ml, e2⟩ : ∃ x, wLo ((t - a) * ra) = x := ⟨_, rfl⟩
  obtain ⟨nh, e3⟩ : ∃ x, wHi ((t - a) * ra + pt) = x := ⟨_, rfl⟩
  obtain ⟨nl, e4⟩ : ∃ x, wLo ((t - a) * ra + pt) = x := ⟨_, rfl⟩
  obtain ⟨qh, e5⟩ : ∃ x, wHi (((t - a) * ra + pt) / pe) = x := ⟨_, rfl⟩
  obtain ⟨ql, e6⟩ : ∃ x, wLo (((t - a) * ra + pt) / pe) = x := ⟨_, rfl⟩
  obtain ⟨m, e7⟩ : ∃ x, ((t - a) * ra + pt) % pe = x := ⟨_, rfl⟩
  have k1 : isU (t - a) := by unfold isU at *; omega
  have k2 : isU ra := by unfold isU; omega
  have k3 : isU pt := by unfold isU; omega
  have k4 : isU pe := by unfold isU; omega
  have m1 : isU mh := by rw [← e1]; exact isU_hi (by unfold isW; omega)
  have m2 : isU ml := by rw [← e2]; exact isU_lo _
  have m3 : isU nh := by rw [← e3]; exact isU_hi (by unfold isW; omega)
  have m4 : isU nl := by rw [← e4]; exact isU_lo _
  have E1 := Lib.hid (show (t - a) * ra = wN mh ml by rw [← e1, ← e2, wN_parts])
  have E2 := Lib.hid (show wN mh ml + wN 0 pt = wN nh nl by rw [← e1, ← e2, ← e3, ← e4, wN_parts, wN_parts]; unfold wN; omega)
  have E3 := Lib.hid (show wN nh nl = (t - a) * ra + pt by rw [← e3, ← e4, wN_parts])
  have E4 := Lib.hid e5
  have E5 := Lib.hid e6
  have E6 := Lib.hid e7
  have u1 : IntKind.u64.wrap (t - a) = t - a := IntWalk.u64_in _ (by unfold isU at k1; omega)
  have u2 : IntKind.u64.wrap ra = ra := IntWalk.u64_in _ (by omega)
  have u3 : IntKind.u64.wrap pt = pt := IntWalk.u64_in _ (by omega)
  have u4 : IntKind.u64.wrap (bu - le) = bu - le := IntWalk.u64_in _ (by omega)
  have k5 : isU (bu - le) := by unfold isU; omega
  obtain ⟨cc, e8⟩ : ∃ x, cmpI (wN qh ql) (wN 0 (bu - le)) = x := ⟨_, rfl⟩
  have E7 := Lib.hid e8
  rw [← e5, ← e6, wN_parts] at e8
  have hw : wN 0 (bu - le) = bu - le := by unfold wN; omega
  rw [hw] at e8
  have d2 : decide (0 ≤ cc) = false := decide_eq_false (by rw [← e8]; unfold cmpI; split <;> (try split) <;> omega)
  have hq : 0 ≤ ((t - a) * ra + pt) / pe := Int.ediv_nonneg (by omega) (by omega)
  have hqh : qh = 0 := by rw [← e5]; unfold wHi; omega
  have hql : ql = ((t - a) * ra + pt) / pe := by rw [← e6]; unfold wLo; omega
  have hm0 : 0 ≤ m := by rw [← e7]; exact Int.emod_nonneg _ (by omega)
  have hm1 : m < pe := by rw [← e7]; exact Int.emod_lt_of_pos _ (by omega)
  rw [← hql, e7]
  have b1 : 0 ≤ ql := by omega
  have b2 : ql ≤ 1000000000 := by omega
  have b3 : le + ql ≤ 1000000000 := by omega
  subst hqh
  clear e1 e2 e3 e4 e5 e6 e7 e8 hw hf hql hq
  go_enter Try.func83, Try.ntmps83
  go_upto_region 3 with fail
  go_cut [5, 6] (fun p q0 wx => ∃ b : Nat, p = .pointer (some ⟨b, 0, none⟩) ∧ q0 = .int .i64 0 ∧ Box wx b [.int .u64 nh, .int .u64 nl] ∧ Box wx (w.heap.size) [.int .i64 bu, .int .i64 ra, .int .i64 pe, .int .i64 le, .int .i64 pt, .int .u64 a] ∧ Box wx (w.heap.size + 1) [.int .i64 0, .int .i64 0, .int .i64 0, .int .i64 0, .int .i64 0, .int .u64 0] ∧ Below w.heap.size w wx)
  case first =>
    go_region_held3 (fun w' => w'.cell? ⟨w.heap.size, 5, none⟩ = some (.int .u64 a) ∧ w'.cell? ⟨w.heap.size, 1, none⟩ = some (.int .i64 ra) ∧ w'.cell? ⟨w.heap.size, 4, none⟩ = some (.int .i64 pt)) (((repeat' apply And.intro) <;> (first | (go_keep; done) | go_cell)))
      (first
        | (go_at_call 93; refine (rmul_ok (h := mh) (l := ml) _ k1 k2 m1 m2 E1.out).mono ?_; rintro e v1 ⟨rfl, hv1⟩; have hV1 : Below w.heap.size w v1 := below_thru (by go_grown) hv1; have hs_v1 : w.heap.size ≤ v1.heap.size := hV1.size; have x_x_v1 : Box v1 (w.heap.size) [.int .i64 bu, .int .i64 ra, .int .i64 pe, .int .i64 le, .int .i64 pt, .int .u64 a] := (by refine Box.below ?_ hv1; repeat (first | (with_reducible assumption) | (with_reducible refine Box.drew ?_) | (with_reducible refine Box.drewN ?_ _) | ((with_reducible refine Box.new ?_); simp; done) | (with_reducible apply Box.set2) | ((with_reducible apply Box.put); (with_reducible assumption); rfl) | (with_reducible refine Box.alloc ?_ _) | (with_reducible refine Box.other ?_ (by first | (dsimp only; omega) | omega) _))); have z_x_v1 := x_x_v1.lt; have c_x_v1_0 := x_x_v1.c 0 _ rfl; have f_x_v1_0 := x_x_v1.f 0 _ rfl; have c_x_v1_1 := x_x_v1.c 1 _ rfl; have f_x_v1_1 := x_x_v1.f 1 _ rfl; have c_x_v1_2 := x_x_v1.c 2 _ rfl; have f_x_v1_2 := x_x_v1.f 2 _ rfl; have c_x_v1_3 := x_x_v1.c 3 _ rfl; have f_x_v1_3 := x_x_v1.f 3 _ rfl; have c_x_v1_4 := x_x_v1.c 4 _ rfl; have f_x_v1_4 := x_x_v1.f 4 _ rfl; have c_x_v1_5 := x_x_v1.c 5 _ rfl; have f_x_v1_5 := x_x_v1.f 5 _ rfl; have x_z_v1 : Box v1 (w.heap.size + 1) [.int .i64 0, .int .i64 0, .int .i64 0, .int .i64 0, .int .i64 0, .int .u64 0] := (by refine Box.below ?_ hv1; repeat (first | (with_reducible assumption) | (with_reducible refine Box.drew ?_) | (with_reducible refine Box.drewN ?_ _) | ((with_reducible refine Box.new ?_); simp; done) | (with_reducible apply Box.set2) | ((with_reducible apply Box.put); (with_reducible assumption); rfl) | (with_reducible refine Box.alloc ?_ _) | (with_reducible refine Box.other ?_ (by first | (dsimp only; omega) | omega) _))); have z_z_v1 := x_z_v1.lt; have c_z_v1_0 := x_z_v1.c 0 _ rfl; have f_z_v1_0 := x_z_v1.f 0 _ rfl; have c_z_v1_1 := x_z_v1.c 1 _ rfl; have f_z_v1_1 := x_z_v1.f 1 _ rfl; have c_z_v1_2 := x_z_v1.c 2 _ rfl; have f_z_v1_2 := x_z_v1.f 2 _ rfl; have c_z_v1_3 := x_z_v1.c 3 _ rfl; have f_z_v1_3 := x_z_v1.f 3 _ rfl; have c_z_v1_4 := x_z_v1.c 4 _ rfl; have f_z_v1_4 := x_z_v1.f 4 _ rfl; have c_z_v1_5 := x_z_v1.c 5 _ rfl; have f_z_v1_5 := x_z_v1.f 5 _ rfl; (first | (with_reducible have y := Box.below (Box.drew (Box.new rfl)) hv1) | (with_reducible have y := Box.below (Box.new rfl) hv1) | (with_reducible have y := Box.below y hv1) | (have y := trivial)); (try simp only [World.size_alloc] at y); try (have yz := Box.lt y; have y0 := Box.c y 0 _ rfl; have yf0 := Box.f y 0 _ rfl; have y1 := Box.c y 1 _ rfl; have yf1 := Box.f y 1 _ rfl))
        | (go_at_call 92; refine (radd_ok (h := nh) (l := nl) _ m1 m2 u0 k3 m3 m4 E2.out).mono ?_; rintro e v2 ⟨rfl, hv2⟩; have hV2 : Below w.heap.size w v2 := below_thru (by go_grown) hv2; have hs_v2 : w.heap.size ≤ v2.heap.size := hV2.size; have x_x_v2 : Box v2 (w.heap.size) [.int .i64 bu, .int .i64 ra, .int .i64 pe, .int .i64 le, .int .i64 pt, .int .u64 a] := (by refine Box.below ?_ hv2; repeat (first | (with_reducible assumption) | (with_reducible refine Box.drew ?_) | (with_reducible refine Box.drewN ?_ _) | ((with_reducible refine Box.new ?_); simp; done) | (with_reducible apply Box.set2) | ((with_reducible apply Box.put); (with_reducible assumption); rfl) | (with_reducible refine Box.alloc ?_ _) | (with_reducible refine Box.other ?_ (by first | (dsimp only; omega) | omega) _))); have z_x_v2 := x_x_v2.lt; have c_x_v2_0 := x_x_v2.c 0 _ rfl; have f_x_v2_0 := x_x_v2.f 0 _ rfl; have c_x_v2_1 := x_x_v2.c 1 _ rfl; have f_x_v2_1 := x_x_v2.f 1 _ rfl; have c_x_v2_2 := x_x_v2.c 2 _ rfl; have f_x_v2_2 := x_x_v2.f 2 _ rfl; have c_x_v2_3 := x_x_v2.c 3 _ rfl; have f_x_v2_3 := x_x_v2.f 3 _ rfl; have c_x_v2_4 := x_x_v2.c 4 _ rfl; have f_x_v2_4 := x_x_v2.f 4 _ rfl; have c_x_v2_5 := x_x_v2.c 5 _ rfl; have f_x_v2_5 := x_x_v2.f 5 _ rfl; have x_z_v2 : Box v2 (w.heap.size + 1) [.int .i64 0, .int .i64 0, .int .i64 0, .int .i64 0, .int .i64 0, .int .u64 0] := (by refine Box.below ?_ hv2; repeat (first | (with_reducible assumption) | (with_reducible refine Box.drew ?_) | (with_reducible refine Box.drewN ?_ _) | ((with_reducible refine Box.new ?_); simp; done) | (with_reducible apply Box.set2) | ((with_reducible apply Box.put); (with_reducible assumption); rfl) | (with_reducible refine Box.alloc ?_ _) | (with_reducible refine Box.other ?_ (by first | (dsimp only; omega) | omega) _))); have z_z_v2 := x_z_v2.lt; have c_z_v2_0 := x_z_v2.c 0 _ rfl; have f_z_v2_0 := x_z_v2.f 0 _ rfl; have c_z_v2_1 := x_z_v2.c 1 _ rfl; have f_z_v2_1 := x_z_v2.f 1 _ rfl; have c_z_v2_2 := x_z_v2.c 2 _ rfl; have f_z_v2_2 := x_z_v2.f 2 _ rfl; have c_z_v2_3 := x_z_v2.c 3 _ rfl; have f_z_v2_3 := x_z_v2.f 3 _ rfl; have c_z_v2_4 := x_z_v2.c 4 _ rfl; have f_z_v2_4 := x_z_v2.f 4 _ rfl; have c_z_v2_5 := x_z_v2.c 5 _ rfl; have f_z_v2_5 := x_z_v2.f 5 _ rfl; (first | (with_reducible have y := Box.below (Box.drew (Box.new rfl)) hv2) | (with_reducible have y := Box.below (Box.new rfl) hv2) | (with_reducible have y := Box.below y hv2) | (have y := trivial)); (try simp only [World.size_alloc] at y); try (have yz := Box.lt y; have y0 := Box.c y 0 _ rfl; have yf0 := Box.f y 0 _ rfl; have y1 := Box.c y 1 _ rfl; have yf1 := Box.f y 1 _ rfl)))
    all_goals
      go_wp2_with fail
      go_meet
      refine ⟨_, rfl, rfl, ?_, ?_, ?_, ?_⟩
      all_goals first
        | ((repeat (first | (with_reducible assumption) | (with_reducible refine Box.drew ?_) | (with_reducible refine Box.drewN ?_ _) | ((with_reducible refine Box.new ?_); simp; done) | (with_reducible apply Box.set2) | (with_reducible refine Box.alloc ?_ _) | (with_reducible refine Box.other ?_ (by first | (dsimp only; omega) | omega) _))); done)
        | (go_grown; done)
  case rest =>
    obtain ⟨b1, rfl, rfl, x_n1, x_x1, x_z1, hB1⟩ := hcut
    obtain ⟨w1, rfl⟩ : ∃ u : World, u = wc := ⟨_, rfl⟩
    have hs1 : w.heap.size ≤ w1.heap.size := hB1.size
    have z_x1 := x_x1.lt
    have c_x1_0 := x_x1.c 0 _ rfl; have f_x1_0 := x_x1.f 0 _ rfl
    have c_x1_1 := x_x1.c 1 _ rfl; have f_x1_1 := x_x1.f 1 _ rfl
    have c_x1_2 := x_x1.c 2 _ rfl; have f_x1_2 := x_x1.f 2 _ rfl
    have c_x1_3 := x_x1.c 3 _ rfl; have f_x1_3 := x_x1.f 3 _ rfl
    have c_x1_4 := x_x1.c 4 _ rfl; have f_x1_4 := x_x1.f 4 _ rfl
    have c_x1_5 := x_x1.c 5 _ rfl; have f_x1_5 := x_x1.f 5 _ rfl
    have z_z1 := x_z1.lt
    have c_z1_0 := x_z1.c 0 _ rfl; have f_z1_0 := x_z1.f 0 _ rfl
    have c_z1_1 := x_z1.c 1 _ rfl; have f_z1_1 := x_z1.f 1 _ rfl
    have c_z1_2 := x_z1.c 2 _ rfl; have f_z1_2 := x_z1.f 2 _ rfl
    have c_z1_3 := x_z1.c 3 _ rfl; have f_z1_3 := x_z1.f 3 _ rfl
    have c_z1_4 := x_z1.c 4 _ rfl; have f_z1_4 := x_z1.f 4 _ rfl
    have c_z1_5 := x_z1.c 5 _ rfl; have f_z1_5 := x_z1.f 5 _ rfl
    have z_n1 := x_n1.lt
    have c_n1_0 := x_n1.c 0 _ rfl; have f_n1_0 := x_n1.f 0 _ rfl
    have c_n1_1 := x_n1.c 1 _ rfl; have f_n1_1 := x_n1.f 1 _ rfl
    go_wp2_with fail
    refine (rdiv_nm _ m3 m4 k4 (by omega) E3 E4 E5 E6).mono ?_
    rintro e w2 ⟨rfl, hb⟩
    have hB2 : Below w.heap.size w w2 := below_thru (by go_grown) hb
    have hs2 : w.heap.size ≤ w2.heap.size := hB2.size
    have x_x2 : Box w2 (w.heap.size) [.int .i64 bu, .int .i64 ra, .int .i64 pe, .int .i64 le, .int .i64 pt, .int .u64 a] := (by refine Box.below ?_ hb; repeat (first | (with_reducible assumption) | (with_reducible refine Box.drew ?_) | (with_reducible refine Box.drewN ?_ _) | ((with_reducible refine Box.new ?_); simp; done) | (with_reducible apply Box.set2) | ((with_reducible apply Box.put); (with_reducible assumption); rfl) | (with_reducible refine Box.alloc ?_ _) | (with_reducible refine Box.other ?_ (by first | (dsimp only; omega) | omega) _)))
    have z_x2 := x_x2.lt
    have c_x2_0 := x_x2.c 0 _ rfl
    have f_x2_0 := x_x2.f 0 _ rfl
    have c_x2_1 := x_x2.c 1 _ rfl
    have f_x2_1 := x_x2.f 1 _ rfl
    have c_x2_2 := x_x2.c 2 _ rfl
    have f_x2_2 := x_x2.f 2 _ rfl
    have c_x2_3 := x_x2.c 3 _ rfl
    have f_x2_3 := x_x2.f 3 _ rfl
    have c_x2_4 := x_x2.c 4 _ rfl
    have f_x2_4 := x_x2.f 4 _ rfl
    have c_x2_5 := x_x2.c 5 _ rfl
    have f_x2_5 := x_x2.f 5 _ rfl
    have x_z2 : Box w2 (w.heap.size + 1) [.int .i64 0, .int .i64 0, .int .i64 0, .int .i64 0, .int .i64 0, .int .u64 0] := (by refine Box.below ?_ hb; repeat (first | (with_reducible assumption) | (with_reducible refine Box.drew ?_) | (with_reducible refine Box.drewN ?_ _) | ((with_reducible refine Box.new ?_); simp; done) | (with_reducible apply Box.set2) | ((with_reducible apply Box.put); (with_reducible assumption); rfl) | (with_reducible refine Box.alloc ?_ _) | (with_reducible refine Box.other ?_ (by first | (dsimp only; omega) | omega) _)))
    have z_z2 := x_z2.lt
    have c_z2_0 := x_z2.c 0 _ rfl
    have f_z2_0 := x_z2.f 0 _ rfl
    have c_z2_1 := x_z2.c 1 _ rfl
    have f_z2_1 := x_z2.f 1 _ rfl
    have c_z2_2 := x_z2.c 2 _ rfl
    have f_z2_2 := x_z2.f 2 _ rfl
    have c_z2_3 := x_z2.c 3 _ rfl
    have f_z2_3 := x_z2.f 3 _ rfl
    have c_z2_4 := x_z2.c 4 _ rfl
    have f_z2_4 := x_z2.f 4 _ rfl
    have c_z2_5 := x_z2.c 5 _ rfl
    have f_z2_5 := x_z2.f 5 _ rfl
    have x_n2 : Box w2 (b1) [.int .u64 nh, .int .u64 nl] := (by refine Box.below ?_ hb; repeat (first | (with_reducible assumption) | (with_reducible refine Box.drew ?_) | (with_reducible refine Box.drewN ?_ _) | ((with_reducible refine Box.new ?_); simp; done) | (with_reducible apply Box.set2) | ((with_reducible apply Box.put); (with_reducible assumption); rfl) | (with_reducible refine Box.alloc ?_ _) | (with_reducible refine Box.other ?_ (by first | (dsimp only; omega) | omega) _)))
    have z_n2 := x_n2.lt
    have c_n2_0 := x_n2.c 0 _ rfl
    have f_n2_0 := x_n2.f 0 _ rfl
    have c_n2_1 := x_n2.c 1 _ rfl
    have f_n2_1 := x_n2.f 1 _ rfl
    clear hb hB1 hs1 x_x1 z_x1 c_x1_0 c_x1_1 c_x1_2 c_x1_3 c_x1_4 c_x1_5 f_x1_0 f_x1_1 f_x1_2 f_x1_3 f_x1_4 f_x1_5 x_z1 z_z1 c_z1_0 c_z1_1 c_z1_2 c_z1_3 c_z1_4 c_z1_5 f_z1_0 f_z1_1 f_z1_2 f_z1_3 f_z1_4 f_z1_5 x_n1 z_n1 c_n1_0 c_n1_1 f_n1_0 f_n1_1
    clear x_n2 z_n2 c_n2_0 c_n2_1 f_n2_0 f_n2_1
    go_wp2_with fail
    refine (rcmp_nm _ (isU_of E5) k5 E7.out).mono ?_
    rintro e w3 ⟨rfl, hb⟩
    have hB3 : Below w.heap.size w w3 := below_thru (by go_grown) hb
    have hs3 : w.heap.size ≤ w3.heap.size := hB3.size
    have x_x3 : Box w3 (w.heap.size) [.int .i64 bu, .int .i64 ra, .int .i64 pe, .int .i64 le, .int .i64 pt, .int .u64 t] := (by refine Box.below ?_ hb; repeat (first | (with_reducible assumption) | (with_reducible refine Box.drew ?_) | (with_reducible refine Box.drewN ?_ _) | ((with_reducible refine Box.new ?_); simp; done) | (with_reducible apply Box.set2) | ((with_reducible apply Box.put); (with_reducible assumption); rfl) | (with_reducible refine Box.alloc ?_ _) | (with_reducible refine Box.other ?_ (by first | (dsimp only; omega) | omega) _)))
    have z_x3 := x_x3.lt
    have c_x3_0 := x_x3.c 0 _ rfl
    have f_x3_0 := x_x3.f 0 _ rfl
    have c_x3_1 := x_x3.c 1 _ rfl
    have f_x3_1 := x_x3.f 1 _ rfl
    have c_x3_2 := x_x3.c 2 _ rfl
    have f_x3_2 := x_x3.f 2 _ rfl
    have c_x3_3 := x_x3.c 3 _ rfl
    have f_x3_3 := x_x3.f 3 _ rfl
    have c_x3_4 := x_x3.c 4 _ rfl
    have f_x3_4 := x_x3.f 4 _ rfl
    have c_x3_5 := x_x3.c 5 _ rfl
    have f_x3_5 := x_x3.f 5 _ rfl
    have x_z3 : Box w3 (w.heap.size + 1) [.int .i64 0, .int .i64 0, .int .i64 0, .int .i64 0, .int .i64 0, .int .u64 0] := (by refine Box.below ?_ hb; repeat (first | (with_reducible assumption) | (with_reducible refine Box.drew ?_) | (with_reducible refine Box.drewN ?_ _) | ((with_reducible refine Box.new ?_); simp; done) | (with_reducible apply Box.set2) | ((with_reducible apply Box.put); (with_reducible assumption); rfl) | (with_reducible refine Box.alloc ?_ _) | (with_reducible refine Box.other ?_ (by first | (dsimp only; omega) | omega) _)))
    have z_z3 := x_z3.lt
    have c_z3_0 := x_z3.c 0 _ rfl
    have f_z3_0 := x_z3.f 0 _ rfl
    have c_z3_1 := x_z3.c 1 _ rfl
    have f_z3_1 := x_z3.f 1 _ rfl
    have c_z3_2 := x_z3.c 2 _ rfl
    have f_z3_2 := x_z3.f 2 _ rfl
    have c_z3_3 := x_z3.c 3 _ rfl
    have f_z3_3 := x_z3.f 3 _ rfl
    have c_z3_4 := x_z3.c 4 _ rfl
    have f_z3_4 := x_z3.f 4 _ rfl
    have c_z3_5 := x_z3.c 5 _ rfl
    have f_z3_5 := x_z3.f 5 _ rfl
    have x_o3 : Box w3 (w2.heap.size) [.int .u64 0, .int .u64 ql] := (by refine Box.below ?_ hb; repeat (first | (with_reducible assumption) | (with_reducible refine Box.drew ?_) | (with_reducible refine Box.drewN ?_ _) | ((with_reducible refine Box.new ?_); simp; done) | (with_reducible apply Box.set2) | ((with_reducible apply Box.put); (with_reducible assumption); rfl) | (with_reducible refine Box.alloc ?_ _) | (with_reducible refine Box.other ?_ (by first | (dsimp only; omega) | omega) _)))
    have z_o3 := x_o3.lt
    have c_o3_0 := x_o3.c 0 _ rfl
    have f_o3_0 := x_o3.f 0 _ rfl
    have c_o3_1 := x_o3.c 1 _ rfl
    have f_o3_1 := x_o3.f 1 _ rfl
    clear hb hB2 hs2 x_x2 z_x2 c_x2_0 c_x2_1 c_x2_2 c_x2_3 c_x2_4 c_x2_5 f_x2_0 f_x2_1 f_x2_2 f_x2_3 f_x2_4 f_x2_5 x_z2 z_z2 c_z2_0 c_z2_1 c_z2_2 c_z2_3 c_z2_4 c_z2_5 f_z2_0 f_z2_1 f_z2_2 f_z2_3 f_z2_4 f_z2_5
    go_wp2_with fail
    refine bodyPost_ret (v := .agg #[.int .i64 bu, .int .i64 ra, .int .i64 pe, .int .i64 (le + ql), .int .i64 m, .int .u64 t]) (by simp [results, Try.results83, go_sem, c_z3_0, c_z3_1, c_z3_2, c_z3_3, c_z3_4, c_z3_5]) rfl ⟨rfl, ?_⟩
    go_grown

end Go.Proofs.Ytmpcpflpcfanjaa
