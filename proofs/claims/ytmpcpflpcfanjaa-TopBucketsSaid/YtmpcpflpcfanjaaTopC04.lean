/-
  What a bucket has at most, as TopBuckets asks for it.
-/
import Derived.Test.YtmpcpflpcfanjaaTopA04
namespace Go.Proofs.Ytmpcpflpcfanjaa
open Go.RowKit

theorem wide_of {n : Int} (h : isW n) : ∃ a b : Int, isU a ∧ isU b ∧ n = wN a b := ⟨wHi n, wLo n, isU_hi h, isU_lo n, (wN_parts n).symm⟩
theorem cmp_le {a b : Int} (h : a ≤ b) : cmpI a b ≤ 0 := by
  unfold cmpI
  split
  · omega
  · rw [if_neg (by omega)]
    omega

set_option maxRecDepth 100000 in
set_option maxHeartbeats 12800000 in
theorem bounded_any {bu ra pe lv pt at0 last ch : Int} (hb : Buc bu ra pe lv pt last) (ta : isU at0) (hat : at0 ≤ last) (hch : isU ch) (hk : ch * pe + vol pe lv pt ≤ bu * pe + (last - at0) * ra) (w : World) :
    Calls Try.prog 42 #[.agg #[.int .i64 bu, .int .i64 ra, .int .i64 pe], .int .u64 at0, .int .u64 last, .agg #[.int .i64 bu, .int .i64 ra, .int .i64 pe, .int .i64 lv, .int .i64 pt, .int .u64 last], .int .u64 ch] w fun e w' => e = .returned (.bool true) ∧ Below w.heap.size w w' := by
  obtain ⟨z1, z2, z3, z4, z5, z6⟩ := hb.nums
  have l0 := hb.l0
  have l1 := hb.l1
  have q0 := hb.q0
  have q1 := hb.q1
  have tl := hb.tick
  have hv := hb.vol0
  have hvol : vol pe lv pt = lv * pe + pt := rfl
  have hg := fil_range z3 z4 ta tl hat q0 (by omega)
  have hbp : 0 ≤ bu * pe ∧ bu * pe ≤ 1000000000 * 1000000000 := ⟨Int.mul_nonneg (by omega) (by omega), Int.mul_le_mul (by omega) (by omega) (by omega) (by omega)⟩
  have hlp : 0 ≤ lv * pe := Int.mul_nonneg (by omega) (by omega)
  have hcp : 0 ≤ ch * pe := Int.mul_nonneg hch.1 (by omega)
  obtain ⟨A, hA⟩ : ∃ y, bu * pe = y := ⟨_, rfl⟩
  obtain ⟨B, hB⟩ : ∃ y, (last - at0) * ra = y := ⟨_, rfl⟩
  obtain ⟨C, hC⟩ : ∃ y, lv * pe = y := ⟨_, rfl⟩
  obtain ⟨D, hD⟩ : ∃ y, ch * pe = y := ⟨_, rfl⟩
  rw [hvol] at hk hv
  rw [hA] at hk hv hbp
  rw [hB] at hk hg
  rw [hC] at hk hv hlp
  rw [hD] at hk hcp
  obtain ⟨a1, b1, m1, n1, e1⟩ := wide_of (n := A) (by unfold isW; omega)
  obtain ⟨a2, b2, m2, n2, e2⟩ := wide_of (n := B) (by unfold isW; omega)
  obtain ⟨a3, b3, m3, n3, e3⟩ := wide_of (n := A + B) (by unfold isW; omega)
  obtain ⟨a4, b4, m4, n4, e4⟩ := wide_of (n := C) (by unfold isW; omega)
  obtain ⟨a5, b5, m5, n5, e5⟩ := wide_of (n := C + pt) (by unfold isW; omega)
  obtain ⟨a6, b6, m6, n6, e6⟩ := wide_of (n := D) (by unfold isW; omega)
  obtain ⟨a7, b7, m7, n7, e7⟩ := wide_of (n := C + pt + D) (by unfold isW; omega)
  have E1 := Lib.hid (show bu * pe = wN a1 b1 by rw [hA, e1])
  have E2 := Lib.hid (show (last - at0) * ra = wN a2 b2 by rw [hB, e2])
  have E3 := Lib.hid (show wN a1 b1 + wN a2 b2 = wN a3 b3 by rw [← e1, ← e2, e3])
  have E4 := Lib.hid (show lv * pe = wN a4 b4 by rw [hC, e4])
  have E5 := Lib.hid (show wN a4 b4 + wN 0 pt = wN a5 b5 by rw [← e4, ← e5]; unfold wN; omega)
  have E6 := Lib.hid (show ch * pe = wN a6 b6 by rw [hD, e6])
  have E7 := Lib.hid (show wN a5 b5 + wN a6 b6 = wN a7 b7 by rw [← e5, ← e6, e7])
  obtain ⟨r1, hr1⟩ : ∃ y, cmpI (wN a7 b7) (wN a3 b3) = y := ⟨_, rfl⟩
  obtain ⟨r2, hr2⟩ : ∃ y, cmpI (wN a5 b5) (wN a1 b1) = y := ⟨_, rfl⟩
  have d1 : decide (r1 ≤ 0) = true := decide_eq_true (by rw [← hr1]; exact cmp_le (by rw [← e7, ← e3]; omega))
  have d2 : decide (r2 ≤ 0) = true := decide_eq_true (by rw [← hr2]; exact cmp_le (by rw [← e5, ← e1]; omega))
  have R1 := Lib.hid hr1
  have R2 := Lib.hid hr2
  have hn : isU (last - at0) := by unfold isU at *; omega
  have HS := Lib.hid (show sinceV at0 last = last - at0 from if_neg (by omega))
  have HE := Lib.hid (show sinceE at0 last = 0 from if_neg (by omega))
  have kp : isU pe := by unfold isU; omega
  have kb : isU bu := by unfold isU; omega
  have kr : isU ra := by unfold isU; omega
  have kl : isU lv := by unfold isU; omega
  have kq : isU pt := by unfold isU; omega
  have k0 : isU 0 := by unfold isU; omega
  have u1 : IntKind.u64.wrap bu = bu := IntWalk.u64_in _ (by omega)
  have u2 : IntKind.u64.wrap ra = ra := IntWalk.u64_in _ (by omega)
  have u3 : IntKind.u64.wrap pe = pe := IntWalk.u64_in _ (by omega)
  have u4 : IntKind.u64.wrap lv = lv := IntWalk.u64_in _ (by omega)
  have u5 : IntKind.u64.wrap pt = pt := IntWalk.u64_in _ (by omega)
  clear hA hB hC hD hvol e1 e2 e3 e4 e5 e6 e7 hr1 hr2 hk hv hg hbp hlp hcp hb
  go_enter Try.func42, Try.ntmps42
  go_wp2_with fail
  refine (since_is HS HE ta tl).mono ?_
  rintro e w1 ⟨rfl, hb⟩
  have hB1 : Below w.heap.size w w1 := below_thru (by go_grown) hb
  have hs1 : w.heap.size ≤ w1.heap.size := hB1.size
  have x_l1 : Box w1 (w.heap.size) [.int .i64 bu, .int .i64 ra, .int .i64 pe] := (by refine Box.below ?_ hb; repeat (first | (with_reducible assumption) | (with_reducible refine Box.drew ?_) | (with_reducible refine Box.drewN ?_ _) | ((with_reducible refine Box.new ?_); simp; done) | (with_reducible apply Box.set2) | ((with_reducible apply Box.put); (with_reducible assumption); rfl) | (with_reducible refine Box.alloc ?_ _) | (with_reducible refine Box.other ?_ (by first | (dsimp only; omega) | omega) _)))
  have z_l1 := x_l1.lt
  have c_l1_0 := x_l1.c 0 _ rfl
  have f_l1_0 := x_l1.f 0 _ rfl
  have c_l1_1 := x_l1.c 1 _ rfl
  have f_l1_1 := x_l1.f 1 _ rfl
  have c_l1_2 := x_l1.c 2 _ rfl
  have f_l1_2 := x_l1.f 2 _ rfl
  have x_x1 : Box w1 (w.heap.size + 1) [.int .i64 bu, .int .i64 ra, .int .i64 pe, .int .i64 lv, .int .i64 pt, .int .u64 last] := (by refine Box.below ?_ hb; repeat (first | (with_reducible assumption) | (with_reducible refine Box.drew ?_) | (with_reducible refine Box.drewN ?_ _) | ((with_reducible refine Box.new ?_); simp; done) | (with_reducible apply Box.set2) | ((with_reducible apply Box.put); (with_reducible assumption); rfl) | (with_reducible refine Box.alloc ?_ _) | (with_reducible refine Box.other ?_ (by first | (dsimp only; omega) | omega) _)))
  have z_x1 := x_x1.lt
  have c_x1_0 := x_x1.c 0 _ rfl
  have f_x1_0 := x_x1.f 0 _ rfl
  have c_x1_1 := x_x1.c 1 _ rfl
  have f_x1_1 := x_x1.f 1 _ rfl
  have c_x1_2 := x_x1.c 2 _ rfl
  have f_x1_2 := x_x1.f 2 _ rfl
  have c_x1_3 := x_x1.c 3 _ rfl
  have f_x1_3 := x_x1.f 3 _ rfl
  have c_x1_4 := x_x1.c 4 _ rfl
  have f_x1_4 := x_x1.f 4 _ rfl
  have c_x1_5 := x_x1.c 5 _ rfl
  have f_x1_5 := x_x1.f 5 _ rfl
  have t1 := hb.size
  try simp at t1
  clear hb
  go_wp2_with fail
  refine (mul_nm (h := a1) (l := b1) _ kb kp n1 E1).mono ?_
  rintro e w2 ⟨rfl, hb⟩
  have hB2 : Below w.heap.size w w2 := below_thru (by go_grown) hb
  have hs2 : w.heap.size ≤ w2.heap.size := hB2.size
  have x_l2 : Box w2 (w.heap.size) [.int .i64 bu, .int .i64 ra, .int .i64 pe] := (by refine Box.below ?_ hb; repeat (first | (with_reducible assumption) | (with_reducible refine Box.drew ?_) | (with_reducible refine Box.drewN ?_ _) | ((with_reducible refine Box.new ?_); simp; done) | (with_reducible apply Box.set2) | ((with_reducible apply Box.put); (with_reducible assumption); rfl) | (with_reducible refine Box.alloc ?_ _) | (with_reducible refine Box.other ?_ (by first | (dsimp only; omega) | omega) _)))
  have z_l2 := x_l2.lt
  have c_l2_0 := x_l2.c 0 _ rfl
  have f_l2_0 := x_l2.f 0 _ rfl
  have c_l2_1 := x_l2.c 1 _ rfl
  have f_l2_1 := x_l2.f 1 _ rfl
  have c_l2_2 := x_l2.c 2 _ rfl
  have f_l2_2 := x_l2.f 2 _ rfl
  have x_x2 : Box w2 (w.heap.size + 1) [.int .i64 bu, .int .i64 ra, .int .i64 pe, .int .i64 lv, .int .i64 pt, .int .u64 last] := (by refine Box.below ?_ hb; repeat (first | (with_reducible assumption) | (with_reducible refine Box.drew ?_) | (with_reducible refine Box.drewN ?_ _) | ((with_reducible refine Box.new ?_); simp; done) | (with_reducible apply Box.set2) | ((with_reducible apply Box.put); (with_reducible assumption); rfl) | (with_reducible refine Box.alloc ?_ _) | (with_reducible refine Box.other ?_ (by first | (dsimp only; omega) | omega) _)))
  have z_x2 := x_x2.lt
  have c_x2_0 := x_x2.c 0 _ rfl
  have f_x2_0 := x_x2.f 0 _ rfl
  have c_x2_1 := x_x2.c 1 _ rfl
  have f_x2_1 := x_x2.f 1 _ rfl
  have c_x2_2 := x_x2.c 2 _ rfl
  have f_x2_2 := x_x2.f 2 _ rfl
  have c_x2_3 := x_x2.c 3 _ rfl
  have f_x2_3 := x_x2.f 3 _ rfl
  have c_x2_4 := x_x2.c 4 _ rfl
  have f_x2_4 := x_x2.f 4 _ rfl
  have c_x2_5 := x_x2.c 5 _ rfl
  have f_x2_5 := x_x2.f 5 _ rfl
  have t2 := hb.size
  try simp at t2
  clear hb hB1 hs1 x_l1 z_l1 c_l1_0 c_l1_1 c_l1_2 f_l1_0 f_l1_1 f_l1_2 x_x1 z_x1 c_x1_0 c_x1_1 c_x1_2 c_x1_3 c_x1_4 c_x1_5 f_x1_0 f_x1_1 f_x1_2 f_x1_3 f_x1_4 f_x1_5
  go_upto_region 3 with fail
  have x_d20 : Box (w2.alloc (.cells #[.int .u64 a1, .int .u64 b1] 86)) w2.heap.size [.int .u64 a1, .int .u64 b1] := Box.new rfl
  have x_l20 := Box.alloc x_l2 (.cells #[.int .u64 a1, .int .u64 b1] 86)
  have x_x20 := Box.alloc x_x2 (.cells #[.int .u64 a1, .int .u64 b1] 86)
  have hB20 := hB2.alloc hs2 (.cells #[.int .u64 a1, .int .u64 b1] 86)
  have hs20 := hB20.size
  obtain ⟨w20, h9⟩ : ∃ W, w2.alloc (.cells #[.int .u64 a1, .int .u64 b1] 86) = W := ⟨_, rfl⟩
  rw [h9] at x_d20 x_l20 x_x20 hB20 hs20 ⊢
  clear hB2 hs2 h9 x_l2 z_l2 c_l2_0 c_l2_1 c_l2_2 f_l2_0 f_l2_1 f_l2_2 x_x2 z_x2 c_x2_0 c_x2_1 c_x2_2 c_x2_3 c_x2_4 c_x2_5 f_x2_0 f_x2_1 f_x2_2 f_x2_3 f_x2_4 f_x2_5
  have z_l20 := x_l20.lt
  have c_l20_0 := x_l20.c 0 _ rfl; have f_l20_0 := x_l20.f 0 _ rfl
  have c_l20_1 := x_l20.c 1 _ rfl; have f_l20_1 := x_l20.f 1 _ rfl
  have c_l20_2 := x_l20.c 2 _ rfl; have f_l20_2 := x_l20.f 2 _ rfl
  have z_x20 := x_x20.lt
  have c_x20_0 := x_x20.c 0 _ rfl; have f_x20_0 := x_x20.f 0 _ rfl
  have c_x20_1 := x_x20.c 1 _ rfl; have f_x20_1 := x_x20.f 1 _ rfl
  have c_x20_2 := x_x20.c 2 _ rfl; have f_x20_2 := x_x20.f 2 _ rfl
  have c_x20_3 := x_x20.c 3 _ rfl; have f_x20_3 := x_x20.f 3 _ rfl
  have c_x20_4 := x_x20.c 4 _ rfl; have f_x20_4 := x_x20.f 4 _ rfl
  have c_x20_5 := x_x20.c 5 _ rfl; have f_x20_5 := x_x20.f 5 _ rfl
  have z_d20 := x_d20.lt
  have c_d20_0 := x_d20.c 0 _ rfl; have f_d20_0 := x_d20.f 0 _ rfl
  have c_d20_1 := x_d20.c 1 _ rfl; have f_d20_1 := x_d20.f 1 _ rfl
  go_upto_region 3 with fail
  go_cut [14, 15] (fun p q0 wx => ∃ b : Nat, p = .pointer (some ⟨b, 0, none⟩) ∧ q0 = .int .i64 0 ∧ Box wx b [.int .u64 a3, .int .u64 b3] ∧ w20.heap.size ≤ b ∧ Box wx (w.heap.size) [.int .i64 bu, .int .i64 ra, .int .i64 pe] ∧ Box wx (w.heap.size + 1) [.int .i64 bu, .int .i64 ra, .int .i64 pe, .int .i64 lv, .int .i64 pt, .int .u64 last] ∧ Box wx (w2.heap.size) [.int .u64 a1, .int .u64 b1] ∧ Below w.heap.size w wx)
  case first =>
    go_region_held3 (fun w' => w'.cell? ⟨w2.heap.size, 0, none⟩ = some (.int .u64 a1) ∧ w'.cell? ⟨w2.heap.size, 1, none⟩ = some (.int .u64 b1) ∧ w'.cell? ⟨w.heap.size, 1, none⟩ = some (.int .i64 ra)) (((repeat' apply And.intro) <;> (first | (go_keep; done) | go_cell)))
      (first
        | (go_at_call 70; refine (mul_nm (h := a2) (l := b2) _ hn kr n2 E2).mono ?_; rintro e v1 ⟨rfl, hv1⟩; have hV1 : Below w.heap.size w v1 := below_thru (by go_grown) hv1; have hs_v1 : w.heap.size ≤ v1.heap.size := hV1.size; have x_l_v1 : Box v1 (w.heap.size) [.int .i64 bu, .int .i64 ra, .int .i64 pe] := (by refine Box.below ?_ hv1; repeat (first | (with_reducible assumption) | (with_reducible refine Box.drew ?_) | (with_reducible refine Box.drewN ?_ _) | ((with_reducible refine Box.new ?_); simp; done) | (with_reducible apply Box.set2) | ((with_reducible apply Box.put); (with_reducible assumption); rfl) | (with_reducible refine Box.alloc ?_ _) | (with_reducible refine Box.other ?_ (by first | (dsimp only; omega) | omega) _))); have z_l_v1 := x_l_v1.lt; have c_l_v1_0 := x_l_v1.c 0 _ rfl; have f_l_v1_0 := x_l_v1.f 0 _ rfl; have c_l_v1_1 := x_l_v1.c 1 _ rfl; have f_l_v1_1 := x_l_v1.f 1 _ rfl; have c_l_v1_2 := x_l_v1.c 2 _ rfl; have f_l_v1_2 := x_l_v1.f 2 _ rfl; have x_x_v1 : Box v1 (w.heap.size + 1) [.int .i64 bu, .int .i64 ra, .int .i64 pe, .int .i64 lv, .int .i64 pt, .int .u64 last] := (by refine Box.below ?_ hv1; repeat (first | (with_reducible assumption) | (with_reducible refine Box.drew ?_) | (with_reducible refine Box.drewN ?_ _) | ((with_reducible refine Box.new ?_); simp; done) | (with_reducible apply Box.set2) | ((with_reducible apply Box.put); (with_reducible assumption); rfl) | (with_reducible refine Box.alloc ?_ _) | (with_reducible refine Box.other ?_ (by first | (dsimp only; omega) | omega) _))); have z_x_v1 := x_x_v1.lt; have c_x_v1_0 := x_x_v1.c 0 _ rfl; have f_x_v1_0 := x_x_v1.f 0 _ rfl; have c_x_v1_1 := x_x_v1.c 1 _ rfl; have f_x_v1_1 := x_x_v1.f 1 _ rfl; have c_x_v1_2 := x_x_v1.c 2 _ rfl; have f_x_v1_2 := x_x_v1.f 2 _ rfl; have c_x_v1_3 := x_x_v1.c 3 _ rfl; have f_x_v1_3 := x_x_v1.f 3 _ rfl; have c_x_v1_4 := x_x_v1.c 4 _ rfl; have f_x_v1_4 := x_x_v1.f 4 _ rfl; have c_x_v1_5 := x_x_v1.c 5 _ rfl; have f_x_v1_5 := x_x_v1.f 5 _ rfl; have x_d_v1 : Box v1 (w2.heap.size) [.int .u64 a1, .int .u64 b1] := (by refine Box.below ?_ hv1; repeat (first | (with_reducible assumption) | (with_reducible refine Box.drew ?_) | (with_reducible refine Box.drewN ?_ _) | ((with_reducible refine Box.new ?_); simp; done) | (with_reducible apply Box.set2) | ((with_reducible apply Box.put); (with_reducible assumption); rfl) | (with_reducible refine Box.alloc ?_ _) | (with_reducible refine Box.other ?_ (by first | (dsimp only; omega) | omega) _))); have z_d_v1 := x_d_v1.lt; have c_d_v1_0 := x_d_v1.c 0 _ rfl; have f_d_v1_0 := x_d_v1.f 0 _ rfl; have c_d_v1_1 := x_d_v1.c 1 _ rfl; have f_d_v1_1 := x_d_v1.f 1 _ rfl; have t_v1 := hv1.size; (try simp at t_v1); (first | (with_reducible have y := Box.below (Box.drew (Box.new rfl)) hv1) | (with_reducible have y := Box.below (Box.new rfl) hv1) | (with_reducible have y := Box.below y hv1) | (have y := trivial)); (try simp only [World.size_alloc] at y); try (have yz := Box.lt y; have y0 := Box.c y 0 _ rfl; have yf0 := Box.f y 0 _ rfl; have y1 := Box.c y 1 _ rfl; have yf1 := Box.f y 1 _ rfl))
        | (go_at_call 71; refine (add_nm (h := a3) (l := b3) _ m1 n1 m2 n2 m3 n3 E3).mono ?_; rintro e v2 ⟨rfl, hv2⟩; have hV2 : Below w.heap.size w v2 := below_thru (by go_grown) hv2; have hs_v2 : w.heap.size ≤ v2.heap.size := hV2.size; have x_l_v2 : Box v2 (w.heap.size) [.int .i64 bu, .int .i64 ra, .int .i64 pe] := (by refine Box.below ?_ hv2; repeat (first | (with_reducible assumption) | (with_reducible refine Box.drew ?_) | (with_reducible refine Box.drewN ?_ _) | ((with_reducible refine Box.new ?_); simp; done) | (with_reducible apply Box.set2) | ((with_reducible apply Box.put); (with_reducible assumption); rfl) | (with_reducible refine Box.alloc ?_ _) | (with_reducible refine Box.other ?_ (by first | (dsimp only; omega) | omega) _))); have z_l_v2 := x_l_v2.lt; have c_l_v2_0 := x_l_v2.c 0 _ rfl; have f_l_v2_0 := x_l_v2.f 0 _ rfl; have c_l_v2_1 := x_l_v2.c 1 _ rfl; have f_l_v2_1 := x_l_v2.f 1 _ rfl; have c_l_v2_2 := x_l_v2.c 2 _ rfl; have f_l_v2_2 := x_l_v2.f 2 _ rfl; have x_x_v2 : Box v2 (w.heap.size + 1) [.int .i64 bu, .int .i64 ra, .int .i64 pe, .int .i64 lv, .int .i64 pt, .int .u64 last] := (by refine Box.below ?_ hv2; repeat (first | (with_reducible assumption) | (with_reducible refine Box.drew ?_) | (with_reducible refine Box.drewN ?_ _) | ((with_reducible refine Box.new ?_); simp; done) | (with_reducible apply Box.set2) | ((with_reducible apply Box.put); (with_reducible assumption); rfl) | (with_reducible refine Box.alloc ?_ _) | (with_reducible refine Box.other ?_ (by first | (dsimp only; omega) | omega) _))); have z_x_v2 := x_x_v2.lt; have c_x_v2_0 := x_x_v2.c 0 _ rfl; have f_x_v2_0 := x_x_v2.f 0 _ rfl; have c_x_v2_1 := x_x_v2.c 1 _ rfl; have f_x_v2_1 := x_x_v2.f 1 _ rfl; have c_x_v2_2 := x_x_v2.c 2 _ rfl; have f_x_v2_2 := x_x_v2.f 2 _ rfl; have c_x_v2_3 := x_x_v2.c 3 _ rfl; have f_x_v2_3 := x_x_v2.f 3 _ rfl; have c_x_v2_4 := x_x_v2.c 4 _ rfl; have f_x_v2_4 := x_x_v2.f 4 _ rfl; have c_x_v2_5 := x_x_v2.c 5 _ rfl; have f_x_v2_5 := x_x_v2.f 5 _ rfl; have x_d_v2 : Box v2 (w2.heap.size) [.int .u64 a1, .int .u64 b1] := (by refine Box.below ?_ hv2; repeat (first | (with_reducible assumption) | (with_reducible refine Box.drew ?_) | (with_reducible refine Box.drewN ?_ _) | ((with_reducible refine Box.new ?_); simp; done) | (with_reducible apply Box.set2) | ((with_reducible apply Box.put); (with_reducible assumption); rfl) | (with_reducible refine Box.alloc ?_ _) | (with_reducible refine Box.other ?_ (by first | (dsimp only; omega) | omega) _))); have z_d_v2 := x_d_v2.lt; have c_d_v2_0 := x_d_v2.c 0 _ rfl; have f_d_v2_0 := x_d_v2.f 0 _ rfl; have c_d_v2_1 := x_d_v2.c 1 _ rfl; have f_d_v2_1 := x_d_v2.f 1 _ rfl; have t_v2 := hv2.size; (try simp at t_v2); (first | (with_reducible have y := Box.below (Box.drew (Box.new rfl)) hv2) | (with_reducible have y := Box.below (Box.new rfl) hv2) | (with_reducible have y := Box.below y hv2) | (have y := trivial)); (try simp only [World.size_alloc] at y); try (have yz := Box.lt y; have y0 := Box.c y 0 _ rfl; have yf0 := Box.f y 0 _ rfl; have y1 := Box.c y 1 _ rfl; have yf1 := Box.f y 1 _ rfl)))
    all_goals
      go_wp2_with fail
      go_meet
      refine ⟨_, rfl, rfl, ?_, ?_, ?_, ?_, ?_, ?_⟩
      all_goals first
        | (first | (dsimp only; omega) | omega | (simp; omega))
        | ((repeat (first | (with_reducible assumption) | (with_reducible refine Box.drew ?_) | (with_reducible refine Box.drewN ?_ _) | ((with_reducible refine Box.new ?_); simp; done) | (with_reducible apply Box.set2) | (with_reducible refine Box.alloc ?_ _) | (with_reducible refine Box.other ?_ (by first | (dsimp only; omega) | omega) _))); done)
        | (go_grown; done)
  case rest =>
    obtain ⟨b21, rfl, rfl, x_c21, lo_c21, x_l21, x_x21, x_d21, hB21⟩ := hcut
    obtain ⟨w21, rfl⟩ : ∃ u : World, u = wc := ⟨_, rfl⟩
    have o_c_l := Nat.lt_of_lt_of_le z_l20 lo_c21
    have o_c_x := Nat.lt_of_lt_of_le z_x20 lo_c21
    have o_c_d := Nat.lt_of_lt_of_le z_d20 lo_c21
    clear hB20 hs20 x_l20 z_l20 c_l20_0 c_l20_1 c_l20_2 f_l20_0 f_l20_1 f_l20_2 x_x20 z_x20 c_x20_0 c_x20_1 c_x20_2 c_x20_3 c_x20_4 c_x20_5 f_x20_0 f_x20_1 f_x20_2 f_x20_3 f_x20_4 f_x20_5 x_d20 z_d20 c_d20_0 c_d20_1 f_d20_0 f_d20_1
    have hs21 : w.heap.size ≤ w21.heap.size := hB21.size
    have z_l21 := x_l21.lt
    have c_l21_0 := x_l21.c 0 _ rfl; have f_l21_0 := x_l21.f 0 _ rfl
    have c_l21_1 := x_l21.c 1 _ rfl; have f_l21_1 := x_l21.f 1 _ rfl
    have c_l21_2 := x_l21.c 2 _ rfl; have f_l21_2 := x_l21.f 2 _ rfl
    have z_x21 := x_x21.lt
    have c_x21_0 := x_x21.c 0 _ rfl; have f_x21_0 := x_x21.f 0 _ rfl
    have c_x21_1 := x_x21.c 1 _ rfl; have f_x21_1 := x_x21.f 1 _ rfl
    have c_x21_2 := x_x21.c 2 _ rfl; have f_x21_2 := x_x21.f 2 _ rfl
    have c_x21_3 := x_x21.c 3 _ rfl; have f_x21_3 := x_x21.f 3 _ rfl
    have c_x21_4 := x_x21.c 4 _ rfl; have f_x21_4 := x_x21.f 4 _ rfl
    have c_x21_5 := x_x21.c 5 _ rfl; have f_x21_5 := x_x21.f 5 _ rfl
    have z_d21 := x_d21.lt
    have c_d21_0 := x_d21.c 0 _ rfl; have f_d21_0 := x_d21.f 0 _ rfl
    have c_d21_1 := x_d21.c 1 _ rfl; have f_d21_1 := x_d21.f 1 _ rfl
    have z_c21 := x_c21.lt
    have c_c21_0 := x_c21.c 0 _ rfl; have f_c21_0 := x_c21.f 0 _ rfl
    have c_c21_1 := x_c21.c 1 _ rfl; have f_c21_1 := x_c21.f 1 _ rfl
    go_upto_region 4 with fail
    go_cut [16, 17] (fun p q0 wx => ∃ b : Nat, p = .pointer (some ⟨b, 0, none⟩) ∧ q0 = .int .i64 0 ∧ Box wx b [.int .u64 a5, .int .u64 b5] ∧ w21.heap.size ≤ b ∧ Box wx (w.heap.size) [.int .i64 bu, .int .i64 ra, .int .i64 pe] ∧ Box wx (w.heap.size + 1) [.int .i64 bu, .int .i64 ra, .int .i64 pe, .int .i64 lv, .int .i64 pt, .int .u64 last] ∧ Box wx (w2.heap.size) [.int .u64 a1, .int .u64 b1] ∧ Box wx (b21) [.int .u64 a3, .int .u64 b3] ∧ Below w.heap.size w wx)
    case first =>
      go_region_held3 (fun w' => w'.cell? ⟨w.heap.size + 1, 3, none⟩ = some (.int .i64 lv) ∧ w'.cell? ⟨w.heap.size + 1, 4, none⟩ = some (.int .i64 pt) ∧ w'.cell? ⟨w.heap.size, 2, none⟩ = some (.int .i64 pe)) (((repeat' apply And.intro) <;> (first | (go_keep; done) | go_cell)))
        (first
          | (go_at_call 70; refine (mul_nm (h := a4) (l := b4) _ kl kp n4 E4).mono ?_; rintro e v1 ⟨rfl, hv1⟩; have hV1 : Below w.heap.size w v1 := below_thru (by go_grown) hv1; have hs_v1 : w.heap.size ≤ v1.heap.size := hV1.size; have x_l_v1 : Box v1 (w.heap.size) [.int .i64 bu, .int .i64 ra, .int .i64 pe] := (by refine Box.below ?_ hv1; repeat (first | (with_reducible assumption) | (with_reducible refine Box.drew ?_) | (with_reducible refine Box.drewN ?_ _) | ((with_reducible refine Box.new ?_); simp; done) | (with_reducible apply Box.set2) | ((with_reducible apply Box.put); (with_reducible assumption); rfl) | (with_reducible refine Box.alloc ?_ _) | (with_reducible refine Box.other ?_ (by first | (dsimp only; omega) | omega) _))); have z_l_v1 := x_l_v1.lt; have c_l_v1_0 := x_l_v1.c 0 _ rfl; have f_l_v1_0 := x_l_v1.f 0 _ rfl; have c_l_v1_1 := x_l_v1.c 1 _ rfl; have f_l_v1_1 := x_l_v1.f 1 _ rfl; have c_l_v1_2 := x_l_v1.c 2 _ rfl; have f_l_v1_2 := x_l_v1.f 2 _ rfl; have x_x_v1 : Box v1 (w.heap.size + 1) [.int .i64 bu, .int .i64 ra, .int .i64 pe, .int .i64 lv, .int .i64 pt, .int .u64 last] := (by refine Box.below ?_ hv1; repeat (first | (with_reducible assumption) | (with_reducible refine Box.drew ?_) | (with_reducible refine Box.drewN ?_ _) | ((with_reducible refine Box.new ?_); simp; done) | (with_reducible apply Box.set2) | ((with_reducible apply Box.put); (with_reducible assumption); rfl) | (with_reducible refine Box.alloc ?_ _) | (with_reducible refine Box.other ?_ (by first | (dsimp only; omega) | omega) _))); have z_x_v1 := x_x_v1.lt; have c_x_v1_0 := x_x_v1.c 0 _ rfl; have f_x_v1_0 := x_x_v1.f 0 _ rfl; have c_x_v1_1 := x_x_v1.c 1 _ rfl; have f_x_v1_1 := x_x_v1.f 1 _ rfl; have c_x_v1_2 := x_x_v1.c 2 _ rfl; have f_x_v1_2 := x_x_v1.f 2 _ rfl; have c_x_v1_3 := x_x_v1.c 3 _ rfl; have f_x_v1_3 := x_x_v1.f 3 _ rfl; have c_x_v1_4 := x_x_v1.c 4 _ rfl; have f_x_v1_4 := x_x_v1.f 4 _ rfl; have c_x_v1_5 := x_x_v1.c 5 _ rfl; have f_x_v1_5 := x_x_v1.f 5 _ rfl; have x_d_v1 : Box v1 (w2.heap.size) [.int .u64 a1, .int .u64 b1] := (by refine Box.below ?_ hv1; repeat (first | (with_reducible assumption) | (with_reducible refine Box.drew ?_) | (with_reducible refine Box.drewN ?_ _) | ((with_reducible refine Box.new ?_); simp; done) | (with_reducible apply Box.set2) | ((with_reducible apply Box.put); (with_reducible assumption); rfl) | (with_reducible refine Box.alloc ?_ _) | (with_reducible refine Box.other ?_ (by first | (dsimp only; omega) | omega) _))); have z_d_v1 := x_d_v1.lt; have c_d_v1_0 := x_d_v1.c 0 _ rfl; have f_d_v1_0 := x_d_v1.f 0 _ rfl; have c_d_v1_1 := x_d_v1.c 1 _ rfl; have f_d_v1_1 := x_d_v1.f 1 _ rfl; have x_c_v1 : Box v1 (b21) [.int .u64 a3, .int .u64 b3] := (by refine Box.below ?_ hv1; repeat (first | (with_reducible assumption) | (with_reducible refine Box.drew ?_) | (with_reducible refine Box.drewN ?_ _) | ((with_reducible refine Box.new ?_); simp; done) | (with_reducible apply Box.set2) | ((with_reducible apply Box.put); (with_reducible assumption); rfl) | (with_reducible refine Box.alloc ?_ _) | (with_reducible refine Box.other ?_ (by first | (dsimp only; omega) | omega) _))); have z_c_v1 := x_c_v1.lt; have c_c_v1_0 := x_c_v1.c 0 _ rfl; have f_c_v1_0 := x_c_v1.f 0 _ rfl; have c_c_v1_1 := x_c_v1.c 1 _ rfl; have f_c_v1_1 := x_c_v1.f 1 _ rfl; have t_v1 := hv1.size; (try simp at t_v1); (first | (with_reducible have y := Box.below (Box.drew (Box.new rfl)) hv1) | (with_reducible have y := Box.below (Box.new rfl) hv1) | (with_reducible have y := Box.below y hv1) | (have y := trivial)); (try simp only [World.size_alloc] at y); try (have yz := Box.lt y; have y0 := Box.c y 0 _ rfl; have yf0 := Box.f y 0 _ rfl; have y1 := Box.c y 1 _ rfl; have yf1 := Box.f y 1 _ rfl))
          | (go_at_call 52; refine (of_any pt _).mono ?_; rintro e v2 ⟨rfl, hv2⟩; have hV2 : Below w.heap.size w v2 := below_thru (by go_grown) hv2; have hs_v2 : w.heap.size ≤ v2.heap.size := hV2.size; have x_l_v2 : Box v2 (w.heap.size) [.int .i64 bu, .int .i64 ra, .int .i64 pe] := (by refine Box.below ?_ hv2; repeat (first | (with_reducible assumption) | (with_reducible refine Box.drew ?_) | (with_reducible refine Box.drewN ?_ _) | ((with_reducible refine Box.new ?_); simp; done) | (with_reducible apply Box.set2) | ((with_reducible apply Box.put); (with_reducible assumption); rfl) | (with_reducible refine Box.alloc ?_ _) | (with_reducible refine Box.other ?_ (by first | (dsimp only; omega) | omega) _))); have z_l_v2 := x_l_v2.lt; have c_l_v2_0 := x_l_v2.c 0 _ rfl; have f_l_v2_0 := x_l_v2.f 0 _ rfl; have c_l_v2_1 := x_l_v2.c 1 _ rfl; have f_l_v2_1 := x_l_v2.f 1 _ rfl; have c_l_v2_2 := x_l_v2.c 2 _ rfl; have f_l_v2_2 := x_l_v2.f 2 _ rfl; have x_x_v2 : Box v2 (w.heap.size + 1) [.int .i64 bu, .int .i64 ra, .int .i64 pe, .int .i64 lv, .int .i64 pt, .int .u64 last] := (by refine Box.below ?_ hv2; repeat (first | (with_reducible assumption) | (with_reducible refine Box.drew ?_) | (with_reducible refine Box.drewN ?_ _) | ((with_reducible refine Box.new ?_); simp; done) | (with_reducible apply Box.set2) | ((with_reducible apply Box.put); (with_reducible assumption); rfl) | (with_reducible refine Box.alloc ?_ _) | (with_reducible refine Box.other ?_ (by first | (dsimp only; omega) | omega) _))); have z_x_v2 := x_x_v2.lt; have c_x_v2_0 := x_x_v2.c 0 _ rfl; have f_x_v2_0 := x_x_v2.f 0 _ rfl; have c_x_v2_1 := x_x_v2.c 1 _ rfl; have f_x_v2_1 := x_x_v2.f 1 _ rfl; have c_x_v2_2 := x_x_v2.c 2 _ rfl; have f_x_v2_2 := x_x_v2.f 2 _ rfl; have c_x_v2_3 := x_x_v2.c 3 _ rfl; have f_x_v2_3 := x_x_v2.f 3 _ rfl; have c_x_v2_4 := x_x_v2.c 4 _ rfl; have f_x_v2_4 := x_x_v2.f 4 _ rfl; have c_x_v2_5 := x_x_v2.c 5 _ rfl; have f_x_v2_5 := x_x_v2.f 5 _ rfl; have x_d_v2 : Box v2 (w2.heap.size) [.int .u64 a1, .int .u64 b1] := (by refine Box.below ?_ hv2; repeat (first | (with_reducible assumption) | (with_reducible refine Box.drew ?_) | (with_reducible refine Box.drewN ?_ _) | ((with_reducible refine Box.new ?_); simp; done) | (with_reducible apply Box.set2) | ((with_reducible apply Box.put); (with_reducible assumption); rfl) | (with_reducible refine Box.alloc ?_ _) | (with_reducible refine Box.other ?_ (by first | (dsimp only; omega) | omega) _))); have z_d_v2 := x_d_v2.lt; have c_d_v2_0 := x_d_v2.c 0 _ rfl; have f_d_v2_0 := x_d_v2.f 0 _ rfl; have c_d_v2_1 := x_d_v2.c 1 _ rfl; have f_d_v2_1 := x_d_v2.f 1 _ rfl; have x_c_v2 : Box v2 (b21) [.int .u64 a3, .int .u64 b3] := (by refine Box.below ?_ hv2; repeat (first | (with_reducible assumption) | (with_reducible refine Box.drew ?_) | (with_reducible refine Box.drewN ?_ _) | ((with_reducible refine Box.new ?_); simp; done) | (with_reducible apply Box.set2) | ((with_reducible apply Box.put); (with_reducible assumption); rfl) | (with_reducible refine Box.alloc ?_ _) | (with_reducible refine Box.other ?_ (by first | (dsimp only; omega) | omega) _))); have z_c_v2 := x_c_v2.lt; have c_c_v2_0 := x_c_v2.c 0 _ rfl; have f_c_v2_0 := x_c_v2.f 0 _ rfl; have c_c_v2_1 := x_c_v2.c 1 _ rfl; have f_c_v2_1 := x_c_v2.f 1 _ rfl; have t_v2 := hv2.size; (try simp at t_v2); (first | (with_reducible have y := Box.below (Box.drew (Box.new rfl)) hv2) | (with_reducible have y := Box.below (Box.new rfl) hv2) | (with_reducible have y := Box.below y hv2) | (have y := trivial)); (try simp only [World.size_alloc] at y); try (have yz := Box.lt y; have y0 := Box.c y 0 _ rfl; have yf0 := Box.f y 0 _ rfl; have y1 := Box.c y 1 _ rfl; have yf1 := Box.f y 1 _ rfl))
          | (go_at_call 71; refine (add_nm (h := a5) (l := b5) _ m4 n4 k0 kq m5 n5 E5).mono ?_; rintro e v3 ⟨rfl, hv3⟩; have hV3 : Below w.heap.size w v3 := below_thru (by go_grown) hv3; have hs_v3 : w.heap.size ≤ v3.heap.size := hV3.size; have x_l_v3 : Box v3 (w.heap.size) [.int .i64 bu, .int .i64 ra, .int .i64 pe] := (by refine Box.below ?_ hv3; repeat (first | (with_reducible assumption) | (with_reducible refine Box.drew ?_) | (with_reducible refine Box.drewN ?_ _) | ((with_reducible refine Box.new ?_); simp; done) | (with_reducible apply Box.set2) | ((with_reducible apply Box.put); (with_reducible assumption); rfl) | (with_reducible refine Box.alloc ?_ _) | (with_reducible refine Box.other ?_ (by first | (dsimp only; omega) | omega) _))); have z_l_v3 := x_l_v3.lt; have c_l_v3_0 := x_l_v3.c 0 _ rfl; have f_l_v3_0 := x_l_v3.f 0 _ rfl; have c_l_v3_1 := x_l_v3.c 1 _ rfl; have f_l_v3_1 := x_l_v3.f 1 _ rfl; have c_l_v3_2 := x_l_v3.c 2 _ rfl; have f_l_v3_2 := x_l_v3.f 2 _ rfl; have x_x_v3 : Box v3 (w.heap.size + 1) [.int .i64 bu, .int .i64 ra, .int .i64 pe, .int .i64 lv, .int .i64 pt, .int .u64 last] := (by refine Box.below ?_ hv3; repeat (first | (with_reducible assumption) | (with_reducible refine Box.drew ?_) | (with_reducible refine Box.drewN ?_ _) | ((with_reducible refine Box.new ?_); simp; done) | (with_reducible apply Box.set2) | ((with_reducible apply Box.put); (with_reducible assumption); rfl) | (with_reducible refine Box.alloc ?_ _) | (with_reducible refine Box.other ?_ (by first | (dsimp only; omega) | omega) _))); have z_x_v3 := x_x_v3.lt; have c_x_v3_0 := x_x_v3.c 0 _ rfl; have f_x_v3_0 := x_x_v3.f 0 _ rfl; have c_x_v3_1 := x_x_v3.c 1 _ rfl; have f_x_v3_1 := x_x_v3.f 1 _ rfl; have c_x_v3_2 := x_x_v3.c 2 _ rfl; have f_x_v3_2 := x_x_v3.f 2 _ rfl; have c_x_v3_3 := x_x_v3.c 3 _ rfl; have f_x_v3_3 := x_x_v3.f 3 _ rfl; have c_x_v3_4 := x_x_v3.c 4 _ rfl; have f_x_v3_4 := x_x_v3.f 4 _ rfl; have c_x_v3_5 := x_x_v3.c 5 _ rfl; have f_x_v3_5 := x_x_v3.f 5 _ rfl; have x_d_v3 : Box v3 (w2.heap.size) [.int .u64 a1, .int .u64 b1] := (by refine Box.below ?_ hv3; repeat (first | (with_reducible assumption) | (with_reducible refine Box.drew ?_) | (with_reducible refine Box.drewN ?_ _) | ((with_reducible refine Box.new ?_); simp; done) | (with_reducible apply Box.set2) | ((with_reducible apply Box.put); (with_reducible assumption); rfl) | (with_reducible refine Box.alloc ?_ _) | (with_reducible refine Box.other ?_ (by first | (dsimp only; omega) | omega) _))); have z_d_v3 := x_d_v3.lt; have c_d_v3_0 := x_d_v3.c 0 _ rfl; have f_d_v3_0 := x_d_v3.f 0 _ rfl; have c_d_v3_1 := x_d_v3.c 1 _ rfl; have f_d_v3_1 := x_d_v3.f 1 _ rfl; have x_c_v3 : Box v3 (b21) [.int .u64 a3, .int .u64 b3] := (by refine Box.below ?_ hv3; repeat (first | (with_reducible assumption) | (with_reducible refine Box.drew ?_) | (with_reducible refine Box.drewN ?_ _) | ((with_reducible refine Box.new ?_); simp; done) | (with_reducible apply Box.set2) | ((with_reducible apply Box.put); (with_reducible assumption); rfl) | (with_reducible refine Box.alloc ?_ _) | (with_reducible refine Box.other ?_ (by first | (dsimp only; omega) | omega) _))); have z_c_v3 := x_c_v3.lt; have c_c_v3_0 := x_c_v3.c 0 _ rfl; have f_c_v3_0 := x_c_v3.f 0 _ rfl; have c_c_v3_1 := x_c_v3.c 1 _ rfl; have f_c_v3_1 := x_c_v3.f 1 _ rfl; have t_v3 := hv3.size; (try simp at t_v3); (first | (with_reducible have y := Box.below (Box.drew (Box.new rfl)) hv3) | (with_reducible have y := Box.below (Box.new rfl) hv3) | (with_reducible have y := Box.below y hv3) | (have y := trivial)); (try simp only [World.size_alloc] at y); try (have yz := Box.lt y; have y0 := Box.c y 0 _ rfl; have yf0 := Box.f y 0 _ rfl; have y1 := Box.c y 1 _ rfl; have yf1 := Box.f y 1 _ rfl)))
      all_goals
        go_wp2_with fail
        go_meet
        refine ⟨_, rfl, rfl, ?_, ?_, ?_, ?_, ?_, ?_, ?_⟩
        all_goals first
          | (first | (dsimp only; omega) | omega | (simp; omega))
          | ((repeat (first | (with_reducible assumption) | (with_reducible refine Box.drew ?_) | (with_reducible refine Box.drewN ?_ _) | ((with_reducible refine Box.new ?_); simp; done) | (with_reducible apply Box.set2) | (with_reducible refine Box.alloc ?_ _) | (with_reducible refine Box.other ?_ (by first | (dsimp only; omega) | omega) _))); done)
          | (go_grown; done)
    case rest =>
      obtain ⟨b22, rfl, rfl, x_h22, lo_h22, x_l22, x_x22, x_d22, x_c22, hB22⟩ := hcut
      obtain ⟨w22, rfl⟩ : ∃ u : World, u = wc := ⟨_, rfl⟩
      have o_h_l := Nat.lt_of_lt_of_le z_l21 lo_h22
      have o_h_x := Nat.lt_of_lt_of_le z_x21 lo_h22
      have o_h_d := Nat.lt_of_lt_of_le z_d21 lo_h22
      have o_h_c := Nat.lt_of_lt_of_le z_c21 lo_h22
      clear hB21 hs21 x_l21 z_l21 c_l21_0 c_l21_1 c_l21_2 f_l21_0 f_l21_1 f_l21_2 x_x21 z_x21 c_x21_0 c_x21_1 c_x21_2 c_x21_3 c_x21_4 c_x21_5 f_x21_0 f_x21_1 f_x21_2 f_x21_3 f_x21_4 f_x21_5 x_d21 z_d21 c_d21_0 c_d21_1 f_d21_0 f_d21_1 x_c21 z_c21 c_c21_0 c_c21_1 f_c21_0 f_c21_1
      have hs22 : w.heap.size ≤ w22.heap.size := hB22.size
      have z_l22 := x_l22.lt
      have c_l22_0 := x_l22.c 0 _ rfl; have f_l22_0 := x_l22.f 0 _ rfl
      have c_l22_1 := x_l22.c 1 _ rfl; have f_l22_1 := x_l22.f 1 _ rfl
      have c_l22_2 := x_l22.c 2 _ rfl; have f_l22_2 := x_l22.f 2 _ rfl
      have z_x22 := x_x22.lt
      have c_x22_0 := x_x22.c 0 _ rfl; have f_x22_0 := x_x22.f 0 _ rfl
      have c_x22_1 := x_x22.c 1 _ rfl; have f_x22_1 := x_x22.f 1 _ rfl
      have c_x22_2 := x_x22.c 2 _ rfl; have f_x22_2 := x_x22.f 2 _ rfl
      have c_x22_3 := x_x22.c 3 _ rfl; have f_x22_3 := x_x22.f 3 _ rfl
      have c_x22_4 := x_x22.c 4 _ rfl; have f_x22_4 := x_x22.f 4 _ rfl
      have c_x22_5 := x_x22.c 5 _ rfl; have f_x22_5 := x_x22.f 5 _ rfl
      have z_d22 := x_d22.lt
      have c_d22_0 := x_d22.c 0 _ rfl; have f_d22_0 := x_d22.f 0 _ rfl
      have c_d22_1 := x_d22.c 1 _ rfl; have f_d22_1 := x_d22.f 1 _ rfl
      have z_c22 := x_c22.lt
      have c_c22_0 := x_c22.c 0 _ rfl; have f_c22_0 := x_c22.f 0 _ rfl
      have c_c22_1 := x_c22.c 1 _ rfl; have f_c22_1 := x_c22.f 1 _ rfl
      have z_h22 := x_h22.lt
      have c_h22_0 := x_h22.c 0 _ rfl; have f_h22_0 := x_h22.f 0 _ rfl
      have c_h22_1 := x_h22.c 1 _ rfl; have f_h22_1 := x_h22.f 1 _ rfl
      go_upto_region 5 with fail
      go_cut [18, 19] (fun p q0 wx => ∃ b : Nat, p = .pointer (some ⟨b, 0, none⟩) ∧ q0 = .int .i64 0 ∧ Box wx b [.int .u64 a7, .int .u64 b7] ∧ w22.heap.size ≤ b ∧ Box wx (w.heap.size) [.int .i64 bu, .int .i64 ra, .int .i64 pe] ∧ Box wx (w.heap.size + 1) [.int .i64 bu, .int .i64 ra, .int .i64 pe, .int .i64 lv, .int .i64 pt, .int .u64 last] ∧ Box wx (w2.heap.size) [.int .u64 a1, .int .u64 b1] ∧ Box wx (b21) [.int .u64 a3, .int .u64 b3] ∧ Box wx (b22) [.int .u64 a5, .int .u64 b5] ∧ Below w.heap.size w wx)
      case first =>
        go_region_held3 (fun w' => w'.cell? ⟨b22, 0, none⟩ = some (.int .u64 a5) ∧ w'.cell? ⟨b22, 1, none⟩ = some (.int .u64 b5) ∧ w'.cell? ⟨w.heap.size, 2, none⟩ = some (.int .i64 pe)) (((repeat' apply And.intro) <;> (first | (go_keep; done) | go_cell)))
          (first
            | (go_at_call 70; refine (mul_nm (h := a6) (l := b6) _ hch kp n6 E6).mono ?_; rintro e v1 ⟨rfl, hv1⟩; have hV1 : Below w.heap.size w v1 := below_thru (by go_grown) hv1; have hs_v1 : w.heap.size ≤ v1.heap.size := hV1.size; have x_l_v1 : Box v1 (w.heap.size) [.int .i64 bu, .int .i64 ra, .int .i64 pe] := (by refine Box.below ?_ hv1; repeat (first | (with_reducible assumption) | (with_reducible refine Box.drew ?_) | (with_reducible refine Box.drewN ?_ _) | ((with_reducible refine Box.new ?_); simp; done) | (with_reducible apply Box.set2) | ((with_reducible apply Box.put); (with_reducible assumption); rfl) | (with_reducible refine Box.alloc ?_ _) | (with_reducible refine Box.other ?_ (by first | (dsimp only; omega) | omega) _))); have z_l_v1 := x_l_v1.lt; have c_l_v1_0 := x_l_v1.c 0 _ rfl; have f_l_v1_0 := x_l_v1.f 0 _ rfl; have c_l_v1_1 := x_l_v1.c 1 _ rfl; have f_l_v1_1 := x_l_v1.f 1 _ rfl; have c_l_v1_2 := x_l_v1.c 2 _ rfl; have f_l_v1_2 := x_l_v1.f 2 _ rfl; have x_x_v1 : Box v1 (w.heap.size + 1) [.int .i64 bu, .int .i64 ra, .int .i64 pe, .int .i64 lv, .int .i64 pt, .int .u64 last] := (by refine Box.below ?_ hv1; repeat (first | (with_reducible assumption) | (with_reducible refine Box.drew ?_) | (with_reducible refine Box.drewN ?_ _) | ((with_reducible refine Box.new ?_); simp; done) | (with_reducible apply Box.set2) | ((with_reducible apply Box.put); (with_reducible assumption); rfl) | (with_reducible refine Box.alloc ?_ _) | (with_reducible refine Box.other ?_ (by first | (dsimp only; omega) | omega) _))); have z_x_v1 := x_x_v1.lt; have c_x_v1_0 := x_x_v1.c 0 _ rfl; have f_x_v1_0 := x_x_v1.f 0 _ rfl; have c_x_v1_1 := x_x_v1.c 1 _ rfl; have f_x_v1_1 := x_x_v1.f 1 _ rfl; have c_x_v1_2 := x_x_v1.c 2 _ rfl; have f_x_v1_2 := x_x_v1.f 2 _ rfl; have c_x_v1_3 := x_x_v1.c 3 _ rfl; have f_x_v1_3 := x_x_v1.f 3 _ rfl; have c_x_v1_4 := x_x_v1.c 4 _ rfl; have f_x_v1_4 := x_x_v1.f 4 _ rfl; have c_x_v1_5 := x_x_v1.c 5 _ rfl; have f_x_v1_5 := x_x_v1.f 5 _ rfl; have x_d_v1 : Box v1 (w2.heap.size) [.int .u64 a1, .int .u64 b1] := (by refine Box.below ?_ hv1; repeat (first | (with_reducible assumption) | (with_reducible refine Box.drew ?_) | (with_reducible refine Box.drewN ?_ _) | ((with_reducible refine Box.new ?_); simp; done) | (with_reducible apply Box.set2) | ((with_reducible apply Box.put); (with_reducible assumption); rfl) | (with_reducible refine Box.alloc ?_ _) | (with_reducible refine Box.other ?_ (by first | (dsimp only; omega) | omega) _))); have z_d_v1 := x_d_v1.lt; have c_d_v1_0 := x_d_v1.c 0 _ rfl; have f_d_v1_0 := x_d_v1.f 0 _ rfl; have c_d_v1_1 := x_d_v1.c 1 _ rfl; have f_d_v1_1 := x_d_v1.f 1 _ rfl; have x_c_v1 : Box v1 (b21) [.int .u64 a3, .int .u64 b3] := (by refine Box.below ?_ hv1; repeat (first | (with_reducible assumption) | (with_reducible refine Box.drew ?_) | (with_reducible refine Box.drewN ?_ _) | ((with_reducible refine Box.new ?_); simp; done) | (with_reducible apply Box.set2) | ((with_reducible apply Box.put); (with_reducible assumption); rfl) | (with_reducible refine Box.alloc ?_ _) | (with_reducible refine Box.other ?_ (by first | (dsimp only; omega) | omega) _))); have z_c_v1 := x_c_v1.lt; have c_c_v1_0 := x_c_v1.c 0 _ rfl; have f_c_v1_0 := x_c_v1.f 0 _ rfl; have c_c_v1_1 := x_c_v1.c 1 _ rfl; have f_c_v1_1 := x_c_v1.f 1 _ rfl; have x_h_v1 : Box v1 (b22) [.int .u64 a5, .int .u64 b5] := (by refine Box.below ?_ hv1; repeat (first | (with_reducible assumption) | (with_reducible refine Box.drew ?_) | (with_reducible refine Box.drewN ?_ _) | ((with_reducible refine Box.new ?_); simp; done) | (with_reducible apply Box.set2) | ((with_reducible apply Box.put); (with_reducible assumption); rfl) | (with_reducible refine Box.alloc ?_ _) | (with_reducible refine Box.other ?_ (by first | (dsimp only; omega) | omega) _))); have z_h_v1 := x_h_v1.lt; have c_h_v1_0 := x_h_v1.c 0 _ rfl; have f_h_v1_0 := x_h_v1.f 0 _ rfl; have c_h_v1_1 := x_h_v1.c 1 _ rfl; have f_h_v1_1 := x_h_v1.f 1 _ rfl; have t_v1 := hv1.size; (try simp at t_v1); (first | (with_reducible have y := Box.below (Box.drew (Box.new rfl)) hv1) | (with_reducible have y := Box.below (Box.new rfl) hv1) | (with_reducible have y := Box.below y hv1) | (have y := trivial)); (try simp only [World.size_alloc] at y); try (have yz := Box.lt y; have y0 := Box.c y 0 _ rfl; have yf0 := Box.f y 0 _ rfl; have y1 := Box.c y 1 _ rfl; have yf1 := Box.f y 1 _ rfl))
            | (go_at_call 71; refine (add_nm (h := a7) (l := b7) _ m5 n5 m6 n6 m7 n7 E7).mono ?_; rintro e v2 ⟨rfl, hv2⟩; have hV2 : Below w.heap.size w v2 := below_thru (by go_grown) hv2; have hs_v2 : w.heap.size ≤ v2.heap.size := hV2.size; have x_l_v2 : Box v2 (w.heap.size) [.int .i64 bu, .int .i64 ra, .int .i64 pe] := (by refine Box.below ?_ hv2; repeat (first | (with_reducible assumption) | (with_reducible refine Box.drew ?_) | (with_reducible refine Box.drewN ?_ _) | ((with_reducible refine Box.new ?_); simp; done) | (with_reducible apply Box.set2) | ((with_reducible apply Box.put); (with_reducible assumption); rfl) | (with_reducible refine Box.alloc ?_ _) | (with_reducible refine Box.other ?_ (by first | (dsimp only; omega) | omega) _))); have z_l_v2 := x_l_v2.lt; have c_l_v2_0 := x_l_v2.c 0 _ rfl; have f_l_v2_0 := x_l_v2.f 0 _ rfl; have c_l_v2_1 := x_l_v2.c 1 _ rfl; have f_l_v2_1 := x_l_v2.f 1 _ rfl; have c_l_v2_2 := x_l_v2.c 2 _ rfl; have f_l_v2_2 := x_l_v2.f 2 _ rfl; have x_x_v2 : Box v2 (w.heap.size + 1) [.int .i64 bu, .int .i64 ra, .int .i64 pe, .int .i64 lv, .int .i64 pt, .int .u64 last] := (by refine Box.below ?_ hv2; repeat (first | (with_reducible assumption) | (with_reducible refine Box.drew ?_) | (with_reducible refine Box.drewN ?_ _) | ((with_reducible refine Box.new ?_); simp; done) | (with_reducible apply Box.set2) | ((with_reducible apply Box.put); (with_reducible assumption); rfl) | (with_reducible refine Box.alloc ?_ _) | (with_reducible refine Box.other ?_ (by first | (dsimp only; omega) | omega) _))); have z_x_v2 := x_x_v2.lt; have c_x_v2_0 := x_x_v2.c 0 _ rfl; have f_x_v2_0 := x_x_v2.f 0 _ rfl; have c_x_v2_1 := x_x_v2.c 1 _ rfl; have f_x_v2_1 := x_x_v2.f 1 _ rfl; have c_x_v2_2 := x_x_v2.c 2 _ rfl; have f_x_v2_2 := x_x_v2.f 2 _ rfl; have c_x_v2_3 := x_x_v2.c 3 _ rfl; have f_x_v2_3 := x_x_v2.f 3 _ rfl; have c_x_v2_4 := x_x_v2.c 4 _ rfl; have f_x_v2_4 := x_x_v2.f 4 _ rfl; have c_x_v2_5 := x_x_v2.c 5 _ rfl; have f_x_v2_5 := x_x_v2.f 5 _ rfl; have x_d_v2 : Box v2 (w2.heap.size) [.int .u64 a1, .int .u64 b1] := (by refine Box.below ?_ hv2; repeat (first | (with_reducible assumption) | (with_reducible refine Box.drew ?_) | (with_reducible refine Box.drewN ?_ _) | ((with_reducible refine Box.new ?_); simp; done) | (with_reducible apply Box.set2) | ((with_reducible apply Box.put); (with_reducible assumption); rfl) | (with_reducible refine Box.alloc ?_ _) | (with_reducible refine Box.other ?_ (by first | (dsimp only; omega) | omega) _))); have z_d_v2 := x_d_v2.lt; have c_d_v2_0 := x_d_v2.c 0 _ rfl; have f_d_v2_0 := x_d_v2.f 0 _ rfl; have c_d_v2_1 := x_d_v2.c 1 _ rfl; have f_d_v2_1 := x_d_v2.f 1 _ rfl; have x_c_v2 : Box v2 (b21) [.int .u64 a3, .int .u64 b3] := (by refine Box.below ?_ hv2; repeat (first | (with_reducible assumption) | (with_reducible refine Box.drew ?_) | (with_reducible refine Box.drewN ?_ _) | ((with_reducible refine Box.new ?_); simp; done) | (with_reducible apply Box.set2) | ((with_reducible apply Box.put); (with_reducible assumption); rfl) | (with_reducible refine Box.alloc ?_ _) | (with_reducible refine Box.other ?_ (by first | (dsimp only; omega) | omega) _))); have z_c_v2 := x_c_v2.lt; have c_c_v2_0 := x_c_v2.c 0 _ rfl; have f_c_v2_0 := x_c_v2.f 0 _ rfl; have c_c_v2_1 := x_c_v2.c 1 _ rfl; have f_c_v2_1 := x_c_v2.f 1 _ rfl; have x_h_v2 : Box v2 (b22) [.int .u64 a5, .int .u64 b5] := (by refine Box.below ?_ hv2; repeat (first | (with_reducible assumption) | (with_reducible refine Box.drew ?_) | (with_reducible refine Box.drewN ?_ _) | ((with_reducible refine Box.new ?_); simp; done) | (with_reducible apply Box.set2) | ((with_reducible apply Box.put); (with_reducible assumption); rfl) | (with_reducible refine Box.alloc ?_ _) | (with_reducible refine Box.other ?_ (by first | (dsimp only; omega) | omega) _))); have z_h_v2 := x_h_v2.lt; have c_h_v2_0 := x_h_v2.c 0 _ rfl; have f_h_v2_0 := x_h_v2.f 0 _ rfl; have c_h_v2_1 := x_h_v2.c 1 _ rfl; have f_h_v2_1 := x_h_v2.f 1 _ rfl; have t_v2 := hv2.size; (try simp at t_v2); (first | (with_reducible have y := Box.below (Box.drew (Box.new rfl)) hv2) | (with_reducible have y := Box.below (Box.new rfl) hv2) | (with_reducible have y := Box.below y hv2) | (have y := trivial)); (try simp only [World.size_alloc] at y); try (have yz := Box.lt y; have y0 := Box.c y 0 _ rfl; have yf0 := Box.f y 0 _ rfl; have y1 := Box.c y 1 _ rfl; have yf1 := Box.f y 1 _ rfl)))
        all_goals
          go_wp2_with fail
          go_meet
          refine ⟨_, rfl, rfl, ?_, ?_, ?_, ?_, ?_, ?_, ?_, ?_⟩
          all_goals first
            | (first | (dsimp only; omega) | omega | (simp; omega))
            | ((repeat (first | (with_reducible assumption) | (with_reducible refine Box.drew ?_) | (with_reducible refine Box.drewN ?_ _) | ((with_reducible refine Box.new ?_); simp; done) | (with_reducible apply Box.set2) | (with_reducible refine Box.alloc ?_ _) | (with_reducible refine Box.other ?_ (by first | (dsimp only; omega) | omega) _))); done)
            | (go_grown; done)
      case rest =>
        obtain ⟨b23, rfl, rfl, x_g23, lo_g23, x_l23, x_x23, x_d23, x_c23, x_h23, hB23⟩ := hcut
        obtain ⟨w23, rfl⟩ : ∃ u : World, u = wc := ⟨_, rfl⟩
        have o_g_l := Nat.lt_of_lt_of_le z_l22 lo_g23
        have o_g_x := Nat.lt_of_lt_of_le z_x22 lo_g23
        have o_g_d := Nat.lt_of_lt_of_le z_d22 lo_g23
        have o_g_c := Nat.lt_of_lt_of_le z_c22 lo_g23
        have o_g_h := Nat.lt_of_lt_of_le z_h22 lo_g23
        clear hB22 hs22 x_l22 z_l22 c_l22_0 c_l22_1 c_l22_2 f_l22_0 f_l22_1 f_l22_2 x_x22 z_x22 c_x22_0 c_x22_1 c_x22_2 c_x22_3 c_x22_4 c_x22_5 f_x22_0 f_x22_1 f_x22_2 f_x22_3 f_x22_4 f_x22_5 x_d22 z_d22 c_d22_0 c_d22_1 f_d22_0 f_d22_1 x_c22 z_c22 c_c22_0 c_c22_1 f_c22_0 f_c22_1 x_h22 z_h22 c_h22_0 c_h22_1 f_h22_0 f_h22_1
        have hs23 : w.heap.size ≤ w23.heap.size := hB23.size
        have z_l23 := x_l23.lt
        have c_l23_0 := x_l23.c 0 _ rfl; have f_l23_0 := x_l23.f 0 _ rfl
        have c_l23_1 := x_l23.c 1 _ rfl; have f_l23_1 := x_l23.f 1 _ rfl
        have c_l23_2 := x_l23.c 2 _ rfl; have f_l23_2 := x_l23.f 2 _ rfl
        have z_x23 := x_x23.lt
        have c_x23_0 := x_x23.c 0 _ rfl; have f_x23_0 := x_x23.f 0 _ rfl
        have c_x23_1 := x_x23.c 1 _ rfl; have f_x23_1 := x_x23.f 1 _ rfl
        have c_x23_2 := x_x23.c 2 _ rfl; have f_x23_2 := x_x23.f 2 _ rfl
        have c_x23_3 := x_x23.c 3 _ rfl; have f_x23_3 := x_x23.f 3 _ rfl
        have c_x23_4 := x_x23.c 4 _ rfl; have f_x23_4 := x_x23.f 4 _ rfl
        have c_x23_5 := x_x23.c 5 _ rfl; have f_x23_5 := x_x23.f 5 _ rfl
        have z_d23 := x_d23.lt
        have c_d23_0 := x_d23.c 0 _ rfl; have f_d23_0 := x_d23.f 0 _ rfl
        have c_d23_1 := x_d23.c 1 _ rfl; have f_d23_1 := x_d23.f 1 _ rfl
        have z_c23 := x_c23.lt
        have c_c23_0 := x_c23.c 0 _ rfl; have f_c23_0 := x_c23.f 0 _ rfl
        have c_c23_1 := x_c23.c 1 _ rfl; have f_c23_1 := x_c23.f 1 _ rfl
        have z_h23 := x_h23.lt
        have c_h23_0 := x_h23.c 0 _ rfl; have f_h23_0 := x_h23.f 0 _ rfl
        have c_h23_1 := x_h23.c 1 _ rfl; have f_h23_1 := x_h23.f 1 _ rfl
        have z_g23 := x_g23.lt
        have c_g23_0 := x_g23.c 0 _ rfl; have f_g23_0 := x_g23.f 0 _ rfl
        have c_g23_1 := x_g23.c 1 _ rfl; have f_g23_1 := x_g23.f 1 _ rfl
        go_wp2_with fail
        refine (cmp_nm _ n7 n3 R1).mono ?_
        rintro e w24 ⟨rfl, hb⟩
        have hB24 : Below w.heap.size w w24 := below_thru (by go_grown) hb
        have hs24 : w.heap.size ≤ w24.heap.size := hB24.size
        have x_l24 : Box w24 (w.heap.size) [.int .i64 bu, .int .i64 ra, .int .i64 pe] := (by refine Box.below ?_ hb; repeat (first | (with_reducible assumption) | (with_reducible refine Box.drew ?_) | (with_reducible refine Box.drewN ?_ _) | ((with_reducible refine Box.new ?_); simp; done) | (with_reducible apply Box.set2) | ((with_reducible apply Box.put); (with_reducible assumption); rfl) | (with_reducible refine Box.alloc ?_ _) | (with_reducible refine Box.other ?_ (by first | (dsimp only; omega) | omega) _)))
        have z_l24 := x_l24.lt
        have c_l24_0 := x_l24.c 0 _ rfl
        have f_l24_0 := x_l24.f 0 _ rfl
        have c_l24_1 := x_l24.c 1 _ rfl
        have f_l24_1 := x_l24.f 1 _ rfl
        have c_l24_2 := x_l24.c 2 _ rfl
        have f_l24_2 := x_l24.f 2 _ rfl
        have x_x24 : Box w24 (w.heap.size + 1) [.int .i64 bu, .int .i64 ra, .int .i64 pe, .int .i64 lv, .int .i64 pt, .int .u64 last] := (by refine Box.below ?_ hb; repeat (first | (with_reducible assumption) | (with_reducible refine Box.drew ?_) | (with_reducible refine Box.drewN ?_ _) | ((with_reducible refine Box.new ?_); simp; done) | (with_reducible apply Box.set2) | ((with_reducible apply Box.put); (with_reducible assumption); rfl) | (with_reducible refine Box.alloc ?_ _) | (with_reducible refine Box.other ?_ (by first | (dsimp only; omega) | omega) _)))
        have z_x24 := x_x24.lt
        have c_x24_0 := x_x24.c 0 _ rfl
        have f_x24_0 := x_x24.f 0 _ rfl
        have c_x24_1 := x_x24.c 1 _ rfl
        have f_x24_1 := x_x24.f 1 _ rfl
        have c_x24_2 := x_x24.c 2 _ rfl
        have f_x24_2 := x_x24.f 2 _ rfl
        have c_x24_3 := x_x24.c 3 _ rfl
        have f_x24_3 := x_x24.f 3 _ rfl
        have c_x24_4 := x_x24.c 4 _ rfl
        have f_x24_4 := x_x24.f 4 _ rfl
        have c_x24_5 := x_x24.c 5 _ rfl
        have f_x24_5 := x_x24.f 5 _ rfl
        have x_d24 : Box w24 (w2.heap.size) [.int .u64 a1, .int .u64 b1] := (by refine Box.below ?_ hb; repeat (first | (with_reducible assumption) | (with_reducible refine Box.drew ?_) | (with_reducible refine Box.drewN ?_ _) | ((with_reducible refine Box.new ?_); simp; done) | (with_reducible apply Box.set2) | ((with_reducible apply Box.put); (with_reducible assumption); rfl) | (with_reducible refine Box.alloc ?_ _) | (with_reducible refine Box.other ?_ (by first | (dsimp only; omega) | omega) _)))
        have z_d24 := x_d24.lt
        have c_d24_0 := x_d24.c 0 _ rfl
        have f_d24_0 := x_d24.f 0 _ rfl
        have c_d24_1 := x_d24.c 1 _ rfl
        have f_d24_1 := x_d24.f 1 _ rfl
        have x_c24 : Box w24 (b21) [.int .u64 a3, .int .u64 b3] := (by refine Box.below ?_ hb; repeat (first | (with_reducible assumption) | (with_reducible refine Box.drew ?_) | (with_reducible refine Box.drewN ?_ _) | ((with_reducible refine Box.new ?_); simp; done) | (with_reducible apply Box.set2) | ((with_reducible apply Box.put); (with_reducible assumption); rfl) | (with_reducible refine Box.alloc ?_ _) | (with_reducible refine Box.other ?_ (by first | (dsimp only; omega) | omega) _)))
        have z_c24 := x_c24.lt
        have c_c24_0 := x_c24.c 0 _ rfl
        have f_c24_0 := x_c24.f 0 _ rfl
        have c_c24_1 := x_c24.c 1 _ rfl
        have f_c24_1 := x_c24.f 1 _ rfl
        have x_h24 : Box w24 (b22) [.int .u64 a5, .int .u64 b5] := (by refine Box.below ?_ hb; repeat (first | (with_reducible assumption) | (with_reducible refine Box.drew ?_) | (with_reducible refine Box.drewN ?_ _) | ((with_reducible refine Box.new ?_); simp; done) | (with_reducible apply Box.set2) | ((with_reducible apply Box.put); (with_reducible assumption); rfl) | (with_reducible refine Box.alloc ?_ _) | (with_reducible refine Box.other ?_ (by first | (dsimp only; omega) | omega) _)))
        have z_h24 := x_h24.lt
        have c_h24_0 := x_h24.c 0 _ rfl
        have f_h24_0 := x_h24.f 0 _ rfl
        have c_h24_1 := x_h24.c 1 _ rfl
        have f_h24_1 := x_h24.f 1 _ rfl
        have x_g24 : Box w24 (b23) [.int .u64 a7, .int .u64 b7] := (by refine Box.below ?_ hb; repeat (first | (with_reducible assumption) | (with_reducible refine Box.drew ?_) | (with_reducible refine Box.drewN ?_ _) | ((with_reducible refine Box.new ?_); simp; done) | (with_reducible apply Box.set2) | ((with_reducible apply Box.put); (with_reducible assumption); rfl) | (with_reducible refine Box.alloc ?_ _) | (with_reducible refine Box.other ?_ (by first | (dsimp only; omega) | omega) _)))
        have z_g24 := x_g24.lt
        have c_g24_0 := x_g24.c 0 _ rfl
        have f_g24_0 := x_g24.f 0 _ rfl
        have c_g24_1 := x_g24.c 1 _ rfl
        have f_g24_1 := x_g24.f 1 _ rfl
        have t24 := hb.size
        try simp at t24
        clear hb hB23 hs23 x_l23 z_l23 c_l23_0 c_l23_1 c_l23_2 f_l23_0 f_l23_1 f_l23_2 x_x23 z_x23 c_x23_0 c_x23_1 c_x23_2 c_x23_3 c_x23_4 c_x23_5 f_x23_0 f_x23_1 f_x23_2 f_x23_3 f_x23_4 f_x23_5 x_d23 z_d23 c_d23_0 c_d23_1 f_d23_0 f_d23_1 x_c23 z_c23 c_c23_0 c_c23_1 f_c23_0 f_c23_1 x_h23 z_h23 c_h23_0 c_h23_1 f_h23_0 f_h23_1 x_g23 z_g23 c_g23_0 c_g23_1 f_g23_0 f_g23_1
        go_wp2_with fail
        refine (cmp_nm _ n5 n1 R2).mono ?_
        rintro e w25 ⟨rfl, hb⟩
        have hB25 : Below w.heap.size w w25 := below_thru (by go_grown) hb
        have hs25 : w.heap.size ≤ w25.heap.size := hB25.size
        have x_l25 : Box w25 (w.heap.size) [.int .i64 bu, .int .i64 ra, .int .i64 pe] := (by refine Box.below ?_ hb; repeat (first | (with_reducible assumption) | (with_reducible refine Box.drew ?_) | (with_reducible refine Box.drewN ?_ _) | ((with_reducible refine Box.new ?_); simp; done) | (with_reducible apply Box.set2) | ((with_reducible apply Box.put); (with_reducible assumption); rfl) | (with_reducible refine Box.alloc ?_ _) | (with_reducible refine Box.other ?_ (by first | (dsimp only; omega) | omega) _)))
        have z_l25 := x_l25.lt
        have c_l25_0 := x_l25.c 0 _ rfl
        have f_l25_0 := x_l25.f 0 _ rfl
        have c_l25_1 := x_l25.c 1 _ rfl
        have f_l25_1 := x_l25.f 1 _ rfl
        have c_l25_2 := x_l25.c 2 _ rfl
        have f_l25_2 := x_l25.f 2 _ rfl
        have x_x25 : Box w25 (w.heap.size + 1) [.int .i64 bu, .int .i64 ra, .int .i64 pe, .int .i64 lv, .int .i64 pt, .int .u64 last] := (by refine Box.below ?_ hb; repeat (first | (with_reducible assumption) | (with_reducible refine Box.drew ?_) | (with_reducible refine Box.drewN ?_ _) | ((with_reducible refine Box.new ?_); simp; done) | (with_reducible apply Box.set2) | ((with_reducible apply Box.put); (with_reducible assumption); rfl) | (with_reducible refine Box.alloc ?_ _) | (with_reducible refine Box.other ?_ (by first | (dsimp only; omega) | omega) _)))
        have z_x25 := x_x25.lt
        have c_x25_0 := x_x25.c 0 _ rfl
        have f_x25_0 := x_x25.f 0 _ rfl
        have c_x25_1 := x_x25.c 1 _ rfl
        have f_x25_1 := x_x25.f 1 _ rfl
        have c_x25_2 := x_x25.c 2 _ rfl
        have f_x25_2 := x_x25.f 2 _ rfl
        have c_x25_3 := x_x25.c 3 _ rfl
        have f_x25_3 := x_x25.f 3 _ rfl
        have c_x25_4 := x_x25.c 4 _ rfl
        have f_x25_4 := x_x25.f 4 _ rfl
        have c_x25_5 := x_x25.c 5 _ rfl
        have f_x25_5 := x_x25.f 5 _ rfl
        have x_d25 : Box w25 (w2.heap.size) [.int .u64 a1, .int .u64 b1] := (by refine Box.below ?_ hb; repeat (first | (with_reducible assumption) | (with_reducible refine Box.drew ?_) | (with_reducible refine Box.drewN ?_ _) | ((with_reducible refine Box.new ?_); simp; done) | (with_reducible apply Box.set2) | ((with_reducible apply Box.put); (with_reducible assumption); rfl) | (with_reducible refine Box.alloc ?_ _) | (with_reducible refine Box.other ?_ (by first | (dsimp only; omega) | omega) _)))
        have z_d25 := x_d25.lt
        have c_d25_0 := x_d25.c 0 _ rfl
        have f_d25_0 := x_d25.f 0 _ rfl
        have c_d25_1 := x_d25.c 1 _ rfl
        have f_d25_1 := x_d25.f 1 _ rfl
        have x_c25 : Box w25 (b21) [.int .u64 a3, .int .u64 b3] := (by refine Box.below ?_ hb; repeat (first | (with_reducible assumption) | (with_reducible refine Box.drew ?_) | (with_reducible refine Box.drewN ?_ _) | ((with_reducible refine Box.new ?_); simp; done) | (with_reducible apply Box.set2) | ((with_reducible apply Box.put); (with_reducible assumption); rfl) | (with_reducible refine Box.alloc ?_ _) | (with_reducible refine Box.other ?_ (by first | (dsimp only; omega) | omega) _)))
        have z_c25 := x_c25.lt
        have c_c25_0 := x_c25.c 0 _ rfl
        have f_c25_0 := x_c25.f 0 _ rfl
        have c_c25_1 := x_c25.c 1 _ rfl
        have f_c25_1 := x_c25.f 1 _ rfl
        have x_h25 : Box w25 (b22) [.int .u64 a5, .int .u64 b5] := (by refine Box.below ?_ hb; repeat (first | (with_reducible assumption) | (with_reducible refine Box.drew ?_) | (with_reducible refine Box.drewN ?_ _) | ((with_reducible refine Box.new ?_); simp; done) | (with_reducible apply Box.set2) | ((with_reducible apply Box.put); (with_reducible assumption); rfl) | (with_reducible refine Box.alloc ?_ _) | (with_reducible refine Box.other ?_ (by first | (dsimp only; omega) | omega) _)))
        have z_h25 := x_h25.lt
        have c_h25_0 := x_h25.c 0 _ rfl
        have f_h25_0 := x_h25.f 0 _ rfl
        have c_h25_1 := x_h25.c 1 _ rfl
        have f_h25_1 := x_h25.f 1 _ rfl
        have x_g25 : Box w25 (b23) [.int .u64 a7, .int .u64 b7] := (by refine Box.below ?_ hb; repeat (first | (with_reducible assumption) | (with_reducible refine Box.drew ?_) | (with_reducible refine Box.drewN ?_ _) | ((with_reducible refine Box.new ?_); simp; done) | (with_reducible apply Box.set2) | ((with_reducible apply Box.put); (with_reducible assumption); rfl) | (with_reducible refine Box.alloc ?_ _) | (with_reducible refine Box.other ?_ (by first | (dsimp only; omega) | omega) _)))
        have z_g25 := x_g25.lt
        have c_g25_0 := x_g25.c 0 _ rfl
        have f_g25_0 := x_g25.f 0 _ rfl
        have c_g25_1 := x_g25.c 1 _ rfl
        have f_g25_1 := x_g25.f 1 _ rfl
        have t25 := hb.size
        try simp at t25
        clear hb hB24 hs24 x_l24 z_l24 c_l24_0 c_l24_1 c_l24_2 f_l24_0 f_l24_1 f_l24_2 x_x24 z_x24 c_x24_0 c_x24_1 c_x24_2 c_x24_3 c_x24_4 c_x24_5 f_x24_0 f_x24_1 f_x24_2 f_x24_3 f_x24_4 f_x24_5 x_d24 z_d24 c_d24_0 c_d24_1 f_d24_0 f_d24_1 x_c24 z_c24 c_c24_0 c_c24_1 f_c24_0 f_c24_1 x_h24 z_h24 c_h24_0 c_h24_1 f_h24_0 f_h24_1 x_g24 z_g24 c_g24_0 c_g24_1 f_g24_0 f_g24_1
        go_wp2_with fail
        go_returns
        exact ⟨rfl, hB25⟩

end Go.Proofs.Ytmpcpflpcfanjaa
