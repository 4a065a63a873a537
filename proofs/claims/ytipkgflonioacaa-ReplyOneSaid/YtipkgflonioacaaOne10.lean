/-
  ReplyOne, walked.
-/
import Derived.Test.YtipkgflonioacaaAlive10
namespace Go.Proofs.Ytipkgflonioacaa
open Go.RowKit

theorem pwr_any (s : Rep) : ∃ (xs : List Int) (q : Int), (q = 0 ∧ s.Ok ∧ xs = s.bs) ∨ (q = 8 ∧ ¬ s.Ok ∧ xs = []) := by
  by_cases h : s.Ok
  · exact ⟨_, _, Or.inl ⟨rfl, h, rfl⟩⟩
  · exact ⟨_, _, Or.inr ⟨rfl, h, rfl⟩⟩
theorem own_sl32 {w : World} {B e : Nat} {v : Value} {l : List Value} {n : Nat} (h : w.ownsRow B e 1 v n l) (hn : n = 32) : ∃ a c, v = .slice a 32 c := by
  subst hn
  rcases h.2 with ⟨rfl, q⟩ | ⟨g, cap, cur, rfl, _⟩
  · cases q
  · exact ⟨_, _, rfl⟩
set_option maxRecDepth 100000 in
set_option maxHeartbeats 12800000 in
theorem one10_eqt (r : Rep) {v : Value} {bs : List Int} (hA : r.Ok) (G : Rep) (hG : G.Ok) (hlen : bs.length = 32) (hGb : G.bs = bs) (PB : PReads 11 bs G 0) (w : World) (h1 : IsL w .u8 v bs) : Calls Try.prog 6 #[.agg r.v.toArray, .agg r.v.toArray, v] w fun e w' => e = .returned (.bool true) ∧ Below w.heap.size w w' := by
  obtain ⟨a0, c0, rfl, hr, _⟩ := id h1
  have i1 := hr.room
  have i2 := hr.most
  have HV := Lib.hid h1
  rw [hlen] at HV i1 ⊢
  have WG := fun W => pwr_is G (xs := bs) (q := 0) (Or.inl ⟨rfl, hG, hGb.symm⟩) W
  have KG := fun W => rchk_is G (q := 0) (Lib.hid (Or.inl ⟨rfl, hG⟩)) W
  unfold PReads at PB
  have SG := Lib.hid (size_rep G); have LG0 := len_rep Rep.zero G; have OG := Lib.hid (one_rep G)
  have SV := Lib.hid (size_rep r); have SS := Lib.hid (size_rep r)
  have WR := fun W => pwr_is r (xs := r.bs) (q := 0) (Or.inl ⟨rfl, hA, rfl⟩) W; have KR := fun W => rchk_is r (q := 0) (Lib.hid (Or.inl ⟨rfl, hA⟩)) W; have PA := pparse_self hA; unfold PReads at PA
  have LV := Lib.hid (len_rep Rep.zero r); have OV := Lib.hid (one_rep r); have EV := fun W => eqp_t (rfl : r = r) W; have LX := Lib.hid r.bs_len
  obtain ⟨XS, hXS⟩ : ∃ X, r.bs = X := ⟨_, rfl⟩
  rw [hXS] at WR PA LX
  clear hXS
  obtain ⟨V, hV⟩ : ∃ V, r.v = V := ⟨_, rfl⟩
  rw [hV] at SV WR KR PA LV OV EV SS ⊢
  obtain ⟨VG, hVG⟩ : ∃ V, G.v = V := ⟨_, rfl⟩
  rw [hVG] at PB SG OG LG0 WG KG
  have LG := Lib.hid LG0
  clear LG0 hr h1 hV hVG hA hlen hG hGb
  go_enter Try.func6, Try.ntmps6
  go_upto_region 1 with fail
  refine F_gen (F := fun W => Code.wp _ _ _ _ W) (J := fun W => Box W (w.heap.size) (V) ∧ Box W (w.heap.size + 1) (V) ∧ Below w.heap.size w W) (And.intro (Box.alloc (Box.newc rfl rfl) _) (And.intro (Box.newc rfl (by simp)) (by go_grown))) ?_
  intro w0 ⟨e_r, e_s, hB0⟩
  have hs0 := hB0.size
  have x_r0 := e_r; clear e_r
  have x_s0 := e_s; clear e_s
  have J_b0 : Hid (IsL w0 .u8 (.slice a0 32 c0) bs) := Lib.hid (HV.out.below hB0)
  go_wp2_with (refine wpList_load_box9 rfl _ _ rfl x_r0 rfl Try.underlying26 rfl SV.out ?_)
  refine (WR _).mono ?_
  rintro e w1 ⟨va, rfl, hoa, hb⟩
  have hB1 : Below w.heap.size w w1 := below_thru hB0 hb
  have hs1 := hB1.size
  have x_r1 : Box w1 (w.heap.size) (V) := Box.below x_r0 hb
  have x_s1 : Box w1 (w.heap.size + 1) (V) := Box.below x_s0 hb
  have J_b1 : Hid (IsL w1 .u8 (.slice a0 32 c0) bs) := Lib.hid (IsL.below J_b0.out hb)
  clear hB0 hs0 x_r0 x_s0 J_b0
  clear hb
  have ha := IsL.own hoa rfl; obtain ⟨ax, cx, rfl⟩ := own_sl32 hoa LX.out; clear hoa
  have J_a1 : Hid (IsL w1 .u8 (.slice ax 32 cx) XS) := Lib.hid ha
  clear ha
  go_wp2_with (refine wpList_load_box9 rfl _ _ rfl x_s1 rfl Try.underlying26 rfl SS.out ?_)
  refine (WR _).mono ?_
  rintro e w2 ⟨vc, rfl, hoa, hb⟩
  clear WR
  have hB2 : Below w.heap.size w w2 := below_thru hB1 hb
  have hs2 := hB2.size
  have x_r2 : Box w2 (w.heap.size) (V) := Box.below x_r1 hb
  have x_s2 : Box w2 (w.heap.size + 1) (V) := Box.below x_s1 hb
  have J_b2 : Hid (IsL w2 .u8 (.slice a0 32 c0) bs) := Lib.hid (IsL.below J_b1.out hb)
  have J_a2 : Hid (IsL w2 .u8 (.slice ax 32 cx) XS) := Lib.hid (IsL.below J_a1.out hb)
  clear hB1 hs1 x_r1 x_s1 J_b1 J_a1
  clear hb
  have ha := IsL.own hoa rfl; obtain ⟨ay, cy, rfl⟩ := own_sl32 hoa LX.out; clear hoa
  have J_c2 : Hid (IsL w2 .u8 (.slice ay 32 cy) XS) := Lib.hid ha
  clear ha
  go_wp2_with (refine wpList_load_box9 rfl _ _ rfl x_r2 rfl Try.underlying26 rfl SV.out ?_)
  refine (KR _).mono ?_
  rintro e w3 ⟨rfl, hb⟩
  clear KR
  have hB3 : Below w.heap.size w w3 := below_thru hB2 hb
  have hs3 := hB3.size
  have x_r3 : Box w3 (w.heap.size) (V) := Box.below x_r2 hb
  have x_s3 : Box w3 (w.heap.size + 1) (V) := Box.below x_s2 hb
  have J_b3 : Hid (IsL w3 .u8 (.slice a0 32 c0) bs) := Lib.hid (IsL.below J_b2.out hb)
  have J_a3 : Hid (IsL w3 .u8 (.slice ax 32 cx) XS) := Lib.hid (IsL.below J_a2.out hb)
  have J_c3 : Hid (IsL w3 .u8 (.slice ay 32 cy) XS) := Lib.hid (IsL.below J_c2.out hb)
  clear hB2 hs2 x_r2 x_s2 J_b2 J_a2 J_c2
  clear hb
  go_wp2_with fail
  refine (PA _ _ J_a3.out).mono ?_
  rintro e w4 ⟨rfl, hb⟩
  clear PA
  have hB4 : Below w.heap.size w w4 := below_thru hB3 hb
  have hs4 := hB4.size
  have x_r4 : Box w4 (w.heap.size) (V) := Box.below x_r3 hb
  have x_s4 : Box w4 (w.heap.size + 1) (V) := Box.below x_s3 hb
  have J_b4 : Hid (IsL w4 .u8 (.slice a0 32 c0) bs) := Lib.hid (IsL.below J_b3.out hb)
  have J_a4 : Hid (IsL w4 .u8 (.slice ax 32 cx) XS) := Lib.hid (IsL.below J_a3.out hb)
  have J_c4 : Hid (IsL w4 .u8 (.slice ay 32 cy) XS) := Lib.hid (IsL.below J_c3.out hb)
  clear hB3 hs3 x_r3 x_s3 J_b3 J_a3 J_c3
  clear hb
  have d_g_r := (x_r4).lt
  have d_g_s := (x_s4).lt
  have d_g_0 := hs4
  go_upto_region 9 with (refine wpList_store_box (cs := V) rfl _ _ _ rfl (Box.newc (l := Rep.zero.v) rfl rfl) rfl rfl SV.out LV.out OV.out ?_; intro W4_0 hW4_0)
  have hN : Below w4.heap.size w4 W4_0 := (hW4_0.below _ _ (by omega) ((Below.refl _ w4).alloc (Nat.le_refl _) _))
  have x_g5 : Box W4_0 (w4.heap.size) (V) := hW4_0.box
  have hB5 : Below w.heap.size w W4_0 := below_thru hB4 hN
  have hs5 := hB5.size
  have x_r5 : Box W4_0 (w.heap.size) (V) := Box.below x_r4 hN
  have x_s5 : Box W4_0 (w.heap.size + 1) (V) := Box.below x_s4 hN
  have J_b5 : Hid (IsL W4_0 .u8 (.slice a0 32 c0) bs) := Lib.hid (IsL.below J_b4.out hN)
  have J_a5 : Hid (IsL W4_0 .u8 (.slice ax 32 cx) XS) := Lib.hid (IsL.below J_a4.out hN)
  have J_c5 : Hid (IsL W4_0 .u8 (.slice ay 32 cy) XS) := Lib.hid (IsL.below J_c4.out hN)
  clear hB4 hs4 x_r4 x_s4 J_b4 J_a4 J_c4
  clear hN hW4_0
  refine wp_region_held_drew (S := fun W => Box W (w.heap.size) (V) ∧ Box W (w.heap.size + 1) (V) ∧ Box W (w4.heap.size) (V)) (by kernel_rfl) (And.intro (x_r5).drew (And.intro (x_s5).drew (x_g5).drew)) (fun _ => ?_)
  refine F_drew (F := fun W => wpAnyH _ _ _ _ _ _ _ _ W) ?_
  intro Wm0 hbm0
  clear hs5
  have x_r_m0 : Box Wm0 (w.heap.size) (V) := Box.below x_r5 hbm0
  have x_s_m0 : Box Wm0 (w.heap.size + 1) (V) := Box.below x_s5 hbm0
  have x_g_m0 : Box Wm0 (w4.heap.size) (V) := Box.below x_g5 hbm0
  have j_b_m0 := Lib.hid (IsL.below J_b5.out hbm0)
  have j_a_m0 := Lib.hid (IsL.below J_a5.out hbm0)
  have j_c_m0 := Lib.hid (IsL.below J_c5.out hbm0)
  have Bm0 := below_thru hB5 hbm0
  clear x_r5 x_s5 x_g5 J_b5 J_a5 J_c5 hB5 hbm0
  refine takeH 0 44 (v := ?vm0_1) rfl (by rfl) (by kernel_rfl) (by kernel_rfl) (by kernel_rfl) (fun _ _ _ h => h) (Or.inl ⟨by rfl, ?_⟩) ((And.intro x_r_m0 (And.intro x_s_m0 x_g_m0))) ?_
  rotate_left
  · intro wq hSq
    go_simp
    exact rfl
  try simp only [Act.put, List.setIfInBounds_toArray, List.set_cons_zero, List.set_cons_succ]
  refine takeH 1 45 (v := ?vm1_2) rfl (by rfl) (by kernel_rfl) (by kernel_rfl) (by kernel_rfl) (fun _ _ _ h => h) (Or.inl ⟨by rfl, ?_⟩) ((And.intro x_r_m0 (And.intro x_s_m0 x_g_m0))) ?_
  rotate_left
  · intro wq hSq
    go_simp
    exact rfl
  try simp only [Act.put, List.setIfInBounds_toArray, List.set_cons_zero, List.set_cons_succ]
  refine takeH 2 46 (v := ?vm2_3) rfl (by rfl) (by kernel_rfl) (by kernel_rfl) (by kernel_rfl) (fun _ _ _ h => h) (Or.inl ⟨by rfl, ?_⟩) ((And.intro x_r_m0 (And.intro x_s_m0 x_g_m0))) ?_
  rotate_left
  · intro wq hSq
    go_simp
    exact rfl
  try simp only [Act.put, List.setIfInBounds_toArray, List.set_cons_zero, List.set_cons_succ]
  refine takeH 3 47 (v := .agg (V).toArray) rfl (by rfl) (by kernel_rfl) (by kernel_rfl) (by kernel_rfl) (fun _ _ _ h => h) (yieldsIf_load_mid (by rfl) _ _ rfl _ _ rfl (V) _ (fun wq hq => Box.range (hq.2.2)) Try.underlying26 rfl SV.out) ((And.intro x_r_m0 (And.intro x_s_m0 x_g_m0))) ?_
  try simp only [Act.put, List.setIfInBounds_toArray, List.set_cons_zero, List.set_cons_succ]
  refine takeH 4 48 (v := .agg (V).toArray) rfl (by rfl) (by kernel_rfl) (by kernel_rfl) (by kernel_rfl) (fun _ _ _ h => h) (yieldsIf_load_mid (by rfl) _ _ rfl _ _ rfl (V) _ (fun wq hq => Box.range (hq.1)) Try.underlying26 rfl SV.out) ((And.intro x_r_m0 (And.intro x_s_m0 x_g_m0))) ?_
  try simp only [Act.put, List.setIfInBounds_toArray, List.set_cons_zero, List.set_cons_succ]
  refine takeH 5 49 (v := ?vm5_4) rfl (by rfl) (by kernel_rfl) (by kernel_rfl) (by kernel_rfl) (fun _ _ _ h => h) (Or.inl ⟨by rfl, ?_⟩) ((And.intro x_r_m0 (And.intro x_s_m0 x_g_m0))) ?_
  rotate_left
  · intro wq hSq
    go_simp
    exact rfl
  try simp only [Act.put, List.setIfInBounds_toArray, List.set_cons_zero, List.set_cons_succ]
  refine takeH 6 50 (v := ?vm6_5) rfl (by rfl) (by kernel_rfl) (by kernel_rfl) (by kernel_rfl) (fun _ _ _ h => h) (Or.inl ⟨by rfl, ?_⟩) ((And.intro x_r_m0 (And.intro x_s_m0 x_g_m0))) ?_
  rotate_left
  · intro wq hSq
    go_simp
    exact rfl
  try simp only [Act.put, List.setIfInBounds_toArray, List.set_cons_zero, List.set_cons_succ]
  refine takeH 7 51 (v := ?vm7_6) rfl (by rfl) (by kernel_rfl) (by kernel_rfl) (by kernel_rfl) (fun _ _ _ h => h) (Or.inl ⟨by rfl, ?_⟩) ((And.intro x_r_m0 (And.intro x_s_m0 x_g_m0))) ?_
  rotate_left
  · intro wq hSq
    go_simp
    exact rfl
  try simp only [Act.put, List.setIfInBounds_toArray, List.set_cons_zero, List.set_cons_succ]
  refine takeH 8 52 (v := ?vm8_7) rfl (by rfl) (by kernel_rfl) (by kernel_rfl) (by kernel_rfl) (fun _ _ _ h => h) (Or.inl ⟨by rfl, ?_⟩) ((And.intro x_r_m0 (And.intro x_s_m0 x_g_m0))) ?_
  rotate_left
  · intro wq hSq
    go_simp
    exact rfl
  try simp only [Act.put, List.setIfInBounds_toArray, List.set_cons_zero, List.set_cons_succ]
  refine takeH 9 53 (v := ?vm9_8) rfl (by rfl) (by kernel_rfl) (by kernel_rfl) (by kernel_rfl) (fun _ _ _ h => h) (Or.inl ⟨by rfl, ?_⟩) ((And.intro x_r_m0 (And.intro x_s_m0 x_g_m0))) ?_
  rotate_left
  · intro wq hSq
    go_simp
    exact rfl
  try simp only [Act.put, List.setIfInBounds_toArray, List.set_cons_zero, List.set_cons_succ]
  refine takeH 10 54 (v := ?vm10_9) rfl (by rfl) (by kernel_rfl) (by kernel_rfl) (by kernel_rfl) (fun _ _ _ h => h) (Or.inl ⟨by rfl, ?_⟩) ((And.intro x_r_m0 (And.intro x_s_m0 x_g_m0))) ?_
  rotate_left
  · intro wq hSq
    go_simp
    exact rfl
  try simp only [Act.put, List.setIfInBounds_toArray, List.set_cons_zero, List.set_cons_succ]
  refine takeH 11 55 (v := ?vm11_10) rfl (by rfl) (by kernel_rfl) (by kernel_rfl) (by kernel_rfl) (fun _ _ _ h => h) (Or.inl ⟨by rfl, ?_⟩) ((And.intro x_r_m0 (And.intro x_s_m0 x_g_m0))) ?_
  rotate_left
  · intro wq hSq
    go_simp
    exact rfl
  try simp only [Act.put, List.setIfInBounds_toArray, List.set_cons_zero, List.set_cons_succ]
  refine takeH 12 56 (v := ?vm12_11) rfl (by rfl) (by kernel_rfl) (by kernel_rfl) (by kernel_rfl) (fun _ _ _ h => h) (Or.inl ⟨by rfl, ?_⟩) ((And.intro x_r_m0 (And.intro x_s_m0 x_g_m0))) ?_
  rotate_left
  · intro wq hSq
    go_simp
    exact rfl
  try simp only [Act.put, List.setIfInBounds_toArray, List.set_cons_zero, List.set_cons_succ]
  refine takeH 13 57 (v := ?vm13_12) rfl (by rfl) (by kernel_rfl) (by kernel_rfl) (by kernel_rfl) (fun _ _ _ h => h) (Or.inl ⟨by rfl, ?_⟩) ((And.intro x_r_m0 (And.intro x_s_m0 x_g_m0))) ?_
  rotate_left
  · intro wq hSq
    go_simp
    exact rfl
  try simp only [Act.put, List.setIfInBounds_toArray, List.set_cons_zero, List.set_cons_succ]
  refine takeH 14 58 (v := ?vm14_13) rfl (by rfl) (by kernel_rfl) (by kernel_rfl) (by kernel_rfl) (fun _ _ _ h => h) (Or.inl ⟨by rfl, ?_⟩) ((And.intro x_r_m0 (And.intro x_s_m0 x_g_m0))) ?_
  rotate_left
  · intro wq hSq
    go_simp
    exact rfl
  try simp only [Act.put, List.setIfInBounds_toArray, List.set_cons_zero, List.set_cons_succ]
  refine takeH 15 59 (v := ?vm15_14) rfl (by rfl) (by kernel_rfl) (by kernel_rfl) (by kernel_rfl) (fun _ _ _ h => h) (Or.inl ⟨by rfl, ?_⟩) ((And.intro x_r_m0 (And.intro x_s_m0 x_g_m0))) ?_
  rotate_left
  · intro wq hSq
    go_simp
    exact rfl
  try simp only [Act.put, List.setIfInBounds_toArray, List.set_cons_zero, List.set_cons_succ]
  refine takeH 16 60 (v := ?vm16_15) rfl (by rfl) (by kernel_rfl) (by kernel_rfl) (by kernel_rfl) (fun _ _ _ h => h) (Or.inl ⟨by rfl, ?_⟩) ((And.intro x_r_m0 (And.intro x_s_m0 x_g_m0))) ?_
  rotate_left
  · intro wq hSq
    go_simp
    exact rfl
  try simp only [Act.put, List.setIfInBounds_toArray, List.set_cons_zero, List.set_cons_succ]
  refine takeH 17 61 (v := ?vm17_16) rfl (by rfl) (by kernel_rfl) (by kernel_rfl) (by kernel_rfl) (fun _ _ _ h => h) (Or.inl ⟨by rfl, ?_⟩) ((And.intro x_r_m0 (And.intro x_s_m0 x_g_m0))) ?_
  rotate_left
  · intro wq hSq
    go_simp
    exact rfl
  try simp only [Act.put, List.setIfInBounds_toArray, List.set_cons_zero, List.set_cons_succ]
  refine takeH 18 62 (v := ?vm18_17) rfl (by rfl) (by kernel_rfl) (by kernel_rfl) (by kernel_rfl) (fun _ _ _ h => h) (Or.inl ⟨by rfl, ?_⟩) ((And.intro x_r_m0 (And.intro x_s_m0 x_g_m0))) ?_
  rotate_left
  · intro wq hSq
    go_simp
    exact rfl
  try simp only [Act.put, List.setIfInBounds_toArray, List.set_cons_zero, List.set_cons_succ]
  refine takeH 19 63 (v := ?vm19_18) rfl (by rfl) (by kernel_rfl) (by kernel_rfl) (by kernel_rfl) (fun _ _ _ h => h) (Or.inl ⟨by rfl, ?_⟩) ((And.intro x_r_m0 (And.intro x_s_m0 x_g_m0))) ?_
  rotate_left
  · intro wq hSq
    go_simp
    exact rfl
  try simp only [Act.put, List.setIfInBounds_toArray, List.set_cons_zero, List.set_cons_succ]
  refine takeH 20 64 (v := ?vm20_19) rfl (by rfl) (by kernel_rfl) (by kernel_rfl) (by kernel_rfl) (fun _ _ _ h => h) (Or.inl ⟨by rfl, ?_⟩) ((And.intro x_r_m0 (And.intro x_s_m0 x_g_m0))) ?_
  rotate_left
  · intro wq hSq
    go_simp
    exact rfl
  try simp only [Act.put, List.setIfInBounds_toArray, List.set_cons_zero, List.set_cons_succ]
  refine takeH 21 65 (v := ?vm21_20) rfl (by rfl) (by kernel_rfl) (by kernel_rfl) (by kernel_rfl) (fun _ _ _ h => h) (Or.inl ⟨by rfl, ?_⟩) ((And.intro x_r_m0 (And.intro x_s_m0 x_g_m0))) ?_
  rotate_left
  · intro wq hSq
    go_simp
    exact rfl
  try simp only [Act.put, List.setIfInBounds_toArray, List.set_cons_zero, List.set_cons_succ]
  refine takeH 22 66 (v := ?vm22_21) rfl (by rfl) (by kernel_rfl) (by kernel_rfl) (by kernel_rfl) (fun _ _ _ h => h) (Or.inl ⟨by rfl, ?_⟩) ((And.intro x_r_m0 (And.intro x_s_m0 x_g_m0))) ?_
  rotate_left
  · intro wq hSq
    go_simp
    exact rfl
  try simp only [Act.put, List.setIfInBounds_toArray, List.set_cons_zero, List.set_cons_succ]
  refine takeH 23 67 (v := ?vm23_22) rfl (by rfl) (by kernel_rfl) (by kernel_rfl) (by kernel_rfl) (fun _ _ _ h => h) (Or.inl ⟨by rfl, ?_⟩) ((And.intro x_r_m0 (And.intro x_s_m0 x_g_m0))) ?_
  rotate_left
  · intro wq hSq
    go_simp
    exact rfl
  try simp only [Act.put, List.setIfInBounds_toArray, List.set_cons_zero, List.set_cons_succ]
  refine takeH 25 69 (v := .agg (V).toArray) rfl (by rfl) (by kernel_rfl) (by kernel_rfl) (by kernel_rfl) (fun _ _ _ h => h) (yieldsIf_load_mid (by rfl) _ _ rfl _ _ rfl (V) _ (fun wq hq => Box.range (hq.1)) Try.underlying26 rfl SV.out) ((And.intro x_r_m0 (And.intro x_s_m0 x_g_m0))) ?_
  try simp only [Act.put, List.setIfInBounds_toArray, List.set_cons_zero, List.set_cons_succ]
  refine takeH 26 70 (v := .agg (V).toArray) rfl (by rfl) (by kernel_rfl) (by kernel_rfl) (by kernel_rfl) (fun _ _ _ h => h) (yieldsIf_load_mid (by rfl) _ _ rfl _ _ rfl (V) _ (fun wq hq => Box.range (hq.2.1)) Try.underlying26 rfl SS.out) ((And.intro x_r_m0 (And.intro x_s_m0 x_g_m0))) ?_
  try simp only [Act.put, List.setIfInBounds_toArray, List.set_cons_zero, List.set_cons_succ]
  refine takeH 27 71 (v := ?vm27_23) rfl (by rfl) (by kernel_rfl) (by kernel_rfl) (by kernel_rfl) (fun _ _ _ h => h) (Or.inl ⟨by rfl, ?_⟩) ((And.intro x_r_m0 (And.intro x_s_m0 x_g_m0))) ?_
  rotate_left
  · intro wq hSq
    go_simp
    exact rfl
  try simp only [Act.put, List.setIfInBounds_toArray, List.set_cons_zero, List.set_cons_succ]
  refine wpAnyH_ready (rs := [24]) (by kernel_rfl) (by simp) (AllReadyH.cons rfl (fun K hK => ?_) AllReadyH.nil)
  go_simp
  refine (sameb_tt _ j_a_m0.out j_c_m0.out).mono ?_
  rintro e Wm24 ⟨rfl, hbm24⟩
  have x_r_m24 : Box Wm24 (w.heap.size) (V) := Box.below x_r_m0 hbm24
  have x_s_m24 : Box Wm24 (w.heap.size + 1) (V) := Box.below x_s_m0 hbm24
  have x_g_m24 : Box Wm24 (w4.heap.size) (V) := Box.below x_g_m0 hbm24
  have j_b_m24 := Lib.hid (IsL.below j_b_m0.out hbm24)
  have j_a_m24 := Lib.hid (IsL.below j_a_m0.out hbm24)
  have j_c_m24 := Lib.hid (IsL.below j_c_m0.out hbm24)
  have Bm24 := below_thru Bm0 hbm24
  clear x_r_m0 x_s_m0 x_g_m0 j_b_m0 j_a_m0 j_c_m0 Bm0 hbm24
  refine hK.out _ _ (And.intro x_r_m24 (And.intro x_s_m24 x_g_m24)) (fun _ => ?_); clear hK K
  refine takeH 28 72 (v := ?vm28_25) rfl (by rfl) (by kernel_rfl) (by kernel_rfl) (by kernel_rfl) (fun _ _ _ h => h) (Or.inl ⟨by rfl, ?_⟩) ((And.intro x_r_m24 (And.intro x_s_m24 x_g_m24))) ?_
  rotate_left
  · intro wq hSq
    go_simp
    exact rfl
  try simp only [Act.put, List.setIfInBounds_toArray, List.set_cons_zero, List.set_cons_succ]
  refine takeH 29 73 (v := ?vm29_26) rfl (by rfl) (by kernel_rfl) (by kernel_rfl) (by kernel_rfl) (fun _ _ _ h => h) (Or.inl ⟨by rfl, ?_⟩) ((And.intro x_r_m24 (And.intro x_s_m24 x_g_m24))) ?_
  rotate_left
  · intro wq hSq
    go_simp
    exact rfl
  try simp only [Act.put, List.setIfInBounds_toArray, List.set_cons_zero, List.set_cons_succ]
  refine takeH 30 74 (v := ?vm30_27) rfl (by rfl) (by kernel_rfl) (by kernel_rfl) (by kernel_rfl) (fun _ _ _ h => h) (Or.inl ⟨by rfl, ?_⟩) ((And.intro x_r_m24 (And.intro x_s_m24 x_g_m24))) ?_
  rotate_left
  · intro wq hSq
    go_simp
    exact rfl
  try simp only [Act.put, List.setIfInBounds_toArray, List.set_cons_zero, List.set_cons_succ]
  refine takeH 31 75 (v := ?vm31_28) rfl (by rfl) (by kernel_rfl) (by kernel_rfl) (by kernel_rfl) (fun _ _ _ h => h) (Or.inl ⟨by rfl, ?_⟩) ((And.intro x_r_m24 (And.intro x_s_m24 x_g_m24))) ?_
  rotate_left
  · intro wq hSq
    go_simp
    exact rfl
  try simp only [Act.put, List.setIfInBounds_toArray, List.set_cons_zero, List.set_cons_succ]
  refine wpAnyH_done (by kernel_rfl) ?_ _
  have hB6 := Bm24; have hs6 := hB6.size
  have x_r6 := x_r_m24
  have x_s6 := x_s_m24
  have x_g6 := x_g_m24
  have J_b6 := j_b_m24
  have J_a6 := j_a_m24
  have J_c6 := j_c_m24
  clear Bm24 x_r_m24 x_s_m24 x_g_m24 j_b_m24 j_a_m24 j_c_m24
  clear J_a6
  clear x_g6
  clear J_c6
  clear x_r6
  clear x_s6
  go_wp2_with fail
  refine (PB _ _ J_b6.out).mono ?_
  rintro e w7 ⟨rfl, hb⟩
  clear PB
  have hB7 : Below w.heap.size w w7 := below_thru hB6 hb
  have hs7 := hB7.size
  have J_b7 : Hid (IsL w7 .u8 (.slice a0 32 c0) bs) := Lib.hid (IsL.below J_b6.out hb)
  clear hB6 hs6 J_b6
  clear hb
  have d_h_0 := hs7
  go_upto_region 12 with (refine wpList_store_box (cs := VG) rfl _ _ _ rfl (Box.newc (l := Rep.zero.v) rfl rfl) rfl rfl SG.out LG.out OG.out ?_; intro W7_0 hW7_0)
  have hN : Below w7.heap.size w7 W7_0 := (hW7_0.below _ _ (by omega) ((Below.refl _ w7).alloc (Nat.le_refl _) _))
  have x_h8 : Box W7_0 (w7.heap.size) (VG) := hW7_0.box
  have hB8 : Below w.heap.size w W7_0 := below_thru hB7 hN
  have hs8 := hB8.size
  have J_b8 : Hid (IsL W7_0 .u8 (.slice a0 32 c0) bs) := Lib.hid (IsL.below J_b7.out hN)
  clear hB7 hs7 J_b7
  clear hN hW7_0
  go_wp2_with (refine wpList_load_box9 rfl _ _ rfl x_h8 rfl Try.underlying26 rfl SG.out ?_)
  refine (WG _).mono ?_
  rintro e w9 ⟨vd, rfl, hod, hb⟩
  clear WG
  have hB9 : Below w.heap.size w w9 := below_thru hB8 hb
  have hs9 := hB9.size
  have x_h9 : Box w9 (w7.heap.size) (VG) := Box.below x_h8 hb
  have J_b9 : Hid (IsL w9 .u8 (.slice a0 32 c0) bs) := Lib.hid (IsL.below J_b8.out hb)
  clear hB8 hs8 x_h8 J_b8
  clear hb
  have J_d9 : Hid (IsL w9 .u8 (vd) bs) := Lib.hid (IsL.own hod rfl)
  clear hod
  go_wp2_with fail
  refine (sameb_tt _ J_d9.out J_b9.out).mono ?_
  rintro e w10 ⟨rfl, hb⟩
  have hB10 : Below w.heap.size w w10 := below_thru hB9 hb
  have hs10 := hB10.size
  have x_h10 : Box w10 (w7.heap.size) (VG) := Box.below x_h9 hb
  have J_b10 : Hid (IsL w10 .u8 (.slice a0 32 c0) bs) := Lib.hid (IsL.below J_b9.out hb)
  have J_d10 : Hid (IsL w10 .u8 (vd) bs) := Lib.hid (IsL.below J_d9.out hb)
  clear hB9 hs9 x_h9 J_b9 J_d9
  clear hb
  clear J_d10
  clear J_b10
  go_wp2_with (refine wpList_load_box9 rfl _ _ rfl x_h10 rfl Try.underlying26 rfl SG.out ?_)
  refine (KG _).mono ?_
  rintro e w11 ⟨rfl, hb⟩
  have hB11 : Below w.heap.size w w11 := below_thru hB10 hb
  have hs11 := hB11.size
  have x_h11 : Box w11 (w7.heap.size) (VG) := Box.below x_h10 hb
  clear hB10 hs10 x_h10
  clear hb
  go_wp2_with fail
  refine (alive10_is _).mono ?_
  rintro e w12 ⟨rfl, hb⟩
  have hB12 : Below w.heap.size w w12 := below_thru hB11 hb
  have hs12 := hB12.size
  have x_h12 : Box w12 (w7.heap.size) (VG) := Box.below x_h11 hb
  clear hB11 hs11 x_h11
  clear hb
  go_wp2_with fail
  go_returns
  exact ⟨rfl, hB12⟩

set_option maxRecDepth 100000 in
set_option maxHeartbeats 12800000 in
theorem one10_eqf (r : Rep) {v : Value} {bs : List Int} (hA : r.Ok) (hlen : bs.length ≤ 200) (PB : PReads 11 bs Rep.zero 12) (w : World) (h1 : IsL w .u8 v bs) : Calls Try.prog 6 #[.agg r.v.toArray, .agg r.v.toArray, v] w fun e w' => e = .returned (.bool true) ∧ Below w.heap.size w w' := by
  obtain ⟨a0, c0, rfl, hr, _⟩ := id h1
  have i1 := hr.room
  have i2 := hr.most
  have HV := Lib.hid h1
  have d1 : decide ((200 : Int) < (bs.length : Int)) = false := decide_eq_false (by omega)
  unfold PReads at PB
  have SG := Lib.hid (size_rep Rep.zero); have LG0 := len_rep Rep.zero Rep.zero; have OG := Lib.hid (one_rep Rep.zero)
  have SV := Lib.hid (size_rep r); have SS := Lib.hid (size_rep r)
  have WR := fun W => pwr_is r (xs := r.bs) (q := 0) (Or.inl ⟨rfl, hA, rfl⟩) W; have KR := fun W => rchk_is r (q := 0) (Lib.hid (Or.inl ⟨rfl, hA⟩)) W; have PA := pparse_self hA; unfold PReads at PA
  have LV := Lib.hid (len_rep Rep.zero r); have OV := Lib.hid (one_rep r); have EV := fun W => eqp_t (rfl : r = r) W; have LX := Lib.hid r.bs_len
  obtain ⟨XS, hXS⟩ : ∃ X, r.bs = X := ⟨_, rfl⟩
  rw [hXS] at WR PA LX
  clear hXS
  obtain ⟨V, hV⟩ : ∃ V, r.v = V := ⟨_, rfl⟩
  rw [hV] at SV WR KR PA LV OV EV SS ⊢
  obtain ⟨VG, hVG⟩ : ∃ V, Rep.zero.v = V := ⟨_, rfl⟩
  have LG : Hid (Rep.zero.v.length = VG.length) := Lib.hid (by rw [hVG])
  rw [hVG] at PB SG OG
  clear LG0 hr h1 hV hVG hA hlen
  go_enter Try.func6, Try.ntmps6
  go_upto_region 1 with fail
  refine F_gen (F := fun W => Code.wp _ _ _ _ W) (J := fun W => Box W (w.heap.size) (V) ∧ Box W (w.heap.size + 1) (V) ∧ Below w.heap.size w W) (And.intro (Box.alloc (Box.newc rfl rfl) _) (And.intro (Box.newc rfl (by simp)) (by go_grown))) ?_
  intro w0 ⟨e_r, e_s, hB0⟩
  have hs0 := hB0.size
  have x_r0 := e_r; clear e_r
  have x_s0 := e_s; clear e_s
  have J_b0 : Hid (IsL w0 .u8 (.slice a0 bs.length c0) bs) := Lib.hid (HV.out.below hB0)
  go_wp2_with (refine wpList_load_box9 rfl _ _ rfl x_r0 rfl Try.underlying26 rfl SV.out ?_)
  refine (WR _).mono ?_
  rintro e w1 ⟨va, rfl, hoa, hb⟩
  have hB1 : Below w.heap.size w w1 := below_thru hB0 hb
  have hs1 := hB1.size
  have x_r1 : Box w1 (w.heap.size) (V) := Box.below x_r0 hb
  have x_s1 : Box w1 (w.heap.size + 1) (V) := Box.below x_s0 hb
  have J_b1 : Hid (IsL w1 .u8 (.slice a0 bs.length c0) bs) := Lib.hid (IsL.below J_b0.out hb)
  clear hB0 hs0 x_r0 x_s0 J_b0
  clear hb
  have ha := IsL.own hoa rfl; obtain ⟨ax, cx, rfl⟩ := own_sl32 hoa LX.out; clear hoa
  have J_a1 : Hid (IsL w1 .u8 (.slice ax 32 cx) XS) := Lib.hid ha
  clear ha
  go_wp2_with (refine wpList_load_box9 rfl _ _ rfl x_s1 rfl Try.underlying26 rfl SS.out ?_)
  refine (WR _).mono ?_
  rintro e w2 ⟨vc, rfl, hoa, hb⟩
  clear WR
  have hB2 : Below w.heap.size w w2 := below_thru hB1 hb
  have hs2 := hB2.size
  have x_r2 : Box w2 (w.heap.size) (V) := Box.below x_r1 hb
  have x_s2 : Box w2 (w.heap.size + 1) (V) := Box.below x_s1 hb
  have J_b2 : Hid (IsL w2 .u8 (.slice a0 bs.length c0) bs) := Lib.hid (IsL.below J_b1.out hb)
  have J_a2 : Hid (IsL w2 .u8 (.slice ax 32 cx) XS) := Lib.hid (IsL.below J_a1.out hb)
  clear hB1 hs1 x_r1 x_s1 J_b1 J_a1
  clear hb
  have ha := IsL.own hoa rfl; obtain ⟨ay, cy, rfl⟩ := own_sl32 hoa LX.out; clear hoa
  have J_c2 : Hid (IsL w2 .u8 (.slice ay 32 cy) XS) := Lib.hid ha
  clear ha
  go_wp2_with (refine wpList_load_box9 rfl _ _ rfl x_r2 rfl Try.underlying26 rfl SV.out ?_)
  refine (KR _).mono ?_
  rintro e w3 ⟨rfl, hb⟩
  clear KR
  have hB3 : Below w.heap.size w w3 := below_thru hB2 hb
  have hs3 := hB3.size
  have x_r3 : Box w3 (w.heap.size) (V) := Box.below x_r2 hb
  have x_s3 : Box w3 (w.heap.size + 1) (V) := Box.below x_s2 hb
  have J_b3 : Hid (IsL w3 .u8 (.slice a0 bs.length c0) bs) := Lib.hid (IsL.below J_b2.out hb)
  have J_a3 : Hid (IsL w3 .u8 (.slice ax 32 cx) XS) := Lib.hid (IsL.below J_a2.out hb)
  have J_c3 : Hid (IsL w3 .u8 (.slice ay 32 cy) XS) := Lib.hid (IsL.below J_c2.out hb)
  clear hB2 hs2 x_r2 x_s2 J_b2 J_a2 J_c2
  clear hb
  go_wp2_with fail
  refine (PA _ _ J_a3.out).mono ?_
  rintro e w4 ⟨rfl, hb⟩
  clear PA
  have hB4 : Below w.heap.size w w4 := below_thru hB3 hb
  have hs4 := hB4.size
  have x_r4 : Box w4 (w.heap.size) (V) := Box.below x_r3 hb
  have x_s4 : Box w4 (w.heap.size + 1) (V) := Box.below x_s3 hb
  have J_b4 : Hid (IsL w4 .u8 (.slice a0 bs.length c0) bs) := Lib.hid (IsL.below J_b3.out hb)
  have J_a4 : Hid (IsL w4 .u8 (.slice ax 32 cx) XS) := Lib.hid (IsL.below J_a3.out hb)
  have J_c4 : Hid (IsL w4 .u8 (.slice ay 32 cy) XS) := Lib.hid (IsL.below J_c3.out hb)
  clear hB3 hs3 x_r3 x_s3 J_b3 J_a3 J_c3
  clear hb
  have d_g_r := (x_r4).lt
  have d_g_s := (x_s4).lt
  have d_g_0 := hs4
  go_upto_region 9 with (refine wpList_store_box (cs := V) rfl _ _ _ rfl (Box.newc (l := Rep.zero.v) rfl rfl) rfl rfl SV.out LV.out OV.out ?_; intro W4_0 hW4_0)
  have hN : Below w4.heap.size w4 W4_0 := (hW4_0.below _ _ (by omega) ((Below.refl _ w4).alloc (Nat.le_refl _) _))
  have x_g5 : Box W4_0 (w4.heap.size) (V) := hW4_0.box
  have hB5 : Below w.heap.size w W4_0 := below_thru hB4 hN
  have hs5 := hB5.size
  have x_r5 : Box W4_0 (w.heap.size) (V) := Box.below x_r4 hN
  have x_s5 : Box W4_0 (w.heap.size + 1) (V) := Box.below x_s4 hN
  have J_b5 : Hid (IsL W4_0 .u8 (.slice a0 bs.length c0) bs) := Lib.hid (IsL.below J_b4.out hN)
  have J_a5 : Hid (IsL W4_0 .u8 (.slice ax 32 cx) XS) := Lib.hid (IsL.below J_a4.out hN)
  have J_c5 : Hid (IsL W4_0 .u8 (.slice ay 32 cy) XS) := Lib.hid (IsL.below J_c4.out hN)
  clear hB4 hs4 x_r4 x_s4 J_b4 J_a4 J_c4
  clear hN hW4_0
  refine wp_region_held_drew (S := fun W => Box W (w.heap.size) (V) ∧ Box W (w.heap.size + 1) (V) ∧ Box W (w4.heap.size) (V)) (by kernel_rfl) (And.intro (x_r5).drew (And.intro (x_s5).drew (x_g5).drew)) (fun _ => ?_)
  refine F_drew (F := fun W => wpAnyH _ _ _ _ _ _ _ _ W) ?_
  intro Wm0 hbm0
  clear hs5
  have x_r_m0 : Box Wm0 (w.heap.size) (V) := Box.below x_r5 hbm0
  have x_s_m0 : Box Wm0 (w.heap.size + 1) (V) := Box.below x_s5 hbm0
  have x_g_m0 : Box Wm0 (w4.heap.size) (V) := Box.below x_g5 hbm0
  have j_b_m0 := Lib.hid (IsL.below J_b5.out hbm0)
  have j_a_m0 := Lib.hid (IsL.below J_a5.out hbm0)
  have j_c_m0 := Lib.hid (IsL.below J_c5.out hbm0)
  have Bm0 := below_thru hB5 hbm0
  clear x_r5 x_s5 x_g5 J_b5 J_a5 J_c5 hB5 hbm0
  refine takeH 0 44 (v := ?vm0_1) rfl (by rfl) (by kernel_rfl) (by kernel_rfl) (by kernel_rfl) (fun _ _ _ h => h) (Or.inl ⟨by rfl, ?_⟩) ((And.intro x_r_m0 (And.intro x_s_m0 x_g_m0))) ?_
  rotate_left
  · intro wq hSq
    go_simp
    exact rfl
  try simp only [Act.put, List.setIfInBounds_toArray, List.set_cons_zero, List.set_cons_succ]
  refine takeH 1 45 (v := ?vm1_2) rfl (by rfl) (by kernel_rfl) (by kernel_rfl) (by kernel_rfl) (fun _ _ _ h => h) (Or.inl ⟨by rfl, ?_⟩) ((And.intro x_r_m0 (And.intro x_s_m0 x_g_m0))) ?_
  rotate_left
  · intro wq hSq
    go_simp
    exact rfl
  try simp only [Act.put, List.setIfInBounds_toArray, List.set_cons_zero, List.set_cons_succ]
  refine takeH 2 46 (v := ?vm2_3) rfl (by rfl) (by kernel_rfl) (by kernel_rfl) (by kernel_rfl) (fun _ _ _ h => h) (Or.inl ⟨by rfl, ?_⟩) ((And.intro x_r_m0 (And.intro x_s_m0 x_g_m0))) ?_
  rotate_left
  · intro wq hSq
    go_simp
    exact rfl
  try simp only [Act.put, List.setIfInBounds_toArray, List.set_cons_zero, List.set_cons_succ]
  refine takeH 3 47 (v := .agg (V).toArray) rfl (by rfl) (by kernel_rfl) (by kernel_rfl) (by kernel_rfl) (fun _ _ _ h => h) (yieldsIf_load_mid (by rfl) _ _ rfl _ _ rfl (V) _ (fun wq hq => Box.range (hq.2.2)) Try.underlying26 rfl SV.out) ((And.intro x_r_m0 (And.intro x_s_m0 x_g_m0))) ?_
  try simp only [Act.put, List.setIfInBounds_toArray, List.set_cons_zero, List.set_cons_succ]
  refine takeH 4 48 (v := .agg (V).toArray) rfl (by rfl) (by kernel_rfl) (by kernel_rfl) (by kernel_rfl) (fun _ _ _ h => h) (yieldsIf_load_mid (by rfl) _ _ rfl _ _ rfl (V) _ (fun wq hq => Box.range (hq.1)) Try.underlying26 rfl SV.out) ((And.intro x_r_m0 (And.intro x_s_m0 x_g_m0))) ?_
  try simp only [Act.put, List.setIfInBounds_toArray, List.set_cons_zero, List.set_cons_succ]
  refine takeH 5 49 (v := ?vm5_4) rfl (by rfl) (by kernel_rfl) (by kernel_rfl) (by kernel_rfl) (fun _ _ _ h => h) (Or.inl ⟨by rfl, ?_⟩) ((And.intro x_r_m0 (And.intro x_s_m0 x_g_m0))) ?_
  rotate_left
  · intro wq hSq
    go_simp
    exact rfl
  try simp only [Act.put, List.setIfInBounds_toArray, List.set_cons_zero, List.set_cons_succ]
  refine takeH 6 50 (v := ?vm6_5) rfl (by rfl) (by kernel_rfl) (by kernel_rfl) (by kernel_rfl) (fun _ _ _ h => h) (Or.inl ⟨by rfl, ?_⟩) ((And.intro x_r_m0 (And.intro x_s_m0 x_g_m0))) ?_
  rotate_left
  · intro wq hSq
    go_simp
    exact rfl
  try simp only [Act.put, List.setIfInBounds_toArray, List.set_cons_zero, List.set_cons_succ]
  refine takeH 7 51 (v := ?vm7_6) rfl (by rfl) (by kernel_rfl) (by kernel_rfl) (by kernel_rfl) (fun _ _ _ h => h) (Or.inl ⟨by rfl, ?_⟩) ((And.intro x_r_m0 (And.intro x_s_m0 x_g_m0))) ?_
  rotate_left
  · intro wq hSq
    go_simp
    exact rfl
  try simp only [Act.put, List.setIfInBounds_toArray, List.set_cons_zero, List.set_cons_succ]
  refine takeH 8 52 (v := ?vm8_7) rfl (by rfl) (by kernel_rfl) (by kernel_rfl) (by kernel_rfl) (fun _ _ _ h => h) (Or.inl ⟨by rfl, ?_⟩) ((And.intro x_r_m0 (And.intro x_s_m0 x_g_m0))) ?_
  rotate_left
  · intro wq hSq
    go_simp
    exact rfl
  try simp only [Act.put, List.setIfInBounds_toArray, List.set_cons_zero, List.set_cons_succ]
  refine takeH 9 53 (v := ?vm9_8) rfl (by rfl) (by kernel_rfl) (by kernel_rfl) (by kernel_rfl) (fun _ _ _ h => h) (Or.inl ⟨by rfl, ?_⟩) ((And.intro x_r_m0 (And.intro x_s_m0 x_g_m0))) ?_
  rotate_left
  · intro wq hSq
    go_simp
    exact rfl
  try simp only [Act.put, List.setIfInBounds_toArray, List.set_cons_zero, List.set_cons_succ]
  refine takeH 10 54 (v := ?vm10_9) rfl (by rfl) (by kernel_rfl) (by kernel_rfl) (by kernel_rfl) (fun _ _ _ h => h) (Or.inl ⟨by rfl, ?_⟩) ((And.intro x_r_m0 (And.intro x_s_m0 x_g_m0))) ?_
  rotate_left
  · intro wq hSq
    go_simp
    exact rfl
  try simp only [Act.put, List.setIfInBounds_toArray, List.set_cons_zero, List.set_cons_succ]
  refine takeH 11 55 (v := ?vm11_10) rfl (by rfl) (by kernel_rfl) (by kernel_rfl) (by kernel_rfl) (fun _ _ _ h => h) (Or.inl ⟨by rfl, ?_⟩) ((And.intro x_r_m0 (And.intro x_s_m0 x_g_m0))) ?_
  rotate_left
  · intro wq hSq
    go_simp
    exact rfl
  try simp only [Act.put, List.setIfInBounds_toArray, List.set_cons_zero, List.set_cons_succ]
  refine takeH 12 56 (v := ?vm12_11) rfl (by rfl) (by kernel_rfl) (by kernel_rfl) (by kernel_rfl) (fun _ _ _ h => h) (Or.inl ⟨by rfl, ?_⟩) ((And.intro x_r_m0 (And.intro x_s_m0 x_g_m0))) ?_
  rotate_left
  · intro wq hSq
    go_simp
    exact rfl
  try simp only [Act.put, List.setIfInBounds_toArray, List.set_cons_zero, List.set_cons_succ]
  refine takeH 13 57 (v := ?vm13_12) rfl (by rfl) (by kernel_rfl) (by kernel_rfl) (by kernel_rfl) (fun _ _ _ h => h) (Or.inl ⟨by rfl, ?_⟩) ((And.intro x_r_m0 (And.intro x_s_m0 x_g_m0))) ?_
  rotate_left
  · intro wq hSq
    go_simp
    exact rfl
  try simp only [Act.put, List.setIfInBounds_toArray, List.set_cons_zero, List.set_cons_succ]
  refine takeH 14 58 (v := ?vm14_13) rfl (by rfl) (by kernel_rfl) (by kernel_rfl) (by kernel_rfl) (fun _ _ _ h => h) (Or.inl ⟨by rfl, ?_⟩) ((And.intro x_r_m0 (And.intro x_s_m0 x_g_m0))) ?_
  rotate_left
  · intro wq hSq
    go_simp
    exact rfl
  try simp only [Act.put, List.setIfInBounds_toArray, List.set_cons_zero, List.set_cons_succ]
  refine takeH 15 59 (v := ?vm15_14) rfl (by rfl) (by kernel_rfl) (by kernel_rfl) (by kernel_rfl) (fun _ _ _ h => h) (Or.inl ⟨by rfl, ?_⟩) ((And.intro x_r_m0 (And.intro x_s_m0 x_g_m0))) ?_
  rotate_left
  · intro wq hSq
    go_simp
    exact rfl
  try simp only [Act.put, List.setIfInBounds_toArray, List.set_cons_zero, List.set_cons_succ]
  refine takeH 16 60 (v := ?vm16_15) rfl (by rfl) (by kernel_rfl) (by kernel_rfl) (by kernel_rfl) (fun _ _ _ h => h) (Or.inl ⟨by rfl, ?_⟩) ((And.intro x_r_m0 (And.intro x_s_m0 x_g_m0))) ?_
  rotate_left
  · intro wq hSq
    go_simp
    exact rfl
  try simp only [Act.put, List.setIfInBounds_toArray, List.set_cons_zero, List.set_cons_succ]
  refine takeH 17 61 (v := ?vm17_16) rfl (by rfl) (by kernel_rfl) (by kernel_rfl) (by kernel_rfl) (fun _ _ _ h => h) (Or.inl ⟨by rfl, ?_⟩) ((And.intro x_r_m0 (And.intro x_s_m0 x_g_m0))) ?_
  rotate_left
  · intro wq hSq
    go_simp
    exact rfl
  try simp only [Act.put, List.setIfInBounds_toArray, List.set_cons_zero, List.set_cons_succ]
  refine takeH 18 62 (v := ?vm18_17) rfl (by rfl) (by kernel_rfl) (by kernel_rfl) (by kernel_rfl) (fun _ _ _ h => h) (Or.inl ⟨by rfl, ?_⟩) ((And.intro x_r_m0 (And.intro x_s_m0 x_g_m0))) ?_
  rotate_left
  · intro wq hSq
    go_simp
    exact rfl
  try simp only [Act.put, List.setIfInBounds_toArray, List.set_cons_zero, List.set_cons_succ]
  refine takeH 19 63 (v := ?vm19_18) rfl (by rfl) (by kernel_rfl) (by kernel_rfl) (by kernel_rfl) (fun _ _ _ h => h) (Or.inl ⟨by rfl, ?_⟩) ((And.intro x_r_m0 (And.intro x_s_m0 x_g_m0))) ?_
  rotate_left
  · intro wq hSq
    go_simp
    exact rfl
  try simp only [Act.put, List.setIfInBounds_toArray, List.set_cons_zero, List.set_cons_succ]
  refine takeH 20 64 (v := ?vm20_19) rfl (by rfl) (by kernel_rfl) (by kernel_rfl) (by kernel_rfl) (fun _ _ _ h => h) (Or.inl ⟨by rfl, ?_⟩) ((And.intro x_r_m0 (And.intro x_s_m0 x_g_m0))) ?_
  rotate_left
  · intro wq hSq
    go_simp
    exact rfl
  try simp only [Act.put, List.setIfInBounds_toArray, List.set_cons_zero, List.set_cons_succ]
  refine takeH 21 65 (v := ?vm21_20) rfl (by rfl) (by kernel_rfl) (by kernel_rfl) (by kernel_rfl) (fun _ _ _ h => h) (Or.inl ⟨by rfl, ?_⟩) ((And.intro x_r_m0 (And.intro x_s_m0 x_g_m0))) ?_
  rotate_left
  · intro wq hSq
    go_simp
    exact rfl
  try simp only [Act.put, List.setIfInBounds_toArray, List.set_cons_zero, List.set_cons_succ]
  refine takeH 22 66 (v := ?vm22_21) rfl (by rfl) (by kernel_rfl) (by kernel_rfl) (by kernel_rfl) (fun _ _ _ h => h) (Or.inl ⟨by rfl, ?_⟩) ((And.intro x_r_m0 (And.intro x_s_m0 x_g_m0))) ?_
  rotate_left
  · intro wq hSq
    go_simp
    exact rfl
  try simp only [Act.put, List.setIfInBounds_toArray, List.set_cons_zero, List.set_cons_succ]
  refine takeH 23 67 (v := ?vm23_22) rfl (by rfl) (by kernel_rfl) (by kernel_rfl) (by kernel_rfl) (fun _ _ _ h => h) (Or.inl ⟨by rfl, ?_⟩) ((And.intro x_r_m0 (And.intro x_s_m0 x_g_m0))) ?_
  rotate_left
  · intro wq hSq
    go_simp
    exact rfl
  try simp only [Act.put, List.setIfInBounds_toArray, List.set_cons_zero, List.set_cons_succ]
  refine takeH 25 69 (v := .agg (V).toArray) rfl (by rfl) (by kernel_rfl) (by kernel_rfl) (by kernel_rfl) (fun _ _ _ h => h) (yieldsIf_load_mid (by rfl) _ _ rfl _ _ rfl (V) _ (fun wq hq => Box.range (hq.1)) Try.underlying26 rfl SV.out) ((And.intro x_r_m0 (And.intro x_s_m0 x_g_m0))) ?_
  try simp only [Act.put, List.setIfInBounds_toArray, List.set_cons_zero, List.set_cons_succ]
  refine takeH 26 70 (v := .agg (V).toArray) rfl (by rfl) (by kernel_rfl) (by kernel_rfl) (by kernel_rfl) (fun _ _ _ h => h) (yieldsIf_load_mid (by rfl) _ _ rfl _ _ rfl (V) _ (fun wq hq => Box.range (hq.2.1)) Try.underlying26 rfl SS.out) ((And.intro x_r_m0 (And.intro x_s_m0 x_g_m0))) ?_
  try simp only [Act.put, List.setIfInBounds_toArray, List.set_cons_zero, List.set_cons_succ]
  refine takeH 27 71 (v := ?vm27_23) rfl (by rfl) (by kernel_rfl) (by kernel_rfl) (by kernel_rfl) (fun _ _ _ h => h) (Or.inl ⟨by rfl, ?_⟩) ((And.intro x_r_m0 (And.intro x_s_m0 x_g_m0))) ?_
  rotate_left
  · intro wq hSq
    go_simp
    exact rfl
  try simp only [Act.put, List.setIfInBounds_toArray, List.set_cons_zero, List.set_cons_succ]
  refine wpAnyH_ready (rs := [24]) (by kernel_rfl) (by simp) (AllReadyH.cons rfl (fun K hK => ?_) AllReadyH.nil)
  go_simp
  refine (sameb_tt _ j_a_m0.out j_c_m0.out).mono ?_
  rintro e Wm24 ⟨rfl, hbm24⟩
  have x_r_m24 : Box Wm24 (w.heap.size) (V) := Box.below x_r_m0 hbm24
  have x_s_m24 : Box Wm24 (w.heap.size + 1) (V) := Box.below x_s_m0 hbm24
  have x_g_m24 : Box Wm24 (w4.heap.size) (V) := Box.below x_g_m0 hbm24
  have j_b_m24 := Lib.hid (IsL.below j_b_m0.out hbm24)
  have j_a_m24 := Lib.hid (IsL.below j_a_m0.out hbm24)
  have j_c_m24 := Lib.hid (IsL.below j_c_m0.out hbm24)
  have Bm24 := below_thru Bm0 hbm24
  clear x_r_m0 x_s_m0 x_g_m0 j_b_m0 j_a_m0 j_c_m0 Bm0 hbm24
  refine hK.out _ _ (And.intro x_r_m24 (And.intro x_s_m24 x_g_m24)) (fun _ => ?_); clear hK K
  refine takeH 28 72 (v := ?vm28_25) rfl (by rfl) (by kernel_rfl) (by kernel_rfl) (by kernel_rfl) (fun _ _ _ h => h) (Or.inl ⟨by rfl, ?_⟩) ((And.intro x_r_m24 (And.intro x_s_m24 x_g_m24))) ?_
  rotate_left
  · intro wq hSq
    go_simp
    exact rfl
  try simp only [Act.put, List.setIfInBounds_toArray, List.set_cons_zero, List.set_cons_succ]
  refine takeH 29 73 (v := ?vm29_26) rfl (by rfl) (by kernel_rfl) (by kernel_rfl) (by kernel_rfl) (fun _ _ _ h => h) (Or.inl ⟨by rfl, ?_⟩) ((And.intro x_r_m24 (And.intro x_s_m24 x_g_m24))) ?_
  rotate_left
  · intro wq hSq
    go_simp
    exact rfl
  try simp only [Act.put, List.setIfInBounds_toArray, List.set_cons_zero, List.set_cons_succ]
  refine takeH 30 74 (v := ?vm30_27) rfl (by rfl) (by kernel_rfl) (by kernel_rfl) (by kernel_rfl) (fun _ _ _ h => h) (Or.inl ⟨by rfl, ?_⟩) ((And.intro x_r_m24 (And.intro x_s_m24 x_g_m24))) ?_
  rotate_left
  · intro wq hSq
    go_simp
    exact rfl
  try simp only [Act.put, List.setIfInBounds_toArray, List.set_cons_zero, List.set_cons_succ]
  refine takeH 31 75 (v := ?vm31_28) rfl (by rfl) (by kernel_rfl) (by kernel_rfl) (by kernel_rfl) (fun _ _ _ h => h) (Or.inl ⟨by rfl, ?_⟩) ((And.intro x_r_m24 (And.intro x_s_m24 x_g_m24))) ?_
  rotate_left
  · intro wq hSq
    go_simp
    exact rfl
  try simp only [Act.put, List.setIfInBounds_toArray, List.set_cons_zero, List.set_cons_succ]
  refine wpAnyH_done (by kernel_rfl) ?_ _
  have hB6 := Bm24; have hs6 := hB6.size
  have x_r6 := x_r_m24
  have x_s6 := x_s_m24
  have x_g6 := x_g_m24
  have J_b6 := j_b_m24
  have J_a6 := j_a_m24
  have J_c6 := j_c_m24
  clear Bm24 x_r_m24 x_s_m24 x_g_m24 j_b_m24 j_a_m24 j_c_m24
  clear J_a6
  clear x_g6
  clear J_c6
  clear x_r6
  clear x_s6
  go_wp2_with fail
  refine (PB _ _ J_b6.out).mono ?_
  rintro e w7 ⟨rfl, hb⟩
  clear PB
  have hB7 : Below w.heap.size w w7 := below_thru hB6 hb
  have hs7 := hB7.size
  have J_b7 : Hid (IsL w7 .u8 (.slice a0 bs.length c0) bs) := Lib.hid (IsL.below J_b6.out hb)
  clear hB6 hs6 J_b6
  clear hb
  have d_h_0 := hs7
  go_upto_region 12 with (refine wpList_store_box (cs := VG) rfl _ _ _ rfl (Box.newc (l := Rep.zero.v) rfl rfl) rfl rfl SG.out LG.out OG.out ?_; intro W7_0 hW7_0)
  have hN : Below w7.heap.size w7 W7_0 := (hW7_0.below _ _ (by omega) ((Below.refl _ w7).alloc (Nat.le_refl _) _))
  have x_h8 : Box W7_0 (w7.heap.size) (VG) := hW7_0.box
  have hB8 : Below w.heap.size w W7_0 := below_thru hB7 hN
  have hs8 := hB8.size
  have J_b8 : Hid (IsL W7_0 .u8 (.slice a0 bs.length c0) bs) := Lib.hid (IsL.below J_b7.out hN)
  clear hB7 hs7 J_b7
  clear hN hW7_0
  go_wp2_with fail
  refine (alive10_is _).mono ?_
  rintro e w9 ⟨rfl, hb⟩
  have hB9 : Below w.heap.size w w9 := below_thru hB8 hb
  have hs9 := hB9.size
  have x_h9 : Box w9 (w7.heap.size) (VG) := Box.below x_h8 hb
  have J_b9 : Hid (IsL w9 .u8 (.slice a0 bs.length c0) bs) := Lib.hid (IsL.below J_b8.out hb)
  clear hB8 hs8 x_h8 J_b8
  clear hb
  go_wp2_with fail
  go_returns
  exact ⟨rfl, hB9⟩

set_option maxRecDepth 100000 in
set_option maxHeartbeats 12800000 in
theorem one10_net (r : Rep) {v : Value} {bs : List Int} (s : Rep) (hA : r.Ok) (hS : s.Ok) (hne : r ≠ s) (G : Rep) (hG : G.Ok) (hlen : bs.length = 32) (hGb : G.bs = bs) (PB : PReads 11 bs G 0) (w : World) (h1 : IsL w .u8 v bs) : Calls Try.prog 6 #[.agg r.v.toArray, .agg s.v.toArray, v] w fun e w' => e = .returned (.bool true) ∧ Below w.heap.size w w' := by
  obtain ⟨a0, c0, rfl, hr, _⟩ := id h1
  have i1 := hr.room
  have i2 := hr.most
  have HV := Lib.hid h1
  rw [hlen] at HV i1 ⊢
  have WG := fun W => pwr_is G (xs := bs) (q := 0) (Or.inl ⟨rfl, hG, hGb.symm⟩) W
  have KG := fun W => rchk_is G (q := 0) (Lib.hid (Or.inl ⟨rfl, hG⟩)) W
  unfold PReads at PB
  have SG := Lib.hid (size_rep G); have LG0 := len_rep Rep.zero G; have OG := Lib.hid (one_rep G)
  have SV := Lib.hid (size_rep r); have SS := Lib.hid (size_rep s)
  have WR := fun W => pwr_is r (xs := r.bs) (q := 0) (Or.inl ⟨rfl, hA, rfl⟩) W; have KR := fun W => rchk_is r (q := 0) (Lib.hid (Or.inl ⟨rfl, hA⟩)) W; have PA := pparse_self hA; unfold PReads at PA
  have LV := Lib.hid (len_rep Rep.zero r); have OV := Lib.hid (one_rep r); have EV := fun W => eqp_t (rfl : r = r) W; have LX := Lib.hid r.bs_len
  have WS := fun W => pwr_is s (xs := s.bs) (q := 0) (Or.inl ⟨rfl, hS, rfl⟩) W; have ES := fun W => eqp_f hne W; have LY := Lib.hid s.bs_len; have NE : Hid (r.bs ≠ s.bs) := Lib.hid (fun e => hne (Rep.bs_inj e))
  obtain ⟨YS, hYS⟩ : ∃ X, s.bs = X := ⟨_, rfl⟩
  rw [hYS] at WS LY NE
  clear hYS hS hne
  obtain ⟨XS, hXS⟩ : ∃ X, r.bs = X := ⟨_, rfl⟩
  rw [hXS] at WR PA LX NE
  clear hXS
  obtain ⟨V, hV⟩ : ∃ V, r.v = V := ⟨_, rfl⟩
  rw [hV] at SV WR KR PA LV OV EV ES ⊢
  obtain ⟨VS, hVS⟩ : ∃ V, s.v = V := ⟨_, rfl⟩
  rw [hVS] at SS WS ES ⊢
  clear hVS
  obtain ⟨VG, hVG⟩ : ∃ V, G.v = V := ⟨_, rfl⟩
  rw [hVG] at PB SG OG LG0 WG KG
  have LG := Lib.hid LG0
  clear LG0 hr h1 hV hVG hA hlen hG hGb
  go_enter Try.func6, Try.ntmps6
  go_upto_region 1 with fail
  refine F_gen (F := fun W => Code.wp _ _ _ _ W) (J := fun W => Box W (w.heap.size) (V) ∧ Box W (w.heap.size + 1) (VS) ∧ Below w.heap.size w W) (And.intro (Box.alloc (Box.newc rfl rfl) _) (And.intro (Box.newc rfl (by simp)) (by go_grown))) ?_
  intro w0 ⟨e_r, e_s, hB0⟩
  have hs0 := hB0.size
  have x_r0 := e_r; clear e_r
  have x_s0 := e_s; clear e_s
  have J_b0 : Hid (IsL w0 .u8 (.slice a0 32 c0) bs) := Lib.hid (HV.out.below hB0)
  go_wp2_with (refine wpList_load_box9 rfl _ _ rfl x_r0 rfl Try.underlying26 rfl SV.out ?_)
  refine (WR _).mono ?_
  rintro e w1 ⟨va, rfl, hoa, hb⟩
  clear WR
  have hB1 : Below w.heap.size w w1 := below_thru hB0 hb
  have hs1 := hB1.size
  have x_r1 : Box w1 (w.heap.size) (V) := Box.below x_r0 hb
  have x_s1 : Box w1 (w.heap.size + 1) (VS) := Box.below x_s0 hb
  have J_b1 : Hid (IsL w1 .u8 (.slice a0 32 c0) bs) := Lib.hid (IsL.below J_b0.out hb)
  clear hB0 hs0 x_r0 x_s0 J_b0
  clear hb
  have ha := IsL.own hoa rfl; obtain ⟨ax, cx, rfl⟩ := own_sl32 hoa LX.out; clear hoa
  have J_a1 : Hid (IsL w1 .u8 (.slice ax 32 cx) XS) := Lib.hid ha
  clear ha
  go_wp2_with (refine wpList_load_box9 rfl _ _ rfl x_s1 rfl Try.underlying26 rfl SS.out ?_)
  refine (WS _).mono ?_
  rintro e w2 ⟨vc, rfl, hoa, hb⟩
  clear WS
  have hB2 : Below w.heap.size w w2 := below_thru hB1 hb
  have hs2 := hB2.size
  have x_r2 : Box w2 (w.heap.size) (V) := Box.below x_r1 hb
  have x_s2 : Box w2 (w.heap.size + 1) (VS) := Box.below x_s1 hb
  have J_b2 : Hid (IsL w2 .u8 (.slice a0 32 c0) bs) := Lib.hid (IsL.below J_b1.out hb)
  have J_a2 : Hid (IsL w2 .u8 (.slice ax 32 cx) XS) := Lib.hid (IsL.below J_a1.out hb)
  clear hB1 hs1 x_r1 x_s1 J_b1 J_a1
  clear hb
  have ha := IsL.own hoa rfl; obtain ⟨ay, cy, rfl⟩ := own_sl32 hoa LY.out; clear hoa
  have J_c2 : Hid (IsL w2 .u8 (.slice ay 32 cy) YS) := Lib.hid ha
  clear ha
  go_wp2_with (refine wpList_load_box9 rfl _ _ rfl x_r2 rfl Try.underlying26 rfl SV.out ?_)
  refine (KR _).mono ?_
  rintro e w3 ⟨rfl, hb⟩
  clear KR
  have hB3 : Below w.heap.size w w3 := below_thru hB2 hb
  have hs3 := hB3.size
  have x_r3 : Box w3 (w.heap.size) (V) := Box.below x_r2 hb
  have x_s3 : Box w3 (w.heap.size + 1) (VS) := Box.below x_s2 hb
  have J_b3 : Hid (IsL w3 .u8 (.slice a0 32 c0) bs) := Lib.hid (IsL.below J_b2.out hb)
  have J_a3 : Hid (IsL w3 .u8 (.slice ax 32 cx) XS) := Lib.hid (IsL.below J_a2.out hb)
  have J_c3 : Hid (IsL w3 .u8 (.slice ay 32 cy) YS) := Lib.hid (IsL.below J_c2.out hb)
  clear hB2 hs2 x_r2 x_s2 J_b2 J_a2 J_c2
  clear hb
  go_wp2_with fail
  refine (PA _ _ J_a3.out).mono ?_
  rintro e w4 ⟨rfl, hb⟩
  clear PA
  have hB4 : Below w.heap.size w w4 := below_thru hB3 hb
  have hs4 := hB4.size
  have x_r4 : Box w4 (w.heap.size) (V) := Box.below x_r3 hb
  have x_s4 : Box w4 (w.heap.size + 1) (VS) := Box.below x_s3 hb
  have J_b4 : Hid (IsL w4 .u8 (.slice a0 32 c0) bs) := Lib.hid (IsL.below J_b3.out hb)
  have J_a4 : Hid (IsL w4 .u8 (.slice ax 32 cx) XS) := Lib.hid (IsL.below J_a3.out hb)
  have J_c4 : Hid (IsL w4 .u8 (.slice ay 32 cy) YS) := Lib.hid (IsL.below J_c3.out hb)
  clear hB3 hs3 x_r3 x_s3 J_b3 J_a3 J_c3
  clear hb
  have d_g_r := (x_r4).lt
  have d_g_s := (x_s4).lt
  have d_g_0 := hs4
  go_upto_region 9 with (refine wpList_store_box (cs := V) rfl _ _ _ rfl (Box.newc (l := Rep.zero.v) rfl rfl) rfl rfl SV.out LV.out OV.out ?_; intro W4_0 hW4_0)
  have hN : Below w4.heap.size w4 W4_0 := (hW4_0.below _ _ (by omega) ((Below.refl _ w4).alloc (Nat.le_refl _) _))
  have x_g5 : Box W4_0 (w4.heap.size) (V) := hW4_0.box
  have hB5 : Below w.heap.size w W4_0 := below_thru hB4 hN
  have hs5 := hB5.size
  have x_r5 : Box W4_0 (w.heap.size) (V) := Box.below x_r4 hN
  have x_s5 : Box W4_0 (w.heap.size + 1) (VS) := Box.below x_s4 hN
  have J_b5 : Hid (IsL W4_0 .u8 (.slice a0 32 c0) bs) := Lib.hid (IsL.below J_b4.out hN)
  have J_a5 : Hid (IsL W4_0 .u8 (.slice ax 32 cx) XS) := Lib.hid (IsL.below J_a4.out hN)
  have J_c5 : Hid (IsL W4_0 .u8 (.slice ay 32 cy) YS) := Lib.hid (IsL.below J_c4.out hN)
  clear hB4 hs4 x_r4 x_s4 J_b4 J_a4 J_c4
  clear hN hW4_0
  refine wp_region_held_drew (S := fun W => Box W (w.heap.size) (V) ∧ Box W (w.heap.size + 1) (VS) ∧ Box W (w4.heap.size) (V)) (by kernel_rfl) (And.intro (x_r5).drew (And.intro (x_s5).drew (x_g5).drew)) (fun _ => ?_)
  refine F_drew (F := fun W => wpAnyH _ _ _ _ _ _ _ _ W) ?_
  intro Wm0 hbm0
  clear hs5
  have x_r_m0 : Box Wm0 (w.heap.size) (V) := Box.below x_r5 hbm0
  have x_s_m0 : Box Wm0 (w.heap.size + 1) (VS) := Box.below x_s5 hbm0
  have x_g_m0 : Box Wm0 (w4.heap.size) (V) := Box.below x_g5 hbm0
  have j_b_m0 := Lib.hid (IsL.below J_b5.out hbm0)
  have j_a_m0 := Lib.hid (IsL.below J_a5.out hbm0)
  have j_c_m0 := Lib.hid (IsL.below J_c5.out hbm0)
  have Bm0 := below_thru hB5 hbm0
  clear x_r5 x_s5 x_g5 J_b5 J_a5 J_c5 hB5 hbm0
  refine takeH 0 44 (v := ?vm0_1) rfl (by rfl) (by kernel_rfl) (by kernel_rfl) (by kernel_rfl) (fun _ _ _ h => h) (Or.inl ⟨by rfl, ?_⟩) ((And.intro x_r_m0 (And.intro x_s_m0 x_g_m0))) ?_
  rotate_left
  · intro wq hSq
    go_simp
    exact rfl
  try simp only [Act.put, List.setIfInBounds_toArray, List.set_cons_zero, List.set_cons_succ]
  refine takeH 1 45 (v := ?vm1_2) rfl (by rfl) (by kernel_rfl) (by kernel_rfl) (by kernel_rfl) (fun _ _ _ h => h) (Or.inl ⟨by rfl, ?_⟩) ((And.intro x_r_m0 (And.intro x_s_m0 x_g_m0))) ?_
  rotate_left
  · intro wq hSq
    go_simp
    exact rfl
  try simp only [Act.put, List.setIfInBounds_toArray, List.set_cons_zero, List.set_cons_succ]
  refine takeH 2 46 (v := ?vm2_3) rfl (by rfl) (by kernel_rfl) (by kernel_rfl) (by kernel_rfl) (fun _ _ _ h => h) (Or.inl ⟨by rfl, ?_⟩) ((And.intro x_r_m0 (And.intro x_s_m0 x_g_m0))) ?_
  rotate_left
  · intro wq hSq
    go_simp
    exact rfl
  try simp only [Act.put, List.setIfInBounds_toArray, List.set_cons_zero, List.set_cons_succ]
  refine takeH 3 47 (v := .agg (V).toArray) rfl (by rfl) (by kernel_rfl) (by kernel_rfl) (by kernel_rfl) (fun _ _ _ h => h) (yieldsIf_load_mid (by rfl) _ _ rfl _ _ rfl (V) _ (fun wq hq => Box.range (hq.2.2)) Try.underlying26 rfl SV.out) ((And.intro x_r_m0 (And.intro x_s_m0 x_g_m0))) ?_
  try simp only [Act.put, List.setIfInBounds_toArray, List.set_cons_zero, List.set_cons_succ]
  refine takeH 4 48 (v := .agg (V).toArray) rfl (by rfl) (by kernel_rfl) (by kernel_rfl) (by kernel_rfl) (fun _ _ _ h => h) (yieldsIf_load_mid (by rfl) _ _ rfl _ _ rfl (V) _ (fun wq hq => Box.range (hq.1)) Try.underlying26 rfl SV.out) ((And.intro x_r_m0 (And.intro x_s_m0 x_g_m0))) ?_
  try simp only [Act.put, List.setIfInBounds_toArray, List.set_cons_zero, List.set_cons_succ]
  refine takeH 5 49 (v := ?vm5_4) rfl (by rfl) (by kernel_rfl) (by kernel_rfl) (by kernel_rfl) (fun _ _ _ h => h) (Or.inl ⟨by rfl, ?_⟩) ((And.intro x_r_m0 (And.intro x_s_m0 x_g_m0))) ?_
  rotate_left
  · intro wq hSq
    go_simp
    exact rfl
  try simp only [Act.put, List.setIfInBounds_toArray, List.set_cons_zero, List.set_cons_succ]
  refine takeH 6 50 (v := ?vm6_5) rfl (by rfl) (by kernel_rfl) (by kernel_rfl) (by kernel_rfl) (fun _ _ _ h => h) (Or.inl ⟨by rfl, ?_⟩) ((And.intro x_r_m0 (And.intro x_s_m0 x_g_m0))) ?_
  rotate_left
  · intro wq hSq
    go_simp
    exact rfl
  try simp only [Act.put, List.setIfInBounds_toArray, List.set_cons_zero, List.set_cons_succ]
  refine takeH 7 51 (v := ?vm7_6) rfl (by rfl) (by kernel_rfl) (by kernel_rfl) (by kernel_rfl) (fun _ _ _ h => h) (Or.inl ⟨by rfl, ?_⟩) ((And.intro x_r_m0 (And.intro x_s_m0 x_g_m0))) ?_
  rotate_left
  · intro wq hSq
    go_simp
    exact rfl
  try simp only [Act.put, List.setIfInBounds_toArray, List.set_cons_zero, List.set_cons_succ]
  refine takeH 8 52 (v := ?vm8_7) rfl (by rfl) (by kernel_rfl) (by kernel_rfl) (by kernel_rfl) (fun _ _ _ h => h) (Or.inl ⟨by rfl, ?_⟩) ((And.intro x_r_m0 (And.intro x_s_m0 x_g_m0))) ?_
  rotate_left
  · intro wq hSq
    go_simp
    exact rfl
  try simp only [Act.put, List.setIfInBounds_toArray, List.set_cons_zero, List.set_cons_succ]
  refine takeH 9 53 (v := ?vm9_8) rfl (by rfl) (by kernel_rfl) (by kernel_rfl) (by kernel_rfl) (fun _ _ _ h => h) (Or.inl ⟨by rfl, ?_⟩) ((And.intro x_r_m0 (And.intro x_s_m0 x_g_m0))) ?_
  rotate_left
  · intro wq hSq
    go_simp
    exact rfl
  try simp only [Act.put, List.setIfInBounds_toArray, List.set_cons_zero, List.set_cons_succ]
  refine takeH 10 54 (v := ?vm10_9) rfl (by rfl) (by kernel_rfl) (by kernel_rfl) (by kernel_rfl) (fun _ _ _ h => h) (Or.inl ⟨by rfl, ?_⟩) ((And.intro x_r_m0 (And.intro x_s_m0 x_g_m0))) ?_
  rotate_left
  · intro wq hSq
    go_simp
    exact rfl
  try simp only [Act.put, List.setIfInBounds_toArray, List.set_cons_zero, List.set_cons_succ]
  refine takeH 11 55 (v := ?vm11_10) rfl (by rfl) (by kernel_rfl) (by kernel_rfl) (by kernel_rfl) (fun _ _ _ h => h) (Or.inl ⟨by rfl, ?_⟩) ((And.intro x_r_m0 (And.intro x_s_m0 x_g_m0))) ?_
  rotate_left
  · intro wq hSq
    go_simp
    exact rfl
  try simp only [Act.put, List.setIfInBounds_toArray, List.set_cons_zero, List.set_cons_succ]
  refine takeH 12 56 (v := ?vm12_11) rfl (by rfl) (by kernel_rfl) (by kernel_rfl) (by kernel_rfl) (fun _ _ _ h => h) (Or.inl ⟨by rfl, ?_⟩) ((And.intro x_r_m0 (And.intro x_s_m0 x_g_m0))) ?_
  rotate_left
  · intro wq hSq
    go_simp
    exact rfl
  try simp only [Act.put, List.setIfInBounds_toArray, List.set_cons_zero, List.set_cons_succ]
  refine takeH 13 57 (v := ?vm13_12) rfl (by rfl) (by kernel_rfl) (by kernel_rfl) (by kernel_rfl) (fun _ _ _ h => h) (Or.inl ⟨by rfl, ?_⟩) ((And.intro x_r_m0 (And.intro x_s_m0 x_g_m0))) ?_
  rotate_left
  · intro wq hSq
    go_simp
    exact rfl
  try simp only [Act.put, List.setIfInBounds_toArray, List.set_cons_zero, List.set_cons_succ]
  refine takeH 14 58 (v := ?vm14_13) rfl (by rfl) (by kernel_rfl) (by kernel_rfl) (by kernel_rfl) (fun _ _ _ h => h) (Or.inl ⟨by rfl, ?_⟩) ((And.intro x_r_m0 (And.intro x_s_m0 x_g_m0))) ?_
  rotate_left
  · intro wq hSq
    go_simp
    exact rfl
  try simp only [Act.put, List.setIfInBounds_toArray, List.set_cons_zero, List.set_cons_succ]
  refine takeH 15 59 (v := ?vm15_14) rfl (by rfl) (by kernel_rfl) (by kernel_rfl) (by kernel_rfl) (fun _ _ _ h => h) (Or.inl ⟨by rfl, ?_⟩) ((And.intro x_r_m0 (And.intro x_s_m0 x_g_m0))) ?_
  rotate_left
  · intro wq hSq
    go_simp
    exact rfl
  try simp only [Act.put, List.setIfInBounds_toArray, List.set_cons_zero, List.set_cons_succ]
  refine takeH 16 60 (v := ?vm16_15) rfl (by rfl) (by kernel_rfl) (by kernel_rfl) (by kernel_rfl) (fun _ _ _ h => h) (Or.inl ⟨by rfl, ?_⟩) ((And.intro x_r_m0 (And.intro x_s_m0 x_g_m0))) ?_
  rotate_left
  · intro wq hSq
    go_simp
    exact rfl
  try simp only [Act.put, List.setIfInBounds_toArray, List.set_cons_zero, List.set_cons_succ]
  refine takeH 17 61 (v := ?vm17_16) rfl (by rfl) (by kernel_rfl) (by kernel_rfl) (by kernel_rfl) (fun _ _ _ h => h) (Or.inl ⟨by rfl, ?_⟩) ((And.intro x_r_m0 (And.intro x_s_m0 x_g_m0))) ?_
  rotate_left
  · intro wq hSq
    go_simp
    exact rfl
  try simp only [Act.put, List.setIfInBounds_toArray, List.set_cons_zero, List.set_cons_succ]
  refine takeH 18 62 (v := ?vm18_17) rfl (by rfl) (by kernel_rfl) (by kernel_rfl) (by kernel_rfl) (fun _ _ _ h => h) (Or.inl ⟨by rfl, ?_⟩) ((And.intro x_r_m0 (And.intro x_s_m0 x_g_m0))) ?_
  rotate_left
  · intro wq hSq
    go_simp
    exact rfl
  try simp only [Act.put, List.setIfInBounds_toArray, List.set_cons_zero, List.set_cons_succ]
  refine takeH 19 63 (v := ?vm19_18) rfl (by rfl) (by kernel_rfl) (by kernel_rfl) (by kernel_rfl) (fun _ _ _ h => h) (Or.inl ⟨by rfl, ?_⟩) ((And.intro x_r_m0 (And.intro x_s_m0 x_g_m0))) ?_
  rotate_left
  · intro wq hSq
    go_simp
    exact rfl
  try simp only [Act.put, List.setIfInBounds_toArray, List.set_cons_zero, List.set_cons_succ]
  refine takeH 20 64 (v := ?vm20_19) rfl (by rfl) (by kernel_rfl) (by kernel_rfl) (by kernel_rfl) (fun _ _ _ h => h) (Or.inl ⟨by rfl, ?_⟩) ((And.intro x_r_m0 (And.intro x_s_m0 x_g_m0))) ?_
  rotate_left
  · intro wq hSq
    go_simp
    exact rfl
  try simp only [Act.put, List.setIfInBounds_toArray, List.set_cons_zero, List.set_cons_succ]
  refine takeH 21 65 (v := ?vm21_20) rfl (by rfl) (by kernel_rfl) (by kernel_rfl) (by kernel_rfl) (fun _ _ _ h => h) (Or.inl ⟨by rfl, ?_⟩) ((And.intro x_r_m0 (And.intro x_s_m0 x_g_m0))) ?_
  rotate_left
  · intro wq hSq
    go_simp
    exact rfl
  try simp only [Act.put, List.setIfInBounds_toArray, List.set_cons_zero, List.set_cons_succ]
  refine takeH 22 66 (v := ?vm22_21) rfl (by rfl) (by kernel_rfl) (by kernel_rfl) (by kernel_rfl) (fun _ _ _ h => h) (Or.inl ⟨by rfl, ?_⟩) ((And.intro x_r_m0 (And.intro x_s_m0 x_g_m0))) ?_
  rotate_left
  · intro wq hSq
    go_simp
    exact rfl
  try simp only [Act.put, List.setIfInBounds_toArray, List.set_cons_zero, List.set_cons_succ]
  refine takeH 23 67 (v := ?vm23_22) rfl (by rfl) (by kernel_rfl) (by kernel_rfl) (by kernel_rfl) (fun _ _ _ h => h) (Or.inl ⟨by rfl, ?_⟩) ((And.intro x_r_m0 (And.intro x_s_m0 x_g_m0))) ?_
  rotate_left
  · intro wq hSq
    go_simp
    exact rfl
  try simp only [Act.put, List.setIfInBounds_toArray, List.set_cons_zero, List.set_cons_succ]
  refine takeH 25 69 (v := .agg (V).toArray) rfl (by rfl) (by kernel_rfl) (by kernel_rfl) (by kernel_rfl) (fun _ _ _ h => h) (yieldsIf_load_mid (by rfl) _ _ rfl _ _ rfl (V) _ (fun wq hq => Box.range (hq.1)) Try.underlying26 rfl SV.out) ((And.intro x_r_m0 (And.intro x_s_m0 x_g_m0))) ?_
  try simp only [Act.put, List.setIfInBounds_toArray, List.set_cons_zero, List.set_cons_succ]
  refine takeH 26 70 (v := .agg (VS).toArray) rfl (by rfl) (by kernel_rfl) (by kernel_rfl) (by kernel_rfl) (fun _ _ _ h => h) (yieldsIf_load_mid (by rfl) _ _ rfl _ _ rfl (VS) _ (fun wq hq => Box.range (hq.2.1)) Try.underlying26 rfl SS.out) ((And.intro x_r_m0 (And.intro x_s_m0 x_g_m0))) ?_
  try simp only [Act.put, List.setIfInBounds_toArray, List.set_cons_zero, List.set_cons_succ]
  refine takeH 27 71 (v := ?vm27_23) rfl (by rfl) (by kernel_rfl) (by kernel_rfl) (by kernel_rfl) (fun _ _ _ h => h) (Or.inl ⟨by rfl, ?_⟩) ((And.intro x_r_m0 (And.intro x_s_m0 x_g_m0))) ?_
  rotate_left
  · intro wq hSq
    go_simp
    exact rfl
  try simp only [Act.put, List.setIfInBounds_toArray, List.set_cons_zero, List.set_cons_succ]
  refine wpAnyH_ready (rs := [24]) (by kernel_rfl) (by simp) (AllReadyH.cons rfl (fun K hK => ?_) AllReadyH.nil)
  go_simp
  refine (sameb_ff _ j_a_m0.out j_c_m0.out NE.out).mono ?_
  rintro e Wm24 ⟨rfl, hbm24⟩
  have x_r_m24 : Box Wm24 (w.heap.size) (V) := Box.below x_r_m0 hbm24
  have x_s_m24 : Box Wm24 (w.heap.size + 1) (VS) := Box.below x_s_m0 hbm24
  have x_g_m24 : Box Wm24 (w4.heap.size) (V) := Box.below x_g_m0 hbm24
  have j_b_m24 := Lib.hid (IsL.below j_b_m0.out hbm24)
  have j_a_m24 := Lib.hid (IsL.below j_a_m0.out hbm24)
  have j_c_m24 := Lib.hid (IsL.below j_c_m0.out hbm24)
  have Bm24 := below_thru Bm0 hbm24
  clear x_r_m0 x_s_m0 x_g_m0 j_b_m0 j_a_m0 j_c_m0 Bm0 hbm24
  refine hK.out _ _ (And.intro x_r_m24 (And.intro x_s_m24 x_g_m24)) (fun _ => ?_); clear hK K
  refine takeH 28 72 (v := ?vm28_25) rfl (by rfl) (by kernel_rfl) (by kernel_rfl) (by kernel_rfl) (fun _ _ _ h => h) (Or.inl ⟨by rfl, ?_⟩) ((And.intro x_r_m24 (And.intro x_s_m24 x_g_m24))) ?_
  rotate_left
  · intro wq hSq
    go_simp
    exact rfl
  try simp only [Act.put, List.setIfInBounds_toArray, List.set_cons_zero, List.set_cons_succ]
  refine takeH 29 73 (v := ?vm29_26) rfl (by rfl) (by kernel_rfl) (by kernel_rfl) (by kernel_rfl) (fun _ _ _ h => h) (Or.inl ⟨by rfl, ?_⟩) ((And.intro x_r_m24 (And.intro x_s_m24 x_g_m24))) ?_
  rotate_left
  · intro wq hSq
    go_simp
    exact rfl
  try simp only [Act.put, List.setIfInBounds_toArray, List.set_cons_zero, List.set_cons_succ]
  refine takeH 30 74 (v := ?vm30_27) rfl (by rfl) (by kernel_rfl) (by kernel_rfl) (by kernel_rfl) (fun _ _ _ h => h) (Or.inl ⟨by rfl, ?_⟩) ((And.intro x_r_m24 (And.intro x_s_m24 x_g_m24))) ?_
  rotate_left
  · intro wq hSq
    go_simp
    exact rfl
  try simp only [Act.put, List.setIfInBounds_toArray, List.set_cons_zero, List.set_cons_succ]
  refine takeH 31 75 (v := ?vm31_28) rfl (by rfl) (by kernel_rfl) (by kernel_rfl) (by kernel_rfl) (fun _ _ _ h => h) (Or.inl ⟨by rfl, ?_⟩) ((And.intro x_r_m24 (And.intro x_s_m24 x_g_m24))) ?_
  rotate_left
  · intro wq hSq
    go_simp
    exact rfl
  try simp only [Act.put, List.setIfInBounds_toArray, List.set_cons_zero, List.set_cons_succ]
  refine wpAnyH_done (by kernel_rfl) ?_ _
  have hB6 := Bm24; have hs6 := hB6.size
  have x_r6 := x_r_m24
  have x_s6 := x_s_m24
  have x_g6 := x_g_m24
  have J_b6 := j_b_m24
  have J_a6 := j_a_m24
  have J_c6 := j_c_m24
  clear Bm24 x_r_m24 x_s_m24 x_g_m24 j_b_m24 j_a_m24 j_c_m24
  clear J_a6
  clear x_g6
  clear J_c6
  clear x_r6
  clear x_s6
  go_wp2_with fail
  refine (PB _ _ J_b6.out).mono ?_
  rintro e w7 ⟨rfl, hb⟩
  clear PB
  have hB7 : Below w.heap.size w w7 := below_thru hB6 hb
  have hs7 := hB7.size
  have J_b7 : Hid (IsL w7 .u8 (.slice a0 32 c0) bs) := Lib.hid (IsL.below J_b6.out hb)
  clear hB6 hs6 J_b6
  clear hb
  have d_h_0 := hs7
  go_upto_region 12 with (refine wpList_store_box (cs := VG) rfl _ _ _ rfl (Box.newc (l := Rep.zero.v) rfl rfl) rfl rfl SG.out LG.out OG.out ?_; intro W7_0 hW7_0)
  have hN : Below w7.heap.size w7 W7_0 := (hW7_0.below _ _ (by omega) ((Below.refl _ w7).alloc (Nat.le_refl _) _))
  have x_h8 : Box W7_0 (w7.heap.size) (VG) := hW7_0.box
  have hB8 : Below w.heap.size w W7_0 := below_thru hB7 hN
  have hs8 := hB8.size
  have J_b8 : Hid (IsL W7_0 .u8 (.slice a0 32 c0) bs) := Lib.hid (IsL.below J_b7.out hN)
  clear hB7 hs7 J_b7
  clear hN hW7_0
  go_wp2_with (refine wpList_load_box9 rfl _ _ rfl x_h8 rfl Try.underlying26 rfl SG.out ?_)
  refine (WG _).mono ?_
  rintro e w9 ⟨vd, rfl, hod, hb⟩
  clear WG
  have hB9 : Below w.heap.size w w9 := below_thru hB8 hb
  have hs9 := hB9.size
  have x_h9 : Box w9 (w7.heap.size) (VG) := Box.below x_h8 hb
  have J_b9 : Hid (IsL w9 .u8 (.slice a0 32 c0) bs) := Lib.hid (IsL.below J_b8.out hb)
  clear hB8 hs8 x_h8 J_b8
  clear hb
  have J_d9 : Hid (IsL w9 .u8 (vd) bs) := Lib.hid (IsL.own hod rfl)
  clear hod
  go_wp2_with fail
  refine (sameb_tt _ J_d9.out J_b9.out).mono ?_
  rintro e w10 ⟨rfl, hb⟩
  have hB10 : Below w.heap.size w w10 := below_thru hB9 hb
  have hs10 := hB10.size
  have x_h10 : Box w10 (w7.heap.size) (VG) := Box.below x_h9 hb
  have J_b10 : Hid (IsL w10 .u8 (.slice a0 32 c0) bs) := Lib.hid (IsL.below J_b9.out hb)
  have J_d10 : Hid (IsL w10 .u8 (vd) bs) := Lib.hid (IsL.below J_d9.out hb)
  clear hB9 hs9 x_h9 J_b9 J_d9
  clear hb
  clear J_d10
  clear J_b10
  go_wp2_with (refine wpList_load_box9 rfl _ _ rfl x_h10 rfl Try.underlying26 rfl SG.out ?_)
  refine (KG _).mono ?_
  rintro e w11 ⟨rfl, hb⟩
  have hB11 : Below w.heap.size w w11 := below_thru hB10 hb
  have hs11 := hB11.size
  have x_h11 : Box w11 (w7.heap.size) (VG) := Box.below x_h10 hb
  clear hB10 hs10 x_h10
  clear hb
  go_wp2_with fail
  refine (alive10_is _).mono ?_
  rintro e w12 ⟨rfl, hb⟩
  have hB12 : Below w.heap.size w w12 := below_thru hB11 hb
  have hs12 := hB12.size
  have x_h12 : Box w12 (w7.heap.size) (VG) := Box.below x_h11 hb
  clear hB11 hs11 x_h11
  clear hb
  go_wp2_with fail
  go_returns
  exact ⟨rfl, hB12⟩

set_option maxRecDepth 100000 in
set_option maxHeartbeats 12800000 in
theorem one10_nef (r : Rep) {v : Value} {bs : List Int} (s : Rep) (hA : r.Ok) (hS : s.Ok) (hne : r ≠ s) (hlen : bs.length ≤ 200) (PB : PReads 11 bs Rep.zero 12) (w : World) (h1 : IsL w .u8 v bs) : Calls Try.prog 6 #[.agg r.v.toArray, .agg s.v.toArray, v] w fun e w' => e = .returned (.bool true) ∧ Below w.heap.size w w' := by
  obtain ⟨a0, c0, rfl, hr, _⟩ := id h1
  have i1 := hr.room
  have i2 := hr.most
  have HV := Lib.hid h1
  have d1 : decide ((200 : Int) < (bs.length : Int)) = false := decide_eq_false (by omega)
  unfold PReads at PB
  have SG := Lib.hid (size_rep Rep.zero); have LG0 := len_rep Rep.zero Rep.zero; have OG := Lib.hid (one_rep Rep.zero)
  have SV := Lib.hid (size_rep r); have SS := Lib.hid (size_rep s)
  have WR := fun W => pwr_is r (xs := r.bs) (q := 0) (Or.inl ⟨rfl, hA, rfl⟩) W; have KR := fun W => rchk_is r (q := 0) (Lib.hid (Or.inl ⟨rfl, hA⟩)) W; have PA := pparse_self hA; unfold PReads at PA
  have LV := Lib.hid (len_rep Rep.zero r); have OV := Lib.hid (one_rep r); have EV := fun W => eqp_t (rfl : r = r) W; have LX := Lib.hid r.bs_len
  have WS := fun W => pwr_is s (xs := s.bs) (q := 0) (Or.inl ⟨rfl, hS, rfl⟩) W; have ES := fun W => eqp_f hne W; have LY := Lib.hid s.bs_len; have NE : Hid (r.bs ≠ s.bs) := Lib.hid (fun e => hne (Rep.bs_inj e))
  obtain ⟨YS, hYS⟩ : ∃ X, s.bs = X := ⟨_, rfl⟩
  rw [hYS] at WS LY NE
  clear hYS hS hne
  obtain ⟨XS, hXS⟩ : ∃ X, r.bs = X := ⟨_, rfl⟩
  rw [hXS] at WR PA LX NE
  clear hXS
  obtain ⟨V, hV⟩ : ∃ V, r.v = V := ⟨_, rfl⟩
  rw [hV] at SV WR KR PA LV OV EV ES ⊢
  obtain ⟨VS, hVS⟩ : ∃ V, s.v = V := ⟨_, rfl⟩
  rw [hVS] at SS WS ES ⊢
  clear hVS
  obtain ⟨VG, hVG⟩ : ∃ V, Rep.zero.v = V := ⟨_, rfl⟩
  have LG : Hid (Rep.zero.v.length = VG.length) := Lib.hid (by rw [hVG])
  rw [hVG] at PB SG OG
  clear LG0 hr h1 hV hVG hA hlen
  go_enter Try.func6, Try.ntmps6
  go_upto_region 1 with fail
  refine F_gen (F := fun W => Code.wp _ _ _ _ W) (J := fun W => Box W (w.heap.size) (V) ∧ Box W (w.heap.size + 1) (VS) ∧ Below w.heap.size w W) (And.intro (Box.alloc (Box.newc rfl rfl) _) (And.intro (Box.newc rfl (by simp)) (by go_grown))) ?_
  intro w0 ⟨e_r, e_s, hB0⟩
  have hs0 := hB0.size
  have x_r0 := e_r; clear e_r
  have x_s0 := e_s; clear e_s
  have J_b0 : Hid (IsL w0 .u8 (.slice a0 bs.length c0) bs) := Lib.hid (HV.out.below hB0)
  go_wp2_with (refine wpList_load_box9 rfl _ _ rfl x_r0 rfl Try.underlying26 rfl SV.out ?_)
  refine (WR _).mono ?_
  rintro e w1 ⟨va, rfl, hoa, hb⟩
  clear WR
  have hB1 : Below w.heap.size w w1 := below_thru hB0 hb
  have hs1 := hB1.size
  have x_r1 : Box w1 (w.heap.size) (V) := Box.below x_r0 hb
  have x_s1 : Box w1 (w.heap.size + 1) (VS) := Box.below x_s0 hb
  have J_b1 : Hid (IsL w1 .u8 (.slice a0 bs.length c0) bs) := Lib.hid (IsL.below J_b0.out hb)
  clear hB0 hs0 x_r0 x_s0 J_b0
  clear hb
  have ha := IsL.own hoa rfl; obtain ⟨ax, cx, rfl⟩ := own_sl32 hoa LX.out; clear hoa
  have J_a1 : Hid (IsL w1 .u8 (.slice ax 32 cx) XS) := Lib.hid ha
  clear ha
  go_wp2_with (refine wpList_load_box9 rfl _ _ rfl x_s1 rfl Try.underlying26 rfl SS.out ?_)
  refine (WS _).mono ?_
  rintro e w2 ⟨vc, rfl, hoa, hb⟩
  clear WS
  have hB2 : Below w.heap.size w w2 := below_thru hB1 hb
  have hs2 := hB2.size
  have x_r2 : Box w2 (w.heap.size) (V) := Box.below x_r1 hb
  have x_s2 : Box w2 (w.heap.size + 1) (VS) := Box.below x_s1 hb
  have J_b2 : Hid (IsL w2 .u8 (.slice a0 bs.length c0) bs) := Lib.hid (IsL.below J_b1.out hb)
  have J_a2 : Hid (IsL w2 .u8 (.slice ax 32 cx) XS) := Lib.hid (IsL.below J_a1.out hb)
  clear hB1 hs1 x_r1 x_s1 J_b1 J_a1
  clear hb
  have ha := IsL.own hoa rfl; obtain ⟨ay, cy, rfl⟩ := own_sl32 hoa LY.out; clear hoa
  have J_c2 : Hid (IsL w2 .u8 (.slice ay 32 cy) YS) := Lib.hid ha
  clear ha
  go_wp2_with (refine wpList_load_box9 rfl _ _ rfl x_r2 rfl Try.underlying26 rfl SV.out ?_)
  refine (KR _).mono ?_
  rintro e w3 ⟨rfl, hb⟩
  clear KR
  have hB3 : Below w.heap.size w w3 := below_thru hB2 hb
  have hs3 := hB3.size
  have x_r3 : Box w3 (w.heap.size) (V) := Box.below x_r2 hb
  have x_s3 : Box w3 (w.heap.size + 1) (VS) := Box.below x_s2 hb
  have J_b3 : Hid (IsL w3 .u8 (.slice a0 bs.length c0) bs) := Lib.hid (IsL.below J_b2.out hb)
  have J_a3 : Hid (IsL w3 .u8 (.slice ax 32 cx) XS) := Lib.hid (IsL.below J_a2.out hb)
  have J_c3 : Hid (IsL w3 .u8 (.slice ay 32 cy) YS) := Lib.hid (IsL.below J_c2.out hb)
  clear hB2 hs2 x_r2 x_s2 J_b2 J_a2 J_c2
  clear hb
  go_wp2_with fail
  refine (PA _ _ J_a3.out).mono ?_
  rintro e w4 ⟨rfl, hb⟩
  clear PA
  have hB4 : Below w.heap.size w w4 := below_thru hB3 hb
  have hs4 := hB4.size
  have x_r4 : Box w4 (w.heap.size) (V) := Box.below x_r3 hb
  have x_s4 : Box w4 (w.heap.size + 1) (VS) := Box.below x_s3 hb
  have J_b4 : Hid (IsL w4 .u8 (.slice a0 bs.length c0) bs) := Lib.hid (IsL.below J_b3.out hb)
  have J_a4 : Hid (IsL w4 .u8 (.slice ax 32 cx) XS) := Lib.hid (IsL.below J_a3.out hb)
  have J_c4 : Hid (IsL w4 .u8 (.slice ay 32 cy) YS) := Lib.hid (IsL.below J_c3.out hb)
  clear hB3 hs3 x_r3 x_s3 J_b3 J_a3 J_c3
  clear hb
  have d_g_r := (x_r4).lt
  have d_g_s := (x_s4).lt
  have d_g_0 := hs4
  go_upto_region 9 with (refine wpList_store_box (cs := V) rfl _ _ _ rfl (Box.newc (l := Rep.zero.v) rfl rfl) rfl rfl SV.out LV.out OV.out ?_; intro W4_0 hW4_0)
  have hN : Below w4.heap.size w4 W4_0 := (hW4_0.below _ _ (by omega) ((Below.refl _ w4).alloc (Nat.le_refl _) _))
  have x_g5 : Box W4_0 (w4.heap.size) (V) := hW4_0.box
  have hB5 : Below w.heap.size w W4_0 := below_thru hB4 hN
  have hs5 := hB5.size
  have x_r5 : Box W4_0 (w.heap.size) (V) := Box.below x_r4 hN
  have x_s5 : Box W4_0 (w.heap.size + 1) (VS) := Box.below x_s4 hN
  have J_b5 : Hid (IsL W4_0 .u8 (.slice a0 bs.length c0) bs) := Lib.hid (IsL.below J_b4.out hN)
  have J_a5 : Hid (IsL W4_0 .u8 (.slice ax 32 cx) XS) := Lib.hid (IsL.below J_a4.out hN)
  have J_c5 : Hid (IsL W4_0 .u8 (.slice ay 32 cy) YS) := Lib.hid (IsL.below J_c4.out hN)
  clear hB4 hs4 x_r4 x_s4 J_b4 J_a4 J_c4
  clear hN hW4_0
  refine wp_region_held_drew (S := fun W => Box W (w.heap.size) (V) ∧ Box W (w.heap.size + 1) (VS) ∧ Box W (w4.heap.size) (V)) (by kernel_rfl) (And.intro (x_r5).drew (And.intro (x_s5).drew (x_g5).drew)) (fun _ => ?_)
  refine F_drew (F := fun W => wpAnyH _ _ _ _ _ _ _ _ W) ?_
  intro Wm0 hbm0
  clear hs5
  have x_r_m0 : Box Wm0 (w.heap.size) (V) := Box.below x_r5 hbm0
  have x_s_m0 : Box Wm0 (w.heap.size + 1) (VS) := Box.below x_s5 hbm0
  have x_g_m0 : Box Wm0 (w4.heap.size) (V) := Box.below x_g5 hbm0
  have j_b_m0 := Lib.hid (IsL.below J_b5.out hbm0)
  have j_a_m0 := Lib.hid (IsL.below J_a5.out hbm0)
  have j_c_m0 := Lib.hid (IsL.below J_c5.out hbm0)
  have Bm0 := below_thru hB5 hbm0
  clear x_r5 x_s5 x_g5 J_b5 J_a5 J_c5 hB5 hbm0
  refine takeH 0 44 (v := ?vm0_1) rfl (by rfl) (by kernel_rfl) (by kernel_rfl) (by kernel_rfl) (fun _ _ _ h => h) (Or.inl ⟨by rfl, ?_⟩) ((And.intro x_r_m0 (And.intro x_s_m0 x_g_m0))) ?_
  rotate_left
  · intro wq hSq
    go_simp
    exact rfl
  try simp only [Act.put, List.setIfInBounds_toArray, List.set_cons_zero, List.set_cons_succ]
  refine takeH 1 45 (v := ?vm1_2) rfl (by rfl) (by kernel_rfl) (by kernel_rfl) (by kernel_rfl) (fun _ _ _ h => h) (Or.inl ⟨by rfl, ?_⟩) ((And.intro x_r_m0 (And.intro x_s_m0 x_g_m0))) ?_
  rotate_left
  · intro wq hSq
    go_simp
    exact rfl
  try simp only [Act.put, List.setIfInBounds_toArray, List.set_cons_zero, List.set_cons_succ]
  refine takeH 2 46 (v := ?vm2_3) rfl (by rfl) (by kernel_rfl) (by kernel_rfl) (by kernel_rfl) (fun _ _ _ h => h) (Or.inl ⟨by rfl, ?_⟩) ((And.intro x_r_m0 (And.intro x_s_m0 x_g_m0))) ?_
  rotate_left
  · intro wq hSq
    go_simp
    exact rfl
  try simp only [Act.put, List.setIfInBounds_toArray, List.set_cons_zero, List.set_cons_succ]
  refine takeH 3 47 (v := .agg (V).toArray) rfl (by rfl) (by kernel_rfl) (by kernel_rfl) (by kernel_rfl) (fun _ _ _ h => h) (yieldsIf_load_mid (by rfl) _ _ rfl _ _ rfl (V) _ (fun wq hq => Box.range (hq.2.2)) Try.underlying26 rfl SV.out) ((And.intro x_r_m0 (And.intro x_s_m0 x_g_m0))) ?_
  try simp only [Act.put, List.setIfInBounds_toArray, List.set_cons_zero, List.set_cons_succ]
  refine takeH 4 48 (v := .agg (V).toArray) rfl (by rfl) (by kernel_rfl) (by kernel_rfl) (by kernel_rfl) (fun _ _ _ h => h) (yieldsIf_load_mid (by rfl) _ _ rfl _ _ rfl (V) _ (fun wq hq => Box.range (hq.1)) Try.underlying26 rfl SV.out) ((And.intro x_r_m0 (And.intro x_s_m0 x_g_m0))) ?_
  try simp only [Act.put, List.setIfInBounds_toArray, List.set_cons_zero, List.set_cons_succ]
  refine takeH 5 49 (v := ?vm5_4) rfl (by rfl) (by kernel_rfl) (by kernel_rfl) (by kernel_rfl) (fun _ _ _ h => h) (Or.inl ⟨by rfl, ?_⟩) ((And.intro x_r_m0 (And.intro x_s_m0 x_g_m0))) ?_
  rotate_left
  · intro wq hSq
    go_simp
    exact rfl
  try simp only [Act.put, List.setIfInBounds_toArray, List.set_cons_zero, List.set_cons_succ]
  refine takeH 6 50 (v := ?vm6_5) rfl (by rfl) (by kernel_rfl) (by kernel_rfl) (by kernel_rfl) (fun _ _ _ h => h) (Or.inl ⟨by rfl, ?_⟩) ((And.intro x_r_m0 (And.intro x_s_m0 x_g_m0))) ?_
  rotate_left
  · intro wq hSq
    go_simp
    exact rfl
  try simp only [Act.put, List.setIfInBounds_toArray, List.set_cons_zero, List.set_cons_succ]
  refine takeH 7 51 (v := ?vm7_6) rfl (by rfl) (by kernel_rfl) (by kernel_rfl) (by kernel_rfl) (fun _ _ _ h => h) (Or.inl ⟨by rfl, ?_⟩) ((And.intro x_r_m0 (And.intro x_s_m0 x_g_m0))) ?_
  rotate_left
  · intro wq hSq
    go_simp
    exact rfl
  try simp only [Act.put, List.setIfInBounds_toArray, List.set_cons_zero, List.set_cons_succ]
  refine takeH 8 52 (v := ?vm8_7) rfl (by rfl) (by kernel_rfl) (by kernel_rfl) (by kernel_rfl) (fun _ _ _ h => h) (Or.inl ⟨by rfl, ?_⟩) ((And.intro x_r_m0 (And.intro x_s_m0 x_g_m0))) ?_
  rotate_left
  · intro wq hSq
    go_simp
    exact rfl
  try simp only [Act.put, List.setIfInBounds_toArray, List.set_cons_zero, List.set_cons_succ]
  refine takeH 9 53 (v := ?vm9_8) rfl (by rfl) (by kernel_rfl) (by kernel_rfl) (by kernel_rfl) (fun _ _ _ h => h) (Or.inl ⟨by rfl, ?_⟩) ((And.intro x_r_m0 (And.intro x_s_m0 x_g_m0))) ?_
  rotate_left
  · intro wq hSq
    go_simp
    exact rfl
  try simp only [Act.put, List.setIfInBounds_toArray, List.set_cons_zero, List.set_cons_succ]
  refine takeH 10 54 (v := ?vm10_9) rfl (by rfl) (by kernel_rfl) (by kernel_rfl) (by kernel_rfl) (fun _ _ _ h => h) (Or.inl ⟨by rfl, ?_⟩) ((And.intro x_r_m0 (And.intro x_s_m0 x_g_m0))) ?_
  rotate_left
  · intro wq hSq
    go_simp
    exact rfl
  try simp only [Act.put, List.setIfInBounds_toArray, List.set_cons_zero, List.set_cons_succ]
  refine takeH 11 55 (v := ?vm11_10) rfl (by rfl) (by kernel_rfl) (by kernel_rfl) (by kernel_rfl) (fun _ _ _ h => h) (Or.inl ⟨by rfl, ?_⟩) ((And.intro x_r_m0 (And.intro x_s_m0 x_g_m0))) ?_
  rotate_left
  · intro wq hSq
    go_simp
    exact rfl
  try simp only [Act.put, List.setIfInBounds_toArray, List.set_cons_zero, List.set_cons_succ]
  refine takeH 12 56 (v := ?vm12_11) rfl (by rfl) (by kernel_rfl) (by kernel_rfl) (by kernel_rfl) (fun _ _ _ h => h) (Or.inl ⟨by rfl, ?_⟩) ((And.intro x_r_m0 (And.intro x_s_m0 x_g_m0))) ?_
  rotate_left
  · intro wq hSq
    go_simp
    exact rfl
  try simp only [Act.put, List.setIfInBounds_toArray, List.set_cons_zero, List.set_cons_succ]
  refine takeH 13 57 (v := ?vm13_12) rfl (by rfl) (by kernel_rfl) (by kernel_rfl) (by kernel_rfl) (fun _ _ _ h => h) (Or.inl ⟨by rfl, ?_⟩) ((And.intro x_r_m0 (And.intro x_s_m0 x_g_m0))) ?_
  rotate_left
  · intro wq hSq
    go_simp
    exact rfl
  try simp only [Act.put, List.setIfInBounds_toArray, List.set_cons_zero, List.set_cons_succ]
  refine takeH 14 58 (v := ?vm14_13) rfl (by rfl) (by kernel_rfl) (by kernel_rfl) (by kernel_rfl) (fun _ _ _ h => h) (Or.inl ⟨by rfl, ?_⟩) ((And.intro x_r_m0 (And.intro x_s_m0 x_g_m0))) ?_
  rotate_left
  · intro wq hSq
    go_simp
    exact rfl
  try simp only [Act.put, List.setIfInBounds_toArray, List.set_cons_zero, List.set_cons_succ]
  refine takeH 15 59 (v := ?vm15_14) rfl (by rfl) (by kernel_rfl) (by kernel_rfl) (by kernel_rfl) (fun _ _ _ h => h) (Or.inl ⟨by rfl, ?_⟩) ((And.intro x_r_m0 (And.intro x_s_m0 x_g_m0))) ?_
  rotate_left
  · intro wq hSq
    go_simp
    exact rfl
  try simp only [Act.put, List.setIfInBounds_toArray, List.set_cons_zero, List.set_cons_succ]
  refine takeH 16 60 (v := ?vm16_15) rfl (by rfl) (by kernel_rfl) (by kernel_rfl) (by kernel_rfl) (fun _ _ _ h => h) (Or.inl ⟨by rfl, ?_⟩) ((And.intro x_r_m0 (And.intro x_s_m0 x_g_m0))) ?_
  rotate_left
  · intro wq hSq
    go_simp
    exact rfl
  try simp only [Act.put, List.setIfInBounds_toArray, List.set_cons_zero, List.set_cons_succ]
  refine takeH 17 61 (v := ?vm17_16) rfl (by rfl) (by kernel_rfl) (by kernel_rfl) (by kernel_rfl) (fun _ _ _ h => h) (Or.inl ⟨by rfl, ?_⟩) ((And.intro x_r_m0 (And.intro x_s_m0 x_g_m0))) ?_
  rotate_left
  · intro wq hSq
    go_simp
    exact rfl
  try simp only [Act.put, List.setIfInBounds_toArray, List.set_cons_zero, List.set_cons_succ]
  refine takeH 18 62 (v := ?vm18_17) rfl (by rfl) (by kernel_rfl) (by kernel_rfl) (by kernel_rfl) (fun _ _ _ h => h) (Or.inl ⟨by rfl, ?_⟩) ((And.intro x_r_m0 (And.intro x_s_m0 x_g_m0))) ?_
  rotate_left
  · intro wq hSq
    go_simp
    exact rfl
  try simp only [Act.put, List.setIfInBounds_toArray, List.set_cons_zero, List.set_cons_succ]
  refine takeH 19 63 (v := ?vm19_18) rfl (by rfl) (by kernel_rfl) (by kernel_rfl) (by kernel_rfl) (fun _ _ _ h => h) (Or.inl ⟨by rfl, ?_⟩) ((And.intro x_r_m0 (And.intro x_s_m0 x_g_m0))) ?_
  rotate_left
  · intro wq hSq
    go_simp
    exact rfl
  try simp only [Act.put, List.setIfInBounds_toArray, List.set_cons_zero, List.set_cons_succ]
  refine takeH 20 64 (v := ?vm20_19) rfl (by rfl) (by kernel_rfl) (by kernel_rfl) (by kernel_rfl) (fun _ _ _ h => h) (Or.inl ⟨by rfl, ?_⟩) ((And.intro x_r_m0 (And.intro x_s_m0 x_g_m0))) ?_
  rotate_left
  · intro wq hSq
    go_simp
    exact rfl
  try simp only [Act.put, List.setIfInBounds_toArray, List.set_cons_zero, List.set_cons_succ]
  refine takeH 21 65 (v := ?vm21_20) rfl (by rfl) (by kernel_rfl) (by kernel_rfl) (by kernel_rfl) (fun _ _ _ h => h) (Or.inl ⟨by rfl, ?_⟩) ((And.intro x_r_m0 (And.intro x_s_m0 x_g_m0))) ?_
  rotate_left
  · intro wq hSq
    go_simp
    exact rfl
  try simp only [Act.put, List.setIfInBounds_toArray, List.set_cons_zero, List.set_cons_succ]
  refine takeH 22 66 (v := ?vm22_21) rfl (by rfl) (by kernel_rfl) (by kernel_rfl) (by kernel_rfl) (fun _ _ _ h => h) (Or.inl ⟨by rfl, ?_⟩) ((And.intro x_r_m0 (And.intro x_s_m0 x_g_m0))) ?_
  rotate_left
  · intro wq hSq
    go_simp
    exact rfl
  try simp only [Act.put, List.setIfInBounds_toArray, List.set_cons_zero, List.set_cons_succ]
  refine takeH 23 67 (v := ?vm23_22) rfl (by rfl) (by kernel_rfl) (by kernel_rfl) (by kernel_rfl) (fun _ _ _ h => h) (Or.inl ⟨by rfl, ?_⟩) ((And.intro x_r_m0 (And.intro x_s_m0 x_g_m0))) ?_
  rotate_left
  · intro wq hSq
    go_simp
    exact rfl
  try simp only [Act.put, List.setIfInBounds_toArray, List.set_cons_zero, List.set_cons_succ]
  refine takeH 25 69 (v := .agg (V).toArray) rfl (by rfl) (by kernel_rfl) (by kernel_rfl) (by kernel_rfl) (fun _ _ _ h => h) (yieldsIf_load_mid (by rfl) _ _ rfl _ _ rfl (V) _ (fun wq hq => Box.range (hq.1)) Try.underlying26 rfl SV.out) ((And.intro x_r_m0 (And.intro x_s_m0 x_g_m0))) ?_
  try simp only [Act.put, List.setIfInBounds_toArray, List.set_cons_zero, List.set_cons_succ]
  refine takeH 26 70 (v := .agg (VS).toArray) rfl (by rfl) (by kernel_rfl) (by kernel_rfl) (by kernel_rfl) (fun _ _ _ h => h) (yieldsIf_load_mid (by rfl) _ _ rfl _ _ rfl (VS) _ (fun wq hq => Box.range (hq.2.1)) Try.underlying26 rfl SS.out) ((And.intro x_r_m0 (And.intro x_s_m0 x_g_m0))) ?_
  try simp only [Act.put, List.setIfInBounds_toArray, List.set_cons_zero, List.set_cons_succ]
  refine takeH 27 71 (v := ?vm27_23) rfl (by rfl) (by kernel_rfl) (by kernel_rfl) (by kernel_rfl) (fun _ _ _ h => h) (Or.inl ⟨by rfl, ?_⟩) ((And.intro x_r_m0 (And.intro x_s_m0 x_g_m0))) ?_
  rotate_left
  · intro wq hSq
    go_simp
    exact rfl
  try simp only [Act.put, List.setIfInBounds_toArray, List.set_cons_zero, List.set_cons_succ]
  refine wpAnyH_ready (rs := [24]) (by kernel_rfl) (by simp) (AllReadyH.cons rfl (fun K hK => ?_) AllReadyH.nil)
  go_simp
  refine (sameb_ff _ j_a_m0.out j_c_m0.out NE.out).mono ?_
  rintro e Wm24 ⟨rfl, hbm24⟩
  have x_r_m24 : Box Wm24 (w.heap.size) (V) := Box.below x_r_m0 hbm24
  have x_s_m24 : Box Wm24 (w.heap.size + 1) (VS) := Box.below x_s_m0 hbm24
  have x_g_m24 : Box Wm24 (w4.heap.size) (V) := Box.below x_g_m0 hbm24
  have j_b_m24 := Lib.hid (IsL.below j_b_m0.out hbm24)
  have j_a_m24 := Lib.hid (IsL.below j_a_m0.out hbm24)
  have j_c_m24 := Lib.hid (IsL.below j_c_m0.out hbm24)
  have Bm24 := below_thru Bm0 hbm24
  clear x_r_m0 x_s_m0 x_g_m0 j_b_m0 j_a_m0 j_c_m0 Bm0 hbm24
  refine hK.out _ _ (And.intro x_r_m24 (And.intro x_s_m24 x_g_m24)) (fun _ => ?_); clear hK K
  refine takeH 28 72 (v := ?vm28_25) rfl (by rfl) (by kernel_rfl) (by kernel_rfl) (by kernel_rfl) (fun _ _ _ h => h) (Or.inl ⟨by rfl, ?_⟩) ((And.intro x_r_m24 (And.intro x_s_m24 x_g_m24))) ?_
  rotate_left
  · intro wq hSq
    go_simp
    exact rfl
  try simp only [Act.put, List.setIfInBounds_toArray, List.set_cons_zero, List.set_cons_succ]
  refine takeH 29 73 (v := ?vm29_26) rfl (by rfl) (by kernel_rfl) (by kernel_rfl) (by kernel_rfl) (fun _ _ _ h => h) (Or.inl ⟨by rfl, ?_⟩) ((And.intro x_r_m24 (And.intro x_s_m24 x_g_m24))) ?_
  rotate_left
  · intro wq hSq
    go_simp
    exact rfl
  try simp only [Act.put, List.setIfInBounds_toArray, List.set_cons_zero, List.set_cons_succ]
  refine takeH 30 74 (v := ?vm30_27) rfl (by rfl) (by kernel_rfl) (by kernel_rfl) (by kernel_rfl) (fun _ _ _ h => h) (Or.inl ⟨by rfl, ?_⟩) ((And.intro x_r_m24 (And.intro x_s_m24 x_g_m24))) ?_
  rotate_left
  · intro wq hSq
    go_simp
    exact rfl
  try simp only [Act.put, List.setIfInBounds_toArray, List.set_cons_zero, List.set_cons_succ]
  refine takeH 31 75 (v := ?vm31_28) rfl (by rfl) (by kernel_rfl) (by kernel_rfl) (by kernel_rfl) (fun _ _ _ h => h) (Or.inl ⟨by rfl, ?_⟩) ((And.intro x_r_m24 (And.intro x_s_m24 x_g_m24))) ?_
  rotate_left
  · intro wq hSq
    go_simp
    exact rfl
  try simp only [Act.put, List.setIfInBounds_toArray, List.set_cons_zero, List.set_cons_succ]
  refine wpAnyH_done (by kernel_rfl) ?_ _
  have hB6 := Bm24; have hs6 := hB6.size
  have x_r6 := x_r_m24
  have x_s6 := x_s_m24
  have x_g6 := x_g_m24
  have J_b6 := j_b_m24
  have J_a6 := j_a_m24
  have J_c6 := j_c_m24
  clear Bm24 x_r_m24 x_s_m24 x_g_m24 j_b_m24 j_a_m24 j_c_m24
  clear J_a6
  clear x_g6
  clear J_c6
  clear x_r6
  clear x_s6
  go_wp2_with fail
  refine (PB _ _ J_b6.out).mono ?_
  rintro e w7 ⟨rfl, hb⟩
  clear PB
  have hB7 : Below w.heap.size w w7 := below_thru hB6 hb
  have hs7 := hB7.size
  have J_b7 : Hid (IsL w7 .u8 (.slice a0 bs.length c0) bs) := Lib.hid (IsL.below J_b6.out hb)
  clear hB6 hs6 J_b6
  clear hb
  have d_h_0 := hs7
  go_upto_region 12 with (refine wpList_store_box (cs := VG) rfl _ _ _ rfl (Box.newc (l := Rep.zero.v) rfl rfl) rfl rfl SG.out LG.out OG.out ?_; intro W7_0 hW7_0)
  have hN : Below w7.heap.size w7 W7_0 := (hW7_0.below _ _ (by omega) ((Below.refl _ w7).alloc (Nat.le_refl _) _))
  have x_h8 : Box W7_0 (w7.heap.size) (VG) := hW7_0.box
  have hB8 : Below w.heap.size w W7_0 := below_thru hB7 hN
  have hs8 := hB8.size
  have J_b8 : Hid (IsL W7_0 .u8 (.slice a0 bs.length c0) bs) := Lib.hid (IsL.below J_b7.out hN)
  clear hB7 hs7 J_b7
  clear hN hW7_0
  go_wp2_with fail
  refine (alive10_is _).mono ?_
  rintro e w9 ⟨rfl, hb⟩
  have hB9 : Below w.heap.size w w9 := below_thru hB8 hb
  have hs9 := hB9.size
  have x_h9 : Box w9 (w7.heap.size) (VG) := Box.below x_h8 hb
  have J_b9 : Hid (IsL w9 .u8 (.slice a0 bs.length c0) bs) := Lib.hid (IsL.below J_b8.out hb)
  clear hB8 hs8 x_h8 J_b8
  clear hb
  go_wp2_with fail
  go_returns
  exact ⟨rfl, hB9⟩

set_option maxRecDepth 100000 in
set_option maxHeartbeats 12800000 in
theorem one10_not (r : Rep) {v : Value} {bs : List Int} (s : Rep) (hA : r.Ok) (hS : ¬ s.Ok) (G : Rep) (hG : G.Ok) (hlen : bs.length = 32) (hGb : G.bs = bs) (PB : PReads 11 bs G 0) (w : World) (h1 : IsL w .u8 v bs) : Calls Try.prog 6 #[.agg r.v.toArray, .agg s.v.toArray, v] w fun e w' => e = .returned (.bool true) ∧ Below w.heap.size w w' := by
  obtain ⟨a0, c0, rfl, hr, _⟩ := id h1
  have i1 := hr.room
  have i2 := hr.most
  have HV := Lib.hid h1
  rw [hlen] at HV i1 ⊢
  have WG := fun W => pwr_is G (xs := bs) (q := 0) (Or.inl ⟨rfl, hG, hGb.symm⟩) W
  have KG := fun W => rchk_is G (q := 0) (Lib.hid (Or.inl ⟨rfl, hG⟩)) W
  unfold PReads at PB
  have SG := Lib.hid (size_rep G); have LG0 := len_rep Rep.zero G; have OG := Lib.hid (one_rep G)
  have SV := Lib.hid (size_rep r); have SS := Lib.hid (size_rep s)
  have WR := fun W => pwr_is r (xs := r.bs) (q := 0) (Or.inl ⟨rfl, hA, rfl⟩) W; have KR := fun W => rchk_is r (q := 0) (Lib.hid (Or.inl ⟨rfl, hA⟩)) W; have PA := pparse_self hA; unfold PReads at PA
  have LV := Lib.hid (len_rep Rep.zero r); have OV := Lib.hid (one_rep r); have EV := fun W => eqp_t (rfl : r = r) W; have LX := Lib.hid r.bs_len
  have WS := fun W => pwr_is s (xs := []) (q := 8) (Or.inr ⟨rfl, hS, rfl⟩) W
  clear hS
  obtain ⟨XS, hXS⟩ : ∃ X, r.bs = X := ⟨_, rfl⟩
  rw [hXS] at WR PA LX
  clear hXS
  obtain ⟨V, hV⟩ : ∃ V, r.v = V := ⟨_, rfl⟩
  rw [hV] at SV WR KR PA LV OV EV ⊢
  obtain ⟨VS, hVS⟩ : ∃ V, s.v = V := ⟨_, rfl⟩
  rw [hVS] at SS WS ⊢
  clear hVS
  obtain ⟨VG, hVG⟩ : ∃ V, G.v = V := ⟨_, rfl⟩
  rw [hVG] at PB SG OG LG0 WG KG
  have LG := Lib.hid LG0
  clear LG0 hr h1 hV hVG hA hlen hG hGb
  go_enter Try.func6, Try.ntmps6
  go_upto_region 1 with fail
  refine F_gen (F := fun W => Code.wp _ _ _ _ W) (J := fun W => Box W (w.heap.size) (V) ∧ Box W (w.heap.size + 1) (VS) ∧ Below w.heap.size w W) (And.intro (Box.alloc (Box.newc rfl rfl) _) (And.intro (Box.newc rfl (by simp)) (by go_grown))) ?_
  intro w0 ⟨e_r, e_s, hB0⟩
  have hs0 := hB0.size
  have x_r0 := e_r; clear e_r
  have x_s0 := e_s; clear e_s
  have J_b0 : Hid (IsL w0 .u8 (.slice a0 32 c0) bs) := Lib.hid (HV.out.below hB0)
  go_wp2_with (refine wpList_load_box9 rfl _ _ rfl x_r0 rfl Try.underlying26 rfl SV.out ?_)
  refine (WR _).mono ?_
  rintro e w1 ⟨va, rfl, hoa, hb⟩
  clear WR
  have hB1 : Below w.heap.size w w1 := below_thru hB0 hb
  have hs1 := hB1.size
  have x_r1 : Box w1 (w.heap.size) (V) := Box.below x_r0 hb
  have x_s1 : Box w1 (w.heap.size + 1) (VS) := Box.below x_s0 hb
  have J_b1 : Hid (IsL w1 .u8 (.slice a0 32 c0) bs) := Lib.hid (IsL.below J_b0.out hb)
  clear hB0 hs0 x_r0 x_s0 J_b0
  clear hb
  have ha := IsL.own hoa rfl; obtain ⟨ax, cx, rfl⟩ := own_sl32 hoa LX.out; clear hoa
  have J_a1 : Hid (IsL w1 .u8 (.slice ax 32 cx) XS) := Lib.hid ha
  clear ha
  go_wp2_with (refine wpList_load_box9 rfl _ _ rfl x_s1 rfl Try.underlying26 rfl SS.out ?_)
  refine (WS _).mono ?_
  rintro e w2 ⟨vc, rfl, hoa, hb⟩
  clear WS hoa
  have hB2 : Below w.heap.size w w2 := below_thru hB1 hb
  have hs2 := hB2.size
  have x_r2 : Box w2 (w.heap.size) (V) := Box.below x_r1 hb
  have x_s2 : Box w2 (w.heap.size + 1) (VS) := Box.below x_s1 hb
  have J_b2 : Hid (IsL w2 .u8 (.slice a0 32 c0) bs) := Lib.hid (IsL.below J_b1.out hb)
  have J_a2 : Hid (IsL w2 .u8 (.slice ax 32 cx) XS) := Lib.hid (IsL.below J_a1.out hb)
  clear hB1 hs1 x_r1 x_s1 J_b1 J_a1
  clear hb
  go_wp2_with (refine wpList_load_box9 rfl _ _ rfl x_r2 rfl Try.underlying26 rfl SV.out ?_)
  refine (KR _).mono ?_
  rintro e w3 ⟨rfl, hb⟩
  clear KR
  have hB3 : Below w.heap.size w w3 := below_thru hB2 hb
  have hs3 := hB3.size
  have x_r3 : Box w3 (w.heap.size) (V) := Box.below x_r2 hb
  have x_s3 : Box w3 (w.heap.size + 1) (VS) := Box.below x_s2 hb
  have J_b3 : Hid (IsL w3 .u8 (.slice a0 32 c0) bs) := Lib.hid (IsL.below J_b2.out hb)
  have J_a3 : Hid (IsL w3 .u8 (.slice ax 32 cx) XS) := Lib.hid (IsL.below J_a2.out hb)
  clear hB2 hs2 x_r2 x_s2 J_b2 J_a2
  clear hb
  go_wp2_with fail
  refine (PA _ _ J_a3.out).mono ?_
  rintro e w4 ⟨rfl, hb⟩
  clear PA
  have hB4 : Below w.heap.size w w4 := below_thru hB3 hb
  have hs4 := hB4.size
  have x_r4 : Box w4 (w.heap.size) (V) := Box.below x_r3 hb
  have x_s4 : Box w4 (w.heap.size + 1) (VS) := Box.below x_s3 hb
  have J_b4 : Hid (IsL w4 .u8 (.slice a0 32 c0) bs) := Lib.hid (IsL.below J_b3.out hb)
  have J_a4 : Hid (IsL w4 .u8 (.slice ax 32 cx) XS) := Lib.hid (IsL.below J_a3.out hb)
  clear hB3 hs3 x_r3 x_s3 J_b3 J_a3
  clear hb
  have d_g_r := (x_r4).lt
  have d_g_s := (x_s4).lt
  have d_g_0 := hs4
  go_upto_region 9 with (refine wpList_store_box (cs := V) rfl _ _ _ rfl (Box.newc (l := Rep.zero.v) rfl rfl) rfl rfl SV.out LV.out OV.out ?_; intro W4_0 hW4_0)
  have hN : Below w4.heap.size w4 W4_0 := (hW4_0.below _ _ (by omega) ((Below.refl _ w4).alloc (Nat.le_refl _) _))
  have x_g5 : Box W4_0 (w4.heap.size) (V) := hW4_0.box
  have hB5 : Below w.heap.size w W4_0 := below_thru hB4 hN
  have hs5 := hB5.size
  have x_r5 : Box W4_0 (w.heap.size) (V) := Box.below x_r4 hN
  have x_s5 : Box W4_0 (w.heap.size + 1) (VS) := Box.below x_s4 hN
  have J_b5 : Hid (IsL W4_0 .u8 (.slice a0 32 c0) bs) := Lib.hid (IsL.below J_b4.out hN)
  have J_a5 : Hid (IsL W4_0 .u8 (.slice ax 32 cx) XS) := Lib.hid (IsL.below J_a4.out hN)
  clear hB4 hs4 x_r4 x_s4 J_b4 J_a4
  clear hN hW4_0
  refine wp_region_held_drew (S := fun W => Box W (w.heap.size) (V) ∧ Box W (w.heap.size + 1) (VS) ∧ Box W (w4.heap.size) (V)) (by kernel_rfl) (And.intro (x_r5).drew (And.intro (x_s5).drew (x_g5).drew)) (fun _ => ?_)
  refine F_drew (F := fun W => wpAnyH _ _ _ _ _ _ _ _ W) ?_
  intro Wm0 hbm0
  clear hs5
  have x_r_m0 : Box Wm0 (w.heap.size) (V) := Box.below x_r5 hbm0
  have x_s_m0 : Box Wm0 (w.heap.size + 1) (VS) := Box.below x_s5 hbm0
  have x_g_m0 : Box Wm0 (w4.heap.size) (V) := Box.below x_g5 hbm0
  have j_b_m0 := Lib.hid (IsL.below J_b5.out hbm0)
  have j_a_m0 := Lib.hid (IsL.below J_a5.out hbm0)
  have Bm0 := below_thru hB5 hbm0
  clear x_r5 x_s5 x_g5 J_b5 J_a5 hB5 hbm0
  refine takeH 0 44 (v := ?vm0_1) rfl (by rfl) (by kernel_rfl) (by kernel_rfl) (by kernel_rfl) (fun _ _ _ h => h) (Or.inl ⟨by rfl, ?_⟩) ((And.intro x_r_m0 (And.intro x_s_m0 x_g_m0))) ?_
  rotate_left
  · intro wq hSq
    go_simp
    exact rfl
  try simp only [Act.put, List.setIfInBounds_toArray, List.set_cons_zero, List.set_cons_succ]
  refine takeH 1 45 (v := ?vm1_2) rfl (by rfl) (by kernel_rfl) (by kernel_rfl) (by kernel_rfl) (fun _ _ _ h => h) (Or.inl ⟨by rfl, ?_⟩) ((And.intro x_r_m0 (And.intro x_s_m0 x_g_m0))) ?_
  rotate_left
  · intro wq hSq
    go_simp
    exact rfl
  try simp only [Act.put, List.setIfInBounds_toArray, List.set_cons_zero, List.set_cons_succ]
  refine takeH 2 46 (v := ?vm2_3) rfl (by rfl) (by kernel_rfl) (by kernel_rfl) (by kernel_rfl) (fun _ _ _ h => h) (Or.inl ⟨by rfl, ?_⟩) ((And.intro x_r_m0 (And.intro x_s_m0 x_g_m0))) ?_
  rotate_left
  · intro wq hSq
    go_simp
    exact rfl
  try simp only [Act.put, List.setIfInBounds_toArray, List.set_cons_zero, List.set_cons_succ]
  refine takeH 3 47 (v := .agg (V).toArray) rfl (by rfl) (by kernel_rfl) (by kernel_rfl) (by kernel_rfl) (fun _ _ _ h => h) (yieldsIf_load_mid (by rfl) _ _ rfl _ _ rfl (V) _ (fun wq hq => Box.range (hq.2.2)) Try.underlying26 rfl SV.out) ((And.intro x_r_m0 (And.intro x_s_m0 x_g_m0))) ?_
  try simp only [Act.put, List.setIfInBounds_toArray, List.set_cons_zero, List.set_cons_succ]
  refine takeH 4 48 (v := .agg (V).toArray) rfl (by rfl) (by kernel_rfl) (by kernel_rfl) (by kernel_rfl) (fun _ _ _ h => h) (yieldsIf_load_mid (by rfl) _ _ rfl _ _ rfl (V) _ (fun wq hq => Box.range (hq.1)) Try.underlying26 rfl SV.out) ((And.intro x_r_m0 (And.intro x_s_m0 x_g_m0))) ?_
  try simp only [Act.put, List.setIfInBounds_toArray, List.set_cons_zero, List.set_cons_succ]
  refine takeH 5 49 (v := ?vm5_4) rfl (by rfl) (by kernel_rfl) (by kernel_rfl) (by kernel_rfl) (fun _ _ _ h => h) (Or.inl ⟨by rfl, ?_⟩) ((And.intro x_r_m0 (And.intro x_s_m0 x_g_m0))) ?_
  rotate_left
  · intro wq hSq
    go_simp
    exact rfl
  try simp only [Act.put, List.setIfInBounds_toArray, List.set_cons_zero, List.set_cons_succ]
  refine takeH 6 50 (v := ?vm6_5) rfl (by rfl) (by kernel_rfl) (by kernel_rfl) (by kernel_rfl) (fun _ _ _ h => h) (Or.inl ⟨by rfl, ?_⟩) ((And.intro x_r_m0 (And.intro x_s_m0 x_g_m0))) ?_
  rotate_left
  · intro wq hSq
    go_simp
    exact rfl
  try simp only [Act.put, List.setIfInBounds_toArray, List.set_cons_zero, List.set_cons_succ]
  refine takeH 7 51 (v := ?vm7_6) rfl (by rfl) (by kernel_rfl) (by kernel_rfl) (by kernel_rfl) (fun _ _ _ h => h) (Or.inl ⟨by rfl, ?_⟩) ((And.intro x_r_m0 (And.intro x_s_m0 x_g_m0))) ?_
  rotate_left
  · intro wq hSq
    go_simp
    exact rfl
  try simp only [Act.put, List.setIfInBounds_toArray, List.set_cons_zero, List.set_cons_succ]
  refine takeH 8 52 (v := ?vm8_7) rfl (by rfl) (by kernel_rfl) (by kernel_rfl) (by kernel_rfl) (fun _ _ _ h => h) (Or.inl ⟨by rfl, ?_⟩) ((And.intro x_r_m0 (And.intro x_s_m0 x_g_m0))) ?_
  rotate_left
  · intro wq hSq
    go_simp
    exact rfl
  try simp only [Act.put, List.setIfInBounds_toArray, List.set_cons_zero, List.set_cons_succ]
  refine takeH 9 53 (v := ?vm9_8) rfl (by rfl) (by kernel_rfl) (by kernel_rfl) (by kernel_rfl) (fun _ _ _ h => h) (Or.inl ⟨by rfl, ?_⟩) ((And.intro x_r_m0 (And.intro x_s_m0 x_g_m0))) ?_
  rotate_left
  · intro wq hSq
    go_simp
    exact rfl
  try simp only [Act.put, List.setIfInBounds_toArray, List.set_cons_zero, List.set_cons_succ]
  refine takeH 10 54 (v := ?vm10_9) rfl (by rfl) (by kernel_rfl) (by kernel_rfl) (by kernel_rfl) (fun _ _ _ h => h) (Or.inl ⟨by rfl, ?_⟩) ((And.intro x_r_m0 (And.intro x_s_m0 x_g_m0))) ?_
  rotate_left
  · intro wq hSq
    go_simp
    exact rfl
  try simp only [Act.put, List.setIfInBounds_toArray, List.set_cons_zero, List.set_cons_succ]
  refine takeH 11 55 (v := ?vm11_10) rfl (by rfl) (by kernel_rfl) (by kernel_rfl) (by kernel_rfl) (fun _ _ _ h => h) (Or.inl ⟨by rfl, ?_⟩) ((And.intro x_r_m0 (And.intro x_s_m0 x_g_m0))) ?_
  rotate_left
  · intro wq hSq
    go_simp
    exact rfl
  try simp only [Act.put, List.setIfInBounds_toArray, List.set_cons_zero, List.set_cons_succ]
  refine takeH 12 56 (v := ?vm12_11) rfl (by rfl) (by kernel_rfl) (by kernel_rfl) (by kernel_rfl) (fun _ _ _ h => h) (Or.inl ⟨by rfl, ?_⟩) ((And.intro x_r_m0 (And.intro x_s_m0 x_g_m0))) ?_
  rotate_left
  · intro wq hSq
    go_simp
    exact rfl
  try simp only [Act.put, List.setIfInBounds_toArray, List.set_cons_zero, List.set_cons_succ]
  refine takeH 13 57 (v := ?vm13_12) rfl (by rfl) (by kernel_rfl) (by kernel_rfl) (by kernel_rfl) (fun _ _ _ h => h) (Or.inl ⟨by rfl, ?_⟩) ((And.intro x_r_m0 (And.intro x_s_m0 x_g_m0))) ?_
  rotate_left
  · intro wq hSq
    go_simp
    exact rfl
  try simp only [Act.put, List.setIfInBounds_toArray, List.set_cons_zero, List.set_cons_succ]
  refine takeH 14 58 (v := ?vm14_13) rfl (by rfl) (by kernel_rfl) (by kernel_rfl) (by kernel_rfl) (fun _ _ _ h => h) (Or.inl ⟨by rfl, ?_⟩) ((And.intro x_r_m0 (And.intro x_s_m0 x_g_m0))) ?_
  rotate_left
  · intro wq hSq
    go_simp
    exact rfl
  try simp only [Act.put, List.setIfInBounds_toArray, List.set_cons_zero, List.set_cons_succ]
  refine takeH 15 59 (v := ?vm15_14) rfl (by rfl) (by kernel_rfl) (by kernel_rfl) (by kernel_rfl) (fun _ _ _ h => h) (Or.inl ⟨by rfl, ?_⟩) ((And.intro x_r_m0 (And.intro x_s_m0 x_g_m0))) ?_
  rotate_left
  · intro wq hSq
    go_simp
    exact rfl
  try simp only [Act.put, List.setIfInBounds_toArray, List.set_cons_zero, List.set_cons_succ]
  refine takeH 16 60 (v := undef) rfl (by rfl) (by kernel_rfl) (by kernel_rfl) (by kernel_rfl) (fun _ _ _ h => h) (Or.inr ⟨by rfl, rfl⟩) ((And.intro x_r_m0 (And.intro x_s_m0 x_g_m0))) ?_
  try simp only [Act.put, List.setIfInBounds_toArray, List.set_cons_zero, List.set_cons_succ]
  refine takeH 17 61 (v := undef) rfl (by rfl) (by kernel_rfl) (by kernel_rfl) (by kernel_rfl) (fun _ _ _ h => h) (Or.inr ⟨by rfl, rfl⟩) ((And.intro x_r_m0 (And.intro x_s_m0 x_g_m0))) ?_
  try simp only [Act.put, List.setIfInBounds_toArray, List.set_cons_zero, List.set_cons_succ]
  refine takeH 18 62 (v := undef) rfl (by rfl) (by kernel_rfl) (by kernel_rfl) (by kernel_rfl) (fun _ _ _ h => h) (Or.inr ⟨by rfl, rfl⟩) ((And.intro x_r_m0 (And.intro x_s_m0 x_g_m0))) ?_
  try simp only [Act.put, List.setIfInBounds_toArray, List.set_cons_zero, List.set_cons_succ]
  refine takeH 19 63 (v := undef) rfl (by rfl) (by kernel_rfl) (by kernel_rfl) (by kernel_rfl) (fun _ _ _ h => h) (Or.inr ⟨by rfl, rfl⟩) ((And.intro x_r_m0 (And.intro x_s_m0 x_g_m0))) ?_
  try simp only [Act.put, List.setIfInBounds_toArray, List.set_cons_zero, List.set_cons_succ]
  refine takeH 20 64 (v := undef) rfl (by rfl) (by kernel_rfl) (by kernel_rfl) (by kernel_rfl) (fun _ _ _ h => h) (Or.inr ⟨by rfl, rfl⟩) ((And.intro x_r_m0 (And.intro x_s_m0 x_g_m0))) ?_
  try simp only [Act.put, List.setIfInBounds_toArray, List.set_cons_zero, List.set_cons_succ]
  refine takeH 21 65 (v := undef) rfl (by rfl) (by kernel_rfl) (by kernel_rfl) (by kernel_rfl) (fun _ _ _ h => h) (Or.inr ⟨by rfl, rfl⟩) ((And.intro x_r_m0 (And.intro x_s_m0 x_g_m0))) ?_
  try simp only [Act.put, List.setIfInBounds_toArray, List.set_cons_zero, List.set_cons_succ]
  refine takeH 22 66 (v := undef) rfl (by rfl) (by kernel_rfl) (by kernel_rfl) (by kernel_rfl) (fun _ _ _ h => h) (Or.inr ⟨by rfl, rfl⟩) ((And.intro x_r_m0 (And.intro x_s_m0 x_g_m0))) ?_
  try simp only [Act.put, List.setIfInBounds_toArray, List.set_cons_zero, List.set_cons_succ]
  refine takeH 23 67 (v := undef) rfl (by rfl) (by kernel_rfl) (by kernel_rfl) (by kernel_rfl) (fun _ _ _ h => h) (Or.inr ⟨by rfl, rfl⟩) ((And.intro x_r_m0 (And.intro x_s_m0 x_g_m0))) ?_
  try simp only [Act.put, List.setIfInBounds_toArray, List.set_cons_zero, List.set_cons_succ]
  refine takeH 24 68 (v := undef) rfl (by rfl) (by kernel_rfl) (by kernel_rfl) (by kernel_rfl) (fun _ _ _ h => h) (Or.inr ⟨by rfl, rfl⟩) ((And.intro x_r_m0 (And.intro x_s_m0 x_g_m0))) ?_
  try simp only [Act.put, List.setIfInBounds_toArray, List.set_cons_zero, List.set_cons_succ]
  refine takeH 25 69 (v := undef) rfl (by rfl) (by kernel_rfl) (by kernel_rfl) (by kernel_rfl) (fun _ _ _ h => h) (Or.inr ⟨by rfl, rfl⟩) ((And.intro x_r_m0 (And.intro x_s_m0 x_g_m0))) ?_
  try simp only [Act.put, List.setIfInBounds_toArray, List.set_cons_zero, List.set_cons_succ]
  refine takeH 26 70 (v := undef) rfl (by rfl) (by kernel_rfl) (by kernel_rfl) (by kernel_rfl) (fun _ _ _ h => h) (Or.inr ⟨by rfl, rfl⟩) ((And.intro x_r_m0 (And.intro x_s_m0 x_g_m0))) ?_
  try simp only [Act.put, List.setIfInBounds_toArray, List.set_cons_zero, List.set_cons_succ]
  refine takeH 27 71 (v := undef) rfl (by rfl) (by kernel_rfl) (by kernel_rfl) (by kernel_rfl) (fun _ _ _ h => h) (Or.inr ⟨by rfl, rfl⟩) ((And.intro x_r_m0 (And.intro x_s_m0 x_g_m0))) ?_
  try simp only [Act.put, List.setIfInBounds_toArray, List.set_cons_zero, List.set_cons_succ]
  refine takeH 28 72 (v := undef) rfl (by rfl) (by kernel_rfl) (by kernel_rfl) (by kernel_rfl) (fun _ _ _ h => h) (Or.inr ⟨by rfl, rfl⟩) ((And.intro x_r_m0 (And.intro x_s_m0 x_g_m0))) ?_
  try simp only [Act.put, List.setIfInBounds_toArray, List.set_cons_zero, List.set_cons_succ]
  refine takeH 29 73 (v := undef) rfl (by rfl) (by kernel_rfl) (by kernel_rfl) (by kernel_rfl) (fun _ _ _ h => h) (Or.inr ⟨by rfl, rfl⟩) ((And.intro x_r_m0 (And.intro x_s_m0 x_g_m0))) ?_
  try simp only [Act.put, List.setIfInBounds_toArray, List.set_cons_zero, List.set_cons_succ]
  refine takeH 30 74 (v := ?vm30_15) rfl (by rfl) (by kernel_rfl) (by kernel_rfl) (by kernel_rfl) (fun _ _ _ h => h) (Or.inl ⟨by rfl, ?_⟩) ((And.intro x_r_m0 (And.intro x_s_m0 x_g_m0))) ?_
  rotate_left
  · intro wq hSq
    go_simp
    exact rfl
  try simp only [Act.put, List.setIfInBounds_toArray, List.set_cons_zero, List.set_cons_succ]
  refine takeH 31 75 (v := ?vm31_16) rfl (by rfl) (by kernel_rfl) (by kernel_rfl) (by kernel_rfl) (fun _ _ _ h => h) (Or.inl ⟨by rfl, ?_⟩) ((And.intro x_r_m0 (And.intro x_s_m0 x_g_m0))) ?_
  rotate_left
  · intro wq hSq
    go_simp
    exact rfl
  try simp only [Act.put, List.setIfInBounds_toArray, List.set_cons_zero, List.set_cons_succ]
  refine wpAnyH_done (by kernel_rfl) ?_ _
  have hB6 := Bm0; have hs6 := hB6.size
  have x_r6 := x_r_m0
  have x_s6 := x_s_m0
  have x_g6 := x_g_m0
  have J_b6 := j_b_m0
  have J_a6 := j_a_m0
  clear Bm0 x_r_m0 x_s_m0 x_g_m0 j_b_m0 j_a_m0
  clear J_a6
  clear x_g6
  clear x_r6
  clear x_s6
  go_wp2_with fail
  refine (PB _ _ J_b6.out).mono ?_
  rintro e w7 ⟨rfl, hb⟩
  clear PB
  have hB7 : Below w.heap.size w w7 := below_thru hB6 hb
  have hs7 := hB7.size
  have J_b7 : Hid (IsL w7 .u8 (.slice a0 32 c0) bs) := Lib.hid (IsL.below J_b6.out hb)
  clear hB6 hs6 J_b6
  clear hb
  have d_h_0 := hs7
  go_upto_region 12 with (refine wpList_store_box (cs := VG) rfl _ _ _ rfl (Box.newc (l := Rep.zero.v) rfl rfl) rfl rfl SG.out LG.out OG.out ?_; intro W7_0 hW7_0)
  have hN : Below w7.heap.size w7 W7_0 := (hW7_0.below _ _ (by omega) ((Below.refl _ w7).alloc (Nat.le_refl _) _))
  have x_h8 : Box W7_0 (w7.heap.size) (VG) := hW7_0.box
  have hB8 : Below w.heap.size w W7_0 := below_thru hB7 hN
  have hs8 := hB8.size
  have J_b8 : Hid (IsL W7_0 .u8 (.slice a0 32 c0) bs) := Lib.hid (IsL.below J_b7.out hN)
  clear hB7 hs7 J_b7
  clear hN hW7_0
  go_wp2_with (refine wpList_load_box9 rfl _ _ rfl x_h8 rfl Try.underlying26 rfl SG.out ?_)
  refine (WG _).mono ?_
  rintro e w9 ⟨vd, rfl, hod, hb⟩
  clear WG
  have hB9 : Below w.heap.size w w9 := below_thru hB8 hb
  have hs9 := hB9.size
  have x_h9 : Box w9 (w7.heap.size) (VG) := Box.below x_h8 hb
  have J_b9 : Hid (IsL w9 .u8 (.slice a0 32 c0) bs) := Lib.hid (IsL.below J_b8.out hb)
  clear hB8 hs8 x_h8 J_b8
  clear hb
  have J_d9 : Hid (IsL w9 .u8 (vd) bs) := Lib.hid (IsL.own hod rfl)
  clear hod
  go_wp2_with fail
  refine (sameb_tt _ J_d9.out J_b9.out).mono ?_
  rintro e w10 ⟨rfl, hb⟩
  have hB10 : Below w.heap.size w w10 := below_thru hB9 hb
  have hs10 := hB10.size
  have x_h10 : Box w10 (w7.heap.size) (VG) := Box.below x_h9 hb
  have J_b10 : Hid (IsL w10 .u8 (.slice a0 32 c0) bs) := Lib.hid (IsL.below J_b9.out hb)
  have J_d10 : Hid (IsL w10 .u8 (vd) bs) := Lib.hid (IsL.below J_d9.out hb)
  clear hB9 hs9 x_h9 J_b9 J_d9
  clear hb
  clear J_d10
  clear J_b10
  go_wp2_with (refine wpList_load_box9 rfl _ _ rfl x_h10 rfl Try.underlying26 rfl SG.out ?_)
  refine (KG _).mono ?_
  rintro e w11 ⟨rfl, hb⟩
  have hB11 : Below w.heap.size w w11 := below_thru hB10 hb
  have hs11 := hB11.size
  have x_h11 : Box w11 (w7.heap.size) (VG) := Box.below x_h10 hb
  clear hB10 hs10 x_h10
  clear hb
  go_wp2_with fail
  refine (alive10_is _).mono ?_
  rintro e w12 ⟨rfl, hb⟩
  have hB12 : Below w.heap.size w w12 := below_thru hB11 hb
  have hs12 := hB12.size
  have x_h12 : Box w12 (w7.heap.size) (VG) := Box.below x_h11 hb
  clear hB11 hs11 x_h11
  clear hb
  go_wp2_with fail
  go_returns
  exact ⟨rfl, hB12⟩

set_option maxRecDepth 100000 in
set_option maxHeartbeats 12800000 in
theorem one10_nof (r : Rep) {v : Value} {bs : List Int} (s : Rep) (hA : r.Ok) (hS : ¬ s.Ok) (hlen : bs.length ≤ 200) (PB : PReads 11 bs Rep.zero 12) (w : World) (h1 : IsL w .u8 v bs) : Calls Try.prog 6 #[.agg r.v.toArray, .agg s.v.toArray, v] w fun e w' => e = .returned (.bool true) ∧ Below w.heap.size w w' := by
  obtain ⟨a0, c0, rfl, hr, _⟩ := id h1
  have i1 := hr.room
  have i2 := hr.most
  have HV := Lib.hid h1
  have d1 : decide ((200 : Int) < (bs.length : Int)) = false := decide_eq_false (by omega)
  unfold PReads at PB
  have SG := Lib.hid (size_rep Rep.zero); have LG0 := len_rep Rep.zero Rep.zero; have OG := Lib.hid (one_rep Rep.zero)
  have SV := Lib.hid (size_rep r); have SS := Lib.hid (size_rep s)
  have WR := fun W => pwr_is r (xs := r.bs) (q := 0) (Or.inl ⟨rfl, hA, rfl⟩) W; have KR := fun W => rchk_is r (q := 0) (Lib.hid (Or.inl ⟨rfl, hA⟩)) W; have PA := pparse_self hA; unfold PReads at PA
  have LV := Lib.hid (len_rep Rep.zero r); have OV := Lib.hid (one_rep r); have EV := fun W => eqp_t (rfl : r = r) W; have LX := Lib.hid r.bs_len
  have WS := fun W => pwr_is s (xs := []) (q := 8) (Or.inr ⟨rfl, hS, rfl⟩) W
  clear hS
  obtain ⟨XS, hXS⟩ : ∃ X, r.bs = X := ⟨_, rfl⟩
  rw [hXS] at WR PA LX
  clear hXS
  obtain ⟨V, hV⟩ : ∃ V, r.v = V := ⟨_, rfl⟩
  rw [hV] at SV WR KR PA LV OV EV ⊢
  obtain ⟨VS, hVS⟩ : ∃ V, s.v = V := ⟨_, rfl⟩
  rw [hVS] at SS WS ⊢
  clear hVS
  obtain ⟨VG, hVG⟩ : ∃ V, Rep.zero.v = V := ⟨_, rfl⟩
  have LG : Hid (Rep.zero.v.length = VG.length) := Lib.hid (by rw [hVG])
  rw [hVG] at PB SG OG
  clear LG0 hr h1 hV hVG hA hlen
  go_enter Try.func6, Try.ntmps6
  go_upto_region 1 with fail
  refine F_gen (F := fun W => Code.wp _ _ _ _ W) (J := fun W => Box W (w.heap.size) (V) ∧ Box W (w.heap.size + 1) (VS) ∧ Below w.heap.size w W) (And.intro (Box.alloc (Box.newc rfl rfl) _) (And.intro (Box.newc rfl (by simp)) (by go_grown))) ?_
  intro w0 ⟨e_r, e_s, hB0⟩
  have hs0 := hB0.size
  have x_r0 := e_r; clear e_r
  have x_s0 := e_s; clear e_s
  have J_b0 : Hid (IsL w0 .u8 (.slice a0 bs.length c0) bs) := Lib.hid (HV.out.below hB0)
  go_wp2_with (refine wpList_load_box9 rfl _ _ rfl x_r0 rfl Try.underlying26 rfl SV.out ?_)
  refine (WR _).mono ?_
  rintro e w1 ⟨va, rfl, hoa, hb⟩
  clear WR
  have hB1 : Below w.heap.size w w1 := below_thru hB0 hb
  have hs1 := hB1.size
  have x_r1 : Box w1 (w.heap.size) (V) := Box.below x_r0 hb
  have x_s1 : Box w1 (w.heap.size + 1) (VS) := Box.below x_s0 hb
  have J_b1 : Hid (IsL w1 .u8 (.slice a0 bs.length c0) bs) := Lib.hid (IsL.below J_b0.out hb)
  clear hB0 hs0 x_r0 x_s0 J_b0
  clear hb
  have ha := IsL.own hoa rfl; obtain ⟨ax, cx, rfl⟩ := own_sl32 hoa LX.out; clear hoa
  have J_a1 : Hid (IsL w1 .u8 (.slice ax 32 cx) XS) := Lib.hid ha
  clear ha
  go_wp2_with (refine wpList_load_box9 rfl _ _ rfl x_s1 rfl Try.underlying26 rfl SS.out ?_)
  refine (WS _).mono ?_
  rintro e w2 ⟨vc, rfl, hoa, hb⟩
  clear WS hoa
  have hB2 : Below w.heap.size w w2 := below_thru hB1 hb
  have hs2 := hB2.size
  have x_r2 : Box w2 (w.heap.size) (V) := Box.below x_r1 hb
  have x_s2 : Box w2 (w.heap.size + 1) (VS) := Box.below x_s1 hb
  have J_b2 : Hid (IsL w2 .u8 (.slice a0 bs.length c0) bs) := Lib.hid (IsL.below J_b1.out hb)
  have J_a2 : Hid (IsL w2 .u8 (.slice ax 32 cx) XS) := Lib.hid (IsL.below J_a1.out hb)
  clear hB1 hs1 x_r1 x_s1 J_b1 J_a1
  clear hb
  go_wp2_with (refine wpList_load_box9 rfl _ _ rfl x_r2 rfl Try.underlying26 rfl SV.out ?_)
  refine (KR _).mono ?_
  rintro e w3 ⟨rfl, hb⟩
  clear KR
  have hB3 : Below w.heap.size w w3 := below_thru hB2 hb
  have hs3 := hB3.size
  have x_r3 : Box w3 (w.heap.size) (V) := Box.below x_r2 hb
  have x_s3 : Box w3 (w.heap.size + 1) (VS) := Box.below x_s2 hb
  have J_b3 : Hid (IsL w3 .u8 (.slice a0 bs.length c0) bs) := Lib.hid (IsL.below J_b2.out hb)
  have J_a3 : Hid (IsL w3 .u8 (.slice ax 32 cx) XS) := Lib.hid (IsL.below J_a2.out hb)
  clear hB2 hs2 x_r2 x_s2 J_b2 J_a2
  clear hb
  go_wp2_with fail
  refine (PA _ _ J_a3.out).mono ?_
  rintro e w4 ⟨rfl, hb⟩
  clear PA
  have hB4 : Below w.heap.size w w4 := below_thru hB3 hb
  have hs4 := hB4.size
  have x_r4 : Box w4 (w.heap.size) (V) := Box.below x_r3 hb
  have x_s4 : Box w4 (w.heap.size + 1) (VS) := Box.below x_s3 hb
  have J_b4 : Hid (IsL w4 .u8 (.slice a0 bs.length c0) bs) := Lib.hid (IsL.below J_b3.out hb)
  have J_a4 : Hid (IsL w4 .u8 (.slice ax 32 cx) XS) := Lib.hid (IsL.below J_a3.out hb)
  clear hB3 hs3 x_r3 x_s3 J_b3 J_a3
  clear hb
  have d_g_r := (x_r4).lt
  have d_g_s := (x_s4).lt
  have d_g_0 := hs4
  go_upto_region 9 with (refine wpList_store_box (cs := V) rfl _ _ _ rfl (Box.newc (l := Rep.zero.v) rfl rfl) rfl rfl SV.out LV.out OV.out ?_; intro W4_0 hW4_0)
  have hN : Below w4.heap.size w4 W4_0 := (hW4_0.below _ _ (by omega) ((Below.refl _ w4).alloc (Nat.le_refl _) _))
  have x_g5 : Box W4_0 (w4.heap.size) (V) := hW4_0.box
  have hB5 : Below w.heap.size w W4_0 := below_thru hB4 hN
  have hs5 := hB5.size
  have x_r5 : Box W4_0 (w.heap.size) (V) := Box.below x_r4 hN
  have x_s5 : Box W4_0 (w.heap.size + 1) (VS) := Box.below x_s4 hN
  have J_b5 : Hid (IsL W4_0 .u8 (.slice a0 bs.length c0) bs) := Lib.hid (IsL.below J_b4.out hN)
  have J_a5 : Hid (IsL W4_0 .u8 (.slice ax 32 cx) XS) := Lib.hid (IsL.below J_a4.out hN)
  clear hB4 hs4 x_r4 x_s4 J_b4 J_a4
  clear hN hW4_0
  refine wp_region_held_drew (S := fun W => Box W (w.heap.size) (V) ∧ Box W (w.heap.size + 1) (VS) ∧ Box W (w4.heap.size) (V)) (by kernel_rfl) (And.intro (x_r5).drew (And.intro (x_s5).drew (x_g5).drew)) (fun _ => ?_)
  refine F_drew (F := fun W => wpAnyH _ _ _ _ _ _ _ _ W) ?_
  intro Wm0 hbm0
  clear hs5
  have x_r_m0 : Box Wm0 (w.heap.size) (V) := Box.below x_r5 hbm0
  have x_s_m0 : Box Wm0 (w.heap.size + 1) (VS) := Box.below x_s5 hbm0
  have x_g_m0 : Box Wm0 (w4.heap.size) (V) := Box.below x_g5 hbm0
  have j_b_m0 := Lib.hid (IsL.below J_b5.out hbm0)
  have j_a_m0 := Lib.hid (IsL.below J_a5.out hbm0)
  have Bm0 := below_thru hB5 hbm0
  clear x_r5 x_s5 x_g5 J_b5 J_a5 hB5 hbm0
  refine takeH 0 44 (v := ?vm0_1) rfl (by rfl) (by kernel_rfl) (by kernel_rfl) (by kernel_rfl) (fun _ _ _ h => h) (Or.inl ⟨by rfl, ?_⟩) ((And.intro x_r_m0 (And.intro x_s_m0 x_g_m0))) ?_
  rotate_left
  · intro wq hSq
    go_simp
    exact rfl
  try simp only [Act.put, List.setIfInBounds_toArray, List.set_cons_zero, List.set_cons_succ]
  refine takeH 1 45 (v := ?vm1_2) rfl (by rfl) (by kernel_rfl) (by kernel_rfl) (by kernel_rfl) (fun _ _ _ h => h) (Or.inl ⟨by rfl, ?_⟩) ((And.intro x_r_m0 (And.intro x_s_m0 x_g_m0))) ?_
  rotate_left
  · intro wq hSq
    go_simp
    exact rfl
  try simp only [Act.put, List.setIfInBounds_toArray, List.set_cons_zero, List.set_cons_succ]
  refine takeH 2 46 (v := ?vm2_3) rfl (by rfl) (by kernel_rfl) (by kernel_rfl) (by kernel_rfl) (fun _ _ _ h => h) (Or.inl ⟨by rfl, ?_⟩) ((And.intro x_r_m0 (And.intro x_s_m0 x_g_m0))) ?_
  rotate_left
  · intro wq hSq
    go_simp
    exact rfl
  try simp only [Act.put, List.setIfInBounds_toArray, List.set_cons_zero, List.set_cons_succ]
  refine takeH 3 47 (v := .agg (V).toArray) rfl (by rfl) (by kernel_rfl) (by kernel_rfl) (by kernel_rfl) (fun _ _ _ h => h) (yieldsIf_load_mid (by rfl) _ _ rfl _ _ rfl (V) _ (fun wq hq => Box.range (hq.2.2)) Try.underlying26 rfl SV.out) ((And.intro x_r_m0 (And.intro x_s_m0 x_g_m0))) ?_
  try simp only [Act.put, List.setIfInBounds_toArray, List.set_cons_zero, List.set_cons_succ]
  refine takeH 4 48 (v := .agg (V).toArray) rfl (by rfl) (by kernel_rfl) (by kernel_rfl) (by kernel_rfl) (fun _ _ _ h => h) (yieldsIf_load_mid (by rfl) _ _ rfl _ _ rfl (V) _ (fun wq hq => Box.range (hq.1)) Try.underlying26 rfl SV.out) ((And.intro x_r_m0 (And.intro x_s_m0 x_g_m0))) ?_
  try simp only [Act.put, List.setIfInBounds_toArray, List.set_cons_zero, List.set_cons_succ]
  refine takeH 5 49 (v := ?vm5_4) rfl (by rfl) (by kernel_rfl) (by kernel_rfl) (by kernel_rfl) (fun _ _ _ h => h) (Or.inl ⟨by rfl, ?_⟩) ((And.intro x_r_m0 (And.intro x_s_m0 x_g_m0))) ?_
  rotate_left
  · intro wq hSq
    go_simp
    exact rfl
  try simp only [Act.put, List.setIfInBounds_toArray, List.set_cons_zero, List.set_cons_succ]
  refine takeH 6 50 (v := ?vm6_5) rfl (by rfl) (by kernel_rfl) (by kernel_rfl) (by kernel_rfl) (fun _ _ _ h => h) (Or.inl ⟨by rfl, ?_⟩) ((And.intro x_r_m0 (And.intro x_s_m0 x_g_m0))) ?_
  rotate_left
  · intro wq hSq
    go_simp
    exact rfl
  try simp only [Act.put, List.setIfInBounds_toArray, List.set_cons_zero, List.set_cons_succ]
  refine takeH 7 51 (v := ?vm7_6) rfl (by rfl) (by kernel_rfl) (by kernel_rfl) (by kernel_rfl) (fun _ _ _ h => h) (Or.inl ⟨by rfl, ?_⟩) ((And.intro x_r_m0 (And.intro x_s_m0 x_g_m0))) ?_
  rotate_left
  · intro wq hSq
    go_simp
    exact rfl
  try simp only [Act.put, List.setIfInBounds_toArray, List.set_cons_zero, List.set_cons_succ]
  refine takeH 8 52 (v := ?vm8_7) rfl (by rfl) (by kernel_rfl) (by kernel_rfl) (by kernel_rfl) (fun _ _ _ h => h) (Or.inl ⟨by rfl, ?_⟩) ((And.intro x_r_m0 (And.intro x_s_m0 x_g_m0))) ?_
  rotate_left
  · intro wq hSq
    go_simp
    exact rfl
  try simp only [Act.put, List.setIfInBounds_toArray, List.set_cons_zero, List.set_cons_succ]
  refine takeH 9 53 (v := ?vm9_8) rfl (by rfl) (by kernel_rfl) (by kernel_rfl) (by kernel_rfl) (fun _ _ _ h => h) (Or.inl ⟨by rfl, ?_⟩) ((And.intro x_r_m0 (And.intro x_s_m0 x_g_m0))) ?_
  rotate_left
  · intro wq hSq
    go_simp
    exact rfl
  try simp only [Act.put, List.setIfInBounds_toArray, List.set_cons_zero, List.set_cons_succ]
  refine takeH 10 54 (v := ?vm10_9) rfl (by rfl) (by kernel_rfl) (by kernel_rfl) (by kernel_rfl) (fun _ _ _ h => h) (Or.inl ⟨by rfl, ?_⟩) ((And.intro x_r_m0 (And.intro x_s_m0 x_g_m0))) ?_
  rotate_left
  · intro wq hSq
    go_simp
    exact rfl
  try simp only [Act.put, List.setIfInBounds_toArray, List.set_cons_zero, List.set_cons_succ]
  refine takeH 11 55 (v := ?vm11_10) rfl (by rfl) (by kernel_rfl) (by kernel_rfl) (by kernel_rfl) (fun _ _ _ h => h) (Or.inl ⟨by rfl, ?_⟩) ((And.intro x_r_m0 (And.intro x_s_m0 x_g_m0))) ?_
  rotate_left
  · intro wq hSq
    go_simp
    exact rfl
  try simp only [Act.put, List.setIfInBounds_toArray, List.set_cons_zero, List.set_cons_succ]
  refine takeH 12 56 (v := ?vm12_11) rfl (by rfl) (by kernel_rfl) (by kernel_rfl) (by kernel_rfl) (fun _ _ _ h => h) (Or.inl ⟨by rfl, ?_⟩) ((And.intro x_r_m0 (And.intro x_s_m0 x_g_m0))) ?_
  rotate_left
  · intro wq hSq
    go_simp
    exact rfl
  try simp only [Act.put, List.setIfInBounds_toArray, List.set_cons_zero, List.set_cons_succ]
  refine takeH 13 57 (v := ?vm13_12) rfl (by rfl) (by kernel_rfl) (by kernel_rfl) (by kernel_rfl) (fun _ _ _ h => h) (Or.inl ⟨by rfl, ?_⟩) ((And.intro x_r_m0 (And.intro x_s_m0 x_g_m0))) ?_
  rotate_left
  · intro wq hSq
    go_simp
    exact rfl
  try simp only [Act.put, List.setIfInBounds_toArray, List.set_cons_zero, List.set_cons_succ]
  refine takeH 14 58 (v := ?vm14_13) rfl (by rfl) (by kernel_rfl) (by kernel_rfl) (by kernel_rfl) (fun _ _ _ h => h) (Or.inl ⟨by rfl, ?_⟩) ((And.intro x_r_m0 (And.intro x_s_m0 x_g_m0))) ?_
  rotate_left
  · intro wq hSq
    go_simp
    exact rfl
  try simp only [Act.put, List.setIfInBounds_toArray, List.set_cons_zero, List.set_cons_succ]
  refine takeH 15 59 (v := ?vm15_14) rfl (by rfl) (by kernel_rfl) (by kernel_rfl) (by kernel_rfl) (fun _ _ _ h => h) (Or.inl ⟨by rfl, ?_⟩) ((And.intro x_r_m0 (And.intro x_s_m0 x_g_m0))) ?_
  rotate_left
  · intro wq hSq
    go_simp
    exact rfl
  try simp only [Act.put, List.setIfInBounds_toArray, List.set_cons_zero, List.set_cons_succ]
  refine takeH 16 60 (v := undef) rfl (by rfl) (by kernel_rfl) (by kernel_rfl) (by kernel_rfl) (fun _ _ _ h => h) (Or.inr ⟨by rfl, rfl⟩) ((And.intro x_r_m0 (And.intro x_s_m0 x_g_m0))) ?_
  try simp only [Act.put, List.setIfInBounds_toArray, List.set_cons_zero, List.set_cons_succ]
  refine takeH 17 61 (v := undef) rfl (by rfl) (by kernel_rfl) (by kernel_rfl) (by kernel_rfl) (fun _ _ _ h => h) (Or.inr ⟨by rfl, rfl⟩) ((And.intro x_r_m0 (And.intro x_s_m0 x_g_m0))) ?_
  try simp only [Act.put, List.setIfInBounds_toArray, List.set_cons_zero, List.set_cons_succ]
  refine takeH 18 62 (v := undef) rfl (by rfl) (by kernel_rfl) (by kernel_rfl) (by kernel_rfl) (fun _ _ _ h => h) (Or.inr ⟨by rfl, rfl⟩) ((And.intro x_r_m0 (And.intro x_s_m0 x_g_m0))) ?_
  try simp only [Act.put, List.setIfInBounds_toArray, List.set_cons_zero, List.set_cons_succ]
  refine takeH 19 63 (v := undef) rfl (by rfl) (by kernel_rfl) (by kernel_rfl) (by kernel_rfl) (fun _ _ _ h => h) (Or.inr ⟨by rfl, rfl⟩) ((And.intro x_r_m0 (And.intro x_s_m0 x_g_m0))) ?_
  try simp only [Act.put, List.setIfInBounds_toArray, List.set_cons_zero, List.set_cons_succ]
  refine takeH 20 64 (v := undef) rfl (by rfl) (by kernel_rfl) (by kernel_rfl) (by kernel_rfl) (fun _ _ _ h => h) (Or.inr ⟨by rfl, rfl⟩) ((And.intro x_r_m0 (And.intro x_s_m0 x_g_m0))) ?_
  try simp only [Act.put, List.setIfInBounds_toArray, List.set_cons_zero, List.set_cons_succ]
  refine takeH 21 65 (v := undef) rfl (by rfl) (by kernel_rfl) (by kernel_rfl) (by kernel_rfl) (fun _ _ _ h => h) (Or.inr ⟨by rfl, rfl⟩) ((And.intro x_r_m0 (And.intro x_s_m0 x_g_m0))) ?_
  try simp only [Act.put, List.setIfInBounds_toArray, List.set_cons_zero, List.set_cons_succ]
  refine takeH 22 66 (v := undef) rfl (by rfl) (by kernel_rfl) (by kernel_rfl) (by kernel_rfl) (fun _ _ _ h => h) (Or.inr ⟨by rfl, rfl⟩) ((And.intro x_r_m0 (And.intro x_s_m0 x_g_m0))) ?_
  try simp only [Act.put, List.setIfInBounds_toArray, List.set_cons_zero, List.set_cons_succ]
  refine takeH 23 67 (v := undef) rfl (by rfl) (by kernel_rfl) (by kernel_rfl) (by kernel_rfl) (fun _ _ _ h => h) (Or.inr ⟨by rfl, rfl⟩) ((And.intro x_r_m0 (And.intro x_s_m0 x_g_m0))) ?_
  try simp only [Act.put, List.setIfInBounds_toArray, List.set_cons_zero, List.set_cons_succ]
  refine takeH 24 68 (v := undef) rfl (by rfl) (by kernel_rfl) (by kernel_rfl) (by kernel_rfl) (fun _ _ _ h => h) (Or.inr ⟨by rfl, rfl⟩) ((And.intro x_r_m0 (And.intro x_s_m0 x_g_m0))) ?_
  try simp only [Act.put, List.setIfInBounds_toArray, List.set_cons_zero, List.set_cons_succ]
  refine takeH 25 69 (v := undef) rfl (by rfl) (by kernel_rfl) (by kernel_rfl) (by kernel_rfl) (fun _ _ _ h => h) (Or.inr ⟨by rfl, rfl⟩) ((And.intro x_r_m0 (And.intro x_s_m0 x_g_m0))) ?_
  try simp only [Act.put, List.setIfInBounds_toArray, List.set_cons_zero, List.set_cons_succ]
  refine takeH 26 70 (v := undef) rfl (by rfl) (by kernel_rfl) (by kernel_rfl) (by kernel_rfl) (fun _ _ _ h => h) (Or.inr ⟨by rfl, rfl⟩) ((And.intro x_r_m0 (And.intro x_s_m0 x_g_m0))) ?_
  try simp only [Act.put, List.setIfInBounds_toArray, List.set_cons_zero, List.set_cons_succ]
  refine takeH 27 71 (v := undef) rfl (by rfl) (by kernel_rfl) (by kernel_rfl) (by kernel_rfl) (fun _ _ _ h => h) (Or.inr ⟨by rfl, rfl⟩) ((And.intro x_r_m0 (And.intro x_s_m0 x_g_m0))) ?_
  try simp only [Act.put, List.setIfInBounds_toArray, List.set_cons_zero, List.set_cons_succ]
  refine takeH 28 72 (v := undef) rfl (by rfl) (by kernel_rfl) (by kernel_rfl) (by kernel_rfl) (fun _ _ _ h => h) (Or.inr ⟨by rfl, rfl⟩) ((And.intro x_r_m0 (And.intro x_s_m0 x_g_m0))) ?_
  try simp only [Act.put, List.setIfInBounds_toArray, List.set_cons_zero, List.set_cons_succ]
  refine takeH 29 73 (v := undef) rfl (by rfl) (by kernel_rfl) (by kernel_rfl) (by kernel_rfl) (fun _ _ _ h => h) (Or.inr ⟨by rfl, rfl⟩) ((And.intro x_r_m0 (And.intro x_s_m0 x_g_m0))) ?_
  try simp only [Act.put, List.setIfInBounds_toArray, List.set_cons_zero, List.set_cons_succ]
  refine takeH 30 74 (v := ?vm30_15) rfl (by rfl) (by kernel_rfl) (by kernel_rfl) (by kernel_rfl) (fun _ _ _ h => h) (Or.inl ⟨by rfl, ?_⟩) ((And.intro x_r_m0 (And.intro x_s_m0 x_g_m0))) ?_
  rotate_left
  · intro wq hSq
    go_simp
    exact rfl
  try simp only [Act.put, List.setIfInBounds_toArray, List.set_cons_zero, List.set_cons_succ]
  refine takeH 31 75 (v := ?vm31_16) rfl (by rfl) (by kernel_rfl) (by kernel_rfl) (by kernel_rfl) (fun _ _ _ h => h) (Or.inl ⟨by rfl, ?_⟩) ((And.intro x_r_m0 (And.intro x_s_m0 x_g_m0))) ?_
  rotate_left
  · intro wq hSq
    go_simp
    exact rfl
  try simp only [Act.put, List.setIfInBounds_toArray, List.set_cons_zero, List.set_cons_succ]
  refine wpAnyH_done (by kernel_rfl) ?_ _
  have hB6 := Bm0; have hs6 := hB6.size
  have x_r6 := x_r_m0
  have x_s6 := x_s_m0
  have x_g6 := x_g_m0
  have J_b6 := j_b_m0
  have J_a6 := j_a_m0
  clear Bm0 x_r_m0 x_s_m0 x_g_m0 j_b_m0 j_a_m0
  clear J_a6
  clear x_g6
  clear x_r6
  clear x_s6
  go_wp2_with fail
  refine (PB _ _ J_b6.out).mono ?_
  rintro e w7 ⟨rfl, hb⟩
  clear PB
  have hB7 : Below w.heap.size w w7 := below_thru hB6 hb
  have hs7 := hB7.size
  have J_b7 : Hid (IsL w7 .u8 (.slice a0 bs.length c0) bs) := Lib.hid (IsL.below J_b6.out hb)
  clear hB6 hs6 J_b6
  clear hb
  have d_h_0 := hs7
  go_upto_region 12 with (refine wpList_store_box (cs := VG) rfl _ _ _ rfl (Box.newc (l := Rep.zero.v) rfl rfl) rfl rfl SG.out LG.out OG.out ?_; intro W7_0 hW7_0)
  have hN : Below w7.heap.size w7 W7_0 := (hW7_0.below _ _ (by omega) ((Below.refl _ w7).alloc (Nat.le_refl _) _))
  have x_h8 : Box W7_0 (w7.heap.size) (VG) := hW7_0.box
  have hB8 : Below w.heap.size w W7_0 := below_thru hB7 hN
  have hs8 := hB8.size
  have J_b8 : Hid (IsL W7_0 .u8 (.slice a0 bs.length c0) bs) := Lib.hid (IsL.below J_b7.out hN)
  clear hB7 hs7 J_b7
  clear hN hW7_0
  go_wp2_with fail
  refine (alive10_is _).mono ?_
  rintro e w9 ⟨rfl, hb⟩
  have hB9 : Below w.heap.size w w9 := below_thru hB8 hb
  have hs9 := hB9.size
  have x_h9 : Box w9 (w7.heap.size) (VG) := Box.below x_h8 hb
  have J_b9 : Hid (IsL w9 .u8 (.slice a0 bs.length c0) bs) := Lib.hid (IsL.below J_b8.out hb)
  clear hB8 hs8 x_h8 J_b8
  clear hb
  go_wp2_with fail
  go_returns
  exact ⟨rfl, hB9⟩

set_option maxRecDepth 100000 in
set_option maxHeartbeats 12800000 in
theorem one10_ft (r : Rep) {v : Value} {bs : List Int} (s : Rep) (hA : ¬ r.Ok) (G : Rep) (hG : G.Ok) (hlen : bs.length = 32) (hGb : G.bs = bs) (PB : PReads 11 bs G 0) (w : World) (h1 : IsL w .u8 v bs) : Calls Try.prog 6 #[.agg r.v.toArray, .agg s.v.toArray, v] w fun e w' => e = .returned (.bool true) ∧ Below w.heap.size w w' := by
  obtain ⟨a0, c0, rfl, hr, _⟩ := id h1
  have i1 := hr.room
  have i2 := hr.most
  have HV := Lib.hid h1
  rw [hlen] at HV i1 ⊢
  have WG := fun W => pwr_is G (xs := bs) (q := 0) (Or.inl ⟨rfl, hG, hGb.symm⟩) W
  have KG := fun W => rchk_is G (q := 0) (Lib.hid (Or.inl ⟨rfl, hG⟩)) W
  unfold PReads at PB
  have SG := Lib.hid (size_rep G); have LG0 := len_rep Rep.zero G; have OG := Lib.hid (one_rep G)
  have SV := Lib.hid (size_rep r); have SS := Lib.hid (size_rep s)
  have WR := fun W => pwr_is r (xs := []) (q := 8) (Or.inr ⟨rfl, hA, rfl⟩) W; have KR := fun W => rchk_is r (q := 8) (Lib.hid (Or.inr ⟨rfl, hA⟩)) W
  obtain ⟨YS, qs, hw⟩ := pwr_any s
  have WS := fun W => pwr_is s hw W
  clear hw
  obtain ⟨V, hV⟩ : ∃ V, r.v = V := ⟨_, rfl⟩
  rw [hV] at SV WR KR ⊢
  obtain ⟨VS, hVS⟩ : ∃ V, s.v = V := ⟨_, rfl⟩
  rw [hVS] at SS WS ⊢
  clear hVS
  obtain ⟨VG, hVG⟩ : ∃ V, G.v = V := ⟨_, rfl⟩
  rw [hVG] at PB SG OG LG0 WG KG
  have LG := Lib.hid LG0
  clear LG0 hr h1 hV hVG hA hlen hG hGb
  go_enter Try.func6, Try.ntmps6
  go_upto_region 1 with fail
  refine F_gen (F := fun W => Code.wp _ _ _ _ W) (J := fun W => Box W (w.heap.size) (V) ∧ Box W (w.heap.size + 1) (VS) ∧ Below w.heap.size w W) (And.intro (Box.alloc (Box.newc rfl rfl) _) (And.intro (Box.newc rfl (by simp)) (by go_grown))) ?_
  intro w0 ⟨e_r, e_s, hB0⟩
  have hs0 := hB0.size
  have x_r0 := e_r; clear e_r
  have x_s0 := e_s; clear e_s
  have J_b0 : Hid (IsL w0 .u8 (.slice a0 32 c0) bs) := Lib.hid (HV.out.below hB0)
  go_wp2_with (refine wpList_load_box9 rfl _ _ rfl x_r0 rfl Try.underlying26 rfl SV.out ?_)
  refine (WR _).mono ?_
  rintro e w1 ⟨va, rfl, hoa, hb⟩
  clear WR
  have hB1 : Below w.heap.size w w1 := below_thru hB0 hb
  have hs1 := hB1.size
  have x_r1 : Box w1 (w.heap.size) (V) := Box.below x_r0 hb
  have x_s1 : Box w1 (w.heap.size + 1) (VS) := Box.below x_s0 hb
  have J_b1 : Hid (IsL w1 .u8 (.slice a0 32 c0) bs) := Lib.hid (IsL.below J_b0.out hb)
  clear hB0 hs0 x_r0 x_s0 J_b0
  clear hb
  clear hoa
  go_wp2_with (refine wpList_load_box9 rfl _ _ rfl x_s1 rfl Try.underlying26 rfl SS.out ?_)
  refine (WS _).mono ?_
  rintro e w2 ⟨vc, rfl, hoa, hb⟩
  clear WS hoa
  have hB2 : Below w.heap.size w w2 := below_thru hB1 hb
  have hs2 := hB2.size
  have x_r2 : Box w2 (w.heap.size) (V) := Box.below x_r1 hb
  have x_s2 : Box w2 (w.heap.size + 1) (VS) := Box.below x_s1 hb
  have J_b2 : Hid (IsL w2 .u8 (.slice a0 32 c0) bs) := Lib.hid (IsL.below J_b1.out hb)
  clear hB1 hs1 x_r1 x_s1 J_b1
  clear hb
  go_wp2_with (refine wpList_load_box9 rfl _ _ rfl x_r2 rfl Try.underlying26 rfl SV.out ?_)
  refine (KR _).mono ?_
  rintro e w3 ⟨rfl, hb⟩
  clear KR
  have hB3 : Below w.heap.size w w3 := below_thru hB2 hb
  have hs3 := hB3.size
  have x_r3 : Box w3 (w.heap.size) (V) := Box.below x_r2 hb
  have x_s3 : Box w3 (w.heap.size + 1) (VS) := Box.below x_s2 hb
  have J_b3 : Hid (IsL w3 .u8 (.slice a0 32 c0) bs) := Lib.hid (IsL.below J_b2.out hb)
  clear hB2 hs2 x_r2 x_s2 J_b2
  clear hb
  clear x_r3
  clear x_s3
  go_wp2_with fail
  refine (PB _ _ J_b3.out).mono ?_
  rintro e w4 ⟨rfl, hb⟩
  clear PB
  have hB4 : Below w.heap.size w w4 := below_thru hB3 hb
  have hs4 := hB4.size
  have J_b4 : Hid (IsL w4 .u8 (.slice a0 32 c0) bs) := Lib.hid (IsL.below J_b3.out hb)
  clear hB3 hs3 J_b3
  clear hb
  have d_h_0 := hs4
  go_upto_region 12 with (refine wpList_store_box (cs := VG) rfl _ _ _ rfl (Box.newc (l := Rep.zero.v) rfl rfl) rfl rfl SG.out LG.out OG.out ?_; intro W4_0 hW4_0)
  have hN : Below w4.heap.size w4 W4_0 := (hW4_0.below _ _ (by omega) ((Below.refl _ w4).alloc (Nat.le_refl _) _))
  have x_h5 : Box W4_0 (w4.heap.size) (VG) := hW4_0.box
  have hB5 : Below w.heap.size w W4_0 := below_thru hB4 hN
  have hs5 := hB5.size
  have J_b5 : Hid (IsL W4_0 .u8 (.slice a0 32 c0) bs) := Lib.hid (IsL.below J_b4.out hN)
  clear hB4 hs4 J_b4
  clear hN hW4_0
  go_wp2_with (refine wpList_load_box9 rfl _ _ rfl x_h5 rfl Try.underlying26 rfl SG.out ?_)
  refine (WG _).mono ?_
  rintro e w6 ⟨vd, rfl, hod, hb⟩
  clear WG
  have hB6 : Below w.heap.size w w6 := below_thru hB5 hb
  have hs6 := hB6.size
  have x_h6 : Box w6 (w4.heap.size) (VG) := Box.below x_h5 hb
  have J_b6 : Hid (IsL w6 .u8 (.slice a0 32 c0) bs) := Lib.hid (IsL.below J_b5.out hb)
  clear hB5 hs5 x_h5 J_b5
  clear hb
  have J_d6 : Hid (IsL w6 .u8 (vd) bs) := Lib.hid (IsL.own hod rfl)
  clear hod
  go_wp2_with fail
  refine (sameb_tt _ J_d6.out J_b6.out).mono ?_
  rintro e w7 ⟨rfl, hb⟩
  have hB7 : Below w.heap.size w w7 := below_thru hB6 hb
  have hs7 := hB7.size
  have x_h7 : Box w7 (w4.heap.size) (VG) := Box.below x_h6 hb
  have J_b7 : Hid (IsL w7 .u8 (.slice a0 32 c0) bs) := Lib.hid (IsL.below J_b6.out hb)
  have J_d7 : Hid (IsL w7 .u8 (vd) bs) := Lib.hid (IsL.below J_d6.out hb)
  clear hB6 hs6 x_h6 J_b6 J_d6
  clear hb
  clear J_d7
  clear J_b7
  go_wp2_with (refine wpList_load_box9 rfl _ _ rfl x_h7 rfl Try.underlying26 rfl SG.out ?_)
  refine (KG _).mono ?_
  rintro e w8 ⟨rfl, hb⟩
  have hB8 : Below w.heap.size w w8 := below_thru hB7 hb
  have hs8 := hB8.size
  have x_h8 : Box w8 (w4.heap.size) (VG) := Box.below x_h7 hb
  clear hB7 hs7 x_h7
  clear hb
  go_wp2_with fail
  refine (alive10_is _).mono ?_
  rintro e w9 ⟨rfl, hb⟩
  have hB9 : Below w.heap.size w w9 := below_thru hB8 hb
  have hs9 := hB9.size
  have x_h9 : Box w9 (w4.heap.size) (VG) := Box.below x_h8 hb
  clear hB8 hs8 x_h8
  clear hb
  go_wp2_with fail
  go_returns
  exact ⟨rfl, hB9⟩

set_option maxRecDepth 100000 in
set_option maxHeartbeats 12800000 in
theorem one10_ff (r : Rep) {v : Value} {bs : List Int} (s : Rep) (hA : ¬ r.Ok) (hlen : bs.length ≤ 200) (PB : PReads 11 bs Rep.zero 12) (w : World) (h1 : IsL w .u8 v bs) : Calls Try.prog 6 #[.agg r.v.toArray, .agg s.v.toArray, v] w fun e w' => e = .returned (.bool true) ∧ Below w.heap.size w w' := by
  obtain ⟨a0, c0, rfl, hr, _⟩ := id h1
  have i1 := hr.room
  have i2 := hr.most
  have HV := Lib.hid h1
  have d1 : decide ((200 : Int) < (bs.length : Int)) = false := decide_eq_false (by omega)
  unfold PReads at PB
  have SG := Lib.hid (size_rep Rep.zero); have LG0 := len_rep Rep.zero Rep.zero; have OG := Lib.hid (one_rep Rep.zero)
  have SV := Lib.hid (size_rep r); have SS := Lib.hid (size_rep s)
  have WR := fun W => pwr_is r (xs := []) (q := 8) (Or.inr ⟨rfl, hA, rfl⟩) W; have KR := fun W => rchk_is r (q := 8) (Lib.hid (Or.inr ⟨rfl, hA⟩)) W
  obtain ⟨YS, qs, hw⟩ := pwr_any s
  have WS := fun W => pwr_is s hw W
  clear hw
  obtain ⟨V, hV⟩ : ∃ V, r.v = V := ⟨_, rfl⟩
  rw [hV] at SV WR KR ⊢
  obtain ⟨VS, hVS⟩ : ∃ V, s.v = V := ⟨_, rfl⟩
  rw [hVS] at SS WS ⊢
  clear hVS
  obtain ⟨VG, hVG⟩ : ∃ V, Rep.zero.v = V := ⟨_, rfl⟩
  have LG : Hid (Rep.zero.v.length = VG.length) := Lib.hid (by rw [hVG])
  rw [hVG] at PB SG OG
  clear LG0 hr h1 hV hVG hA hlen
  go_enter Try.func6, Try.ntmps6
  go_upto_region 1 with fail
  refine F_gen (F := fun W => Code.wp _ _ _ _ W) (J := fun W => Box W (w.heap.size) (V) ∧ Box W (w.heap.size + 1) (VS) ∧ Below w.heap.size w W) (And.intro (Box.alloc (Box.newc rfl rfl) _) (And.intro (Box.newc rfl (by simp)) (by go_grown))) ?_
  intro w0 ⟨e_r, e_s, hB0⟩
  have hs0 := hB0.size
  have x_r0 := e_r; clear e_r
  have x_s0 := e_s; clear e_s
  have J_b0 : Hid (IsL w0 .u8 (.slice a0 bs.length c0) bs) := Lib.hid (HV.out.below hB0)
  go_wp2_with (refine wpList_load_box9 rfl _ _ rfl x_r0 rfl Try.underlying26 rfl SV.out ?_)
  refine (WR _).mono ?_
  rintro e w1 ⟨va, rfl, hoa, hb⟩
  clear WR
  have hB1 : Below w.heap.size w w1 := below_thru hB0 hb
  have hs1 := hB1.size
  have x_r1 : Box w1 (w.heap.size) (V) := Box.below x_r0 hb
  have x_s1 : Box w1 (w.heap.size + 1) (VS) := Box.below x_s0 hb
  have J_b1 : Hid (IsL w1 .u8 (.slice a0 bs.length c0) bs) := Lib.hid (IsL.below J_b0.out hb)
  clear hB0 hs0 x_r0 x_s0 J_b0
  clear hb
  clear hoa
  go_wp2_with (refine wpList_load_box9 rfl _ _ rfl x_s1 rfl Try.underlying26 rfl SS.out ?_)
  refine (WS _).mono ?_
  rintro e w2 ⟨vc, rfl, hoa, hb⟩
  clear WS hoa
  have hB2 : Below w.heap.size w w2 := below_thru hB1 hb
  have hs2 := hB2.size
  have x_r2 : Box w2 (w.heap.size) (V) := Box.below x_r1 hb
  have x_s2 : Box w2 (w.heap.size + 1) (VS) := Box.below x_s1 hb
  have J_b2 : Hid (IsL w2 .u8 (.slice a0 bs.length c0) bs) := Lib.hid (IsL.below J_b1.out hb)
  clear hB1 hs1 x_r1 x_s1 J_b1
  clear hb
  go_wp2_with (refine wpList_load_box9 rfl _ _ rfl x_r2 rfl Try.underlying26 rfl SV.out ?_)
  refine (KR _).mono ?_
  rintro e w3 ⟨rfl, hb⟩
  clear KR
  have hB3 : Below w.heap.size w w3 := below_thru hB2 hb
  have hs3 := hB3.size
  have x_r3 : Box w3 (w.heap.size) (V) := Box.below x_r2 hb
  have x_s3 : Box w3 (w.heap.size + 1) (VS) := Box.below x_s2 hb
  have J_b3 : Hid (IsL w3 .u8 (.slice a0 bs.length c0) bs) := Lib.hid (IsL.below J_b2.out hb)
  clear hB2 hs2 x_r2 x_s2 J_b2
  clear hb
  clear x_r3
  clear x_s3
  go_wp2_with fail
  refine (PB _ _ J_b3.out).mono ?_
  rintro e w4 ⟨rfl, hb⟩
  clear PB
  have hB4 : Below w.heap.size w w4 := below_thru hB3 hb
  have hs4 := hB4.size
  have J_b4 : Hid (IsL w4 .u8 (.slice a0 bs.length c0) bs) := Lib.hid (IsL.below J_b3.out hb)
  clear hB3 hs3 J_b3
  clear hb
  have d_h_0 := hs4
  go_upto_region 12 with (refine wpList_store_box (cs := VG) rfl _ _ _ rfl (Box.newc (l := Rep.zero.v) rfl rfl) rfl rfl SG.out LG.out OG.out ?_; intro W4_0 hW4_0)
  have hN : Below w4.heap.size w4 W4_0 := (hW4_0.below _ _ (by omega) ((Below.refl _ w4).alloc (Nat.le_refl _) _))
  have x_h5 : Box W4_0 (w4.heap.size) (VG) := hW4_0.box
  have hB5 : Below w.heap.size w W4_0 := below_thru hB4 hN
  have hs5 := hB5.size
  have J_b5 : Hid (IsL W4_0 .u8 (.slice a0 bs.length c0) bs) := Lib.hid (IsL.below J_b4.out hN)
  clear hB4 hs4 J_b4
  clear hN hW4_0
  go_wp2_with fail
  refine (alive10_is _).mono ?_
  rintro e w6 ⟨rfl, hb⟩
  have hB6 : Below w.heap.size w w6 := below_thru hB5 hb
  have hs6 := hB6.size
  have x_h6 : Box w6 (w4.heap.size) (VG) := Box.below x_h5 hb
  have J_b6 : Hid (IsL w6 .u8 (.slice a0 bs.length c0) bs) := Lib.hid (IsL.below J_b5.out hb)
  clear hB5 hs5 x_h5 J_b5
  clear hb
  go_wp2_with fail
  go_returns
  exact ⟨rfl, hB6⟩

set_option maxRecDepth 100000 in
set_option maxHeartbeats 1600000 in
theorem one10_many (r s : Rep) {v : Value} {bs : List Int} (hl : 200 < bs.length) (w : World) (h1 : IsL w .u8 v bs) : Calls Try.prog 6 #[.agg r.v.toArray, .agg s.v.toArray, v] w fun e w' => e = .returned (.bool true) ∧ Below w.heap.size w w' := by
  obtain ⟨a0, c0, rfl, hr, _⟩ := id h1
  have i1 := hr.room
  have i2 := hr.most
  have d1 : decide ((200 : Int) < (bs.length : Int)) = true := decide_eq_true (by omega)
  have SV := Lib.hid (size_rep r); have SS := Lib.hid (size_rep s)
  obtain ⟨V, hV⟩ : ∃ V, r.v = V := ⟨_, rfl⟩
  obtain ⟨VS, hVS⟩ : ∃ V, s.v = V := ⟨_, rfl⟩
  rw [hV] at SV ⊢; rw [hVS] at SS ⊢
  clear hr h1 hV hVS hl
  go_enter Try.func6, Try.ntmps6
  go_upto_region 1 with fail
  refine F_gen (F := fun W => Code.wp _ _ _ _ W) (J := fun W => Box W (w.heap.size) (V) ∧ Box W (w.heap.size + 1) (VS) ∧ Below w.heap.size w W) (And.intro (Box.alloc (Box.newc rfl rfl) _) (And.intro (Box.newc rfl (by simp)) (by go_grown))) ?_
  intro w0 ⟨e_r, e_s, hB0⟩
  have hs0 := hB0.size
  have x_r0 := e_r; clear e_r
  have x_s0 := e_s; clear e_s
  go_wp2_with fail
  refine (alive10_is _).mono ?_
  rintro e w1 ⟨rfl, hb⟩
  have hB1 : Below w.heap.size w w1 := below_thru hB0 hb
  have hs1 := hB1.size
  have x_r1 : Box w1 (w.heap.size) (V) := Box.below x_r0 hb
  have x_s1 : Box w1 (w.heap.size + 1) (VS) := Box.below x_s0 hb
  clear hB0 hs0 x_r0 x_s0
  clear hb
  go_wp2_with fail
  go_returns
  exact ⟨rfl, hB1⟩

theorem one10_is (r s : Rep) {v : Value} {bs : List Int} (w : World) (h1 : IsL w .u8 v bs) (hb : Byts bs) : Calls Try.prog 6 #[.agg r.v.toArray, .agg s.v.toArray, v] w fun e w' => e = .returned (.bool true) ∧ Below w.heap.size w w' := by
  by_cases hl : 200 < bs.length
  · exact one10_many r s hl w h1
  obtain ⟨G, q, hp, PB⟩ := pparse_is bs hb
  rcases hp with ⟨rfl, hG, hGb⟩ | ⟨rfl, rfl, _⟩
  · have h32 : bs.length = 32 := by rw [← hGb]; exact G.bs_len
    by_cases hA : r.Ok
    · by_cases hS : s.Ok
      · by_cases he : r = s
        · subst he
          exact one10_eqt r hA G hG h32 hGb PB w h1
        · exact one10_net r s hA hS he G hG h32 hGb PB w h1
      · exact one10_not r s hA hS G hG h32 hGb PB w h1
    · exact one10_ft r s hA G hG h32 hGb PB w h1
  · by_cases hA : r.Ok
    · by_cases hS : s.Ok
      · by_cases he : r = s
        · subst he
          exact one10_eqf r hA (by omega) PB w h1
        · exact one10_nef r s hA hS he (by omega) PB w h1
      · exact one10_nof r s hA hS (by omega) PB w h1
    · exact one10_ff r s hA (by omega) PB w h1

end Go.Proofs.Ytipkgflonioacaa
