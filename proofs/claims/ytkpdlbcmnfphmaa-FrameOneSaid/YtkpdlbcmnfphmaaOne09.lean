/-
  FrameOne, walked.
-/
import Derived.Test.YtkpdlbcmnfphmaaRFmD
import Derived.Test.YtkpdlbcmnfphmaaAlive09
namespace Go.Proofs.Ytkpdlbcmnfphmaa
open Go.RowKit

theorem Frm.bs_nth {f : Frm} (h : f.Ok) : nth f.bs 0 = f.kd ∧ 0 < f.bs.length ∧ f.bs.length ≤ 88 := by
  rcases Frm.ok_two h with ⟨_, _, k, e, l⟩ | ⟨_, _, k, e, l⟩
  · exact ⟨by rw [e, k]; rfl, by omega, by omega⟩
  · exact ⟨by rw [e, k, msg_two]; rfl, by omega, by omega⟩
theorem parse_self {f : Frm} (h : f.Ok) : Parses 12 f.bs f 0 := by
  obtain ⟨G, q, h1, P1⟩ := parse_is f.bs f.bs_byts
  obtain ⟨rfl, rfl⟩ := h1.uniq (Or.inl ⟨rfl, h, rfl⟩)
  exact P1

set_option maxRecDepth 100000 in
set_option maxHeartbeats 12800000 in
theorem one9_t (f : Frm) {v : Value} {bs : List Int} (hA : f.Ok) (hlen : bs.length ≤ 300) (PB : Parses 12 bs Frm.zero 12) (w : World) (h1 : IsL w .u8 v bs) : Calls Try.prog 6 #[.agg (mcell f).toArray, v] w fun e w' => e = .returned (.bool true) ∧ Below w.heap.size w w' := by
  obtain ⟨a0, c0, rfl, hr, _⟩ := id h1
  have i1 := hr.room
  have i2 := hr.most
  have HV := Lib.hid h1
  have d1 : decide ((300 : Int) < (bs.length : Int)) = false := decide_eq_false (by omega)
  have BZ := fun W => build_m0 W; have EZ := fun W => eqm_t (rfl : Frm.zero = Frm.zero) W
  unfold Parses at PB
  have SG := Lib.hid (size_frm Frm.zero); have LG := Lib.hid (len_frm Frm.zero Frm.zero); have OG := Lib.hid (one_frm Frm.zero)
  have SV := Lib.hid (size_frm f)
  have v0 : (mcell f)[0]? = some (.int .u8 f.kd) := rfl
  have PA := parse_self hA; unfold Parses at PA
  have LV := Lib.hid (len_frm Frm.zero f); have OV := Lib.hid (one_frm f); have EV := fun W => eqm_t (rfl : f = f) W
  have hx := Frm.bs_nth hA
  have WF := fun W => wr_is f (xs := f.bs) (q := 0) (Or.inl ⟨rfl, hA, rfl⟩) W
  have KF := fun W => rchk_is f (q := 0) (Lib.hid (Or.inl ⟨rfl, hA⟩)) W
  have x0 : (f.bs.map (Value.int .u8))[0]? = some (.int .u8 f.kd) := by rw [nth_at' 0 hx.2.1, hx.1]
  obtain ⟨XS, hXS⟩ : ∃ X, f.bs = X := ⟨_, rfl⟩
  rw [hXS] at PA WF x0 hx
  have ex0 : ((XS.length : Int) == 0) = false := by have := hx.2.1; rw [beq_eq_false_iff_ne]; omega
  have ex2 := hx.2.1
  have ex1 : (0 : Int) < (XS.length : Int) := by have := hx.2.1; omega
  have HX := Lib.hid hx.2.1
  clear hXS hx
  obtain ⟨V, hV⟩ : ∃ V, mcell f = V := ⟨_, rfl⟩
  rw [hV] at SV v0 WF KF PA LV OV EV ⊢
  obtain ⟨VG, hVG⟩ : ∃ V, mcell Frm.zero = V := ⟨_, rfl⟩
  rw [hVG] at PB SG OG BZ EZ
  have LG2 : Hid ((mcell Frm.zero).length = VG.length) := Lib.hid (by rw [hVG])
  clear hr h1 hV hVG hA hlen LG
  go_enter Try.func6, Try.ntmps6
  go_upto_region 1 with fail
  refine F_gen (F := fun W => Code.wp _ _ _ _ W) (J := fun W => Box W (w.heap.size) (V) ∧ Below w.heap.size w W) (And.intro (Box.newc rfl rfl) (by go_grown)) ?_
  intro w0 ⟨e_f, hB0⟩
  have hs0 := hB0.size
  have x_f0 := e_f; clear e_f
  have J_b0 : Hid (IsL w0 .u8 (.slice a0 (bs.length) c0) bs) := Lib.hid (HV.out.below hB0)
  go_wp2_with (refine wpList_load_box9 rfl _ _ rfl x_f0 rfl Try.underlying43 rfl SV.out ?_)
  refine (WF _).mono ?_
  rintro e w1 ⟨va, rfl, hoa, hb⟩
  clear WF
  have hB1 : Below w.heap.size w w1 := below_thru hB0 hb
  have hs1 := hB1.size
  have x_f1 : Box w1 (w.heap.size) (V) := Box.below x_f0 hb
  have J_b1 : Hid (IsL w1 .u8 (.slice a0 (bs.length) c0) bs) := Lib.hid (IsL.below J_b0.out hb)
  clear hB0 hs0 x_f0 J_b0
  clear hb
  have ha := IsL.own hoa rfl
  obtain ⟨ga, ca, rfl, _, _, _, hbx⟩ := own_box hoa HX.out
  clear hoa
  have J_a1 : Hid (IsL w1 .u8 (.slice (some ⟨ga, 0, none⟩) XS.length ca) XS) := Lib.hid ha
  clear ha
  have x_x1 : Box w1 (ga) (XS.map (Value.int .u8)) := hbx
  clear hbx
  go_wp2_with (refine wpList_load_box9 rfl _ _ rfl x_f1 rfl Try.underlying43 rfl SV.out ?_)
  refine (KF _).mono ?_
  rintro e w2 ⟨rfl, hb⟩
  clear KF
  have hB2 : Below w.heap.size w w2 := below_thru hB1 hb
  have hs2 := hB2.size
  have x_f2 : Box w2 (w.heap.size) (V) := Box.below x_f1 hb
  have x_x2 : Box w2 (ga) (XS.map (Value.int .u8)) := Box.below x_x1 hb
  have J_b2 : Hid (IsL w2 .u8 (.slice a0 (bs.length) c0) bs) := Lib.hid (IsL.below J_b1.out hb)
  have J_a2 : Hid (IsL w2 .u8 (.slice (some ⟨ga, 0, none⟩) XS.length ca) XS) := Lib.hid (IsL.below J_a1.out hb)
  clear hB1 hs1 x_f1 x_x1 J_b1 J_a1
  clear hb
  go_wp2_with fail
  refine (PA _ _ J_a2.out).mono ?_
  rintro e w3 ⟨rfl, hb⟩
  clear PA
  have hB3 : Below w.heap.size w w3 := below_thru hB2 hb
  have hs3 := hB3.size
  have x_f3 : Box w3 (w.heap.size) (V) := Box.below x_f2 hb
  have x_x3 : Box w3 (ga) (XS.map (Value.int .u8)) := Box.below x_x2 hb
  have J_b3 : Hid (IsL w3 .u8 (.slice a0 (bs.length) c0) bs) := Lib.hid (IsL.below J_b2.out hb)
  have J_a3 : Hid (IsL w3 .u8 (.slice (some ⟨ga, 0, none⟩) XS.length ca) XS) := Lib.hid (IsL.below J_a2.out hb)
  clear hB2 hs2 x_f2 x_x2 J_b2 J_a2
  clear hb
  have d_g_f := (x_f3).lt
  have d_g_x := (x_x3).lt
  have d_g_0 := hs3
  go_upto_region 8 with (refine wpList_store_box (cs := V) rfl _ _ _ rfl (Box.newc (l := mcell Frm.zero) rfl rfl) rfl rfl SV.out LV.out OV.out ?_; intro W3_0 hW3_0)
  have hN : Below w3.heap.size w3 W3_0 := (hW3_0.below _ _ (by omega) ((Below.refl _ w3).alloc (Nat.le_refl _) _))
  have x_g4 : Box W3_0 (w3.heap.size) (V) := hW3_0.box
  have hB4 : Below w.heap.size w W3_0 := below_thru hB3 hN
  have hs4 := hB4.size
  have x_f4 : Box W3_0 (w.heap.size) (V) := Box.below x_f3 hN
  have x_x4 : Box W3_0 (ga) (XS.map (Value.int .u8)) := Box.below x_x3 hN
  have J_b4 : Hid (IsL W3_0 .u8 (.slice a0 (bs.length) c0) bs) := Lib.hid (IsL.below J_b3.out hN)
  have J_a4 : Hid (IsL W3_0 .u8 (.slice (some ⟨ga, 0, none⟩) XS.length ca) XS) := Lib.hid (IsL.below J_a3.out hN)
  clear hB3 hs3 x_f3 x_x3 J_b3 J_a3
  clear hN hW3_0
  refine wp_region_held_drew (S := fun W => Box W (w.heap.size) (V) ∧ Box W (ga) (XS.map (Value.int .u8)) ∧ Box W (w3.heap.size) (V)) (by kernel_rfl) (And.intro (x_f4).drew (And.intro (x_x4).drew (x_g4).drew)) (fun _ => ?_)
  refine F_drew (F := fun W => wpAnyH _ _ _ _ _ _ _ _ W) ?_
  intro Wm0 hbm0
  clear hs4
  have x_f_m0 : Box Wm0 (w.heap.size) (V) := Box.below x_f4 hbm0
  have x_x_m0 : Box Wm0 (ga) (XS.map (Value.int .u8)) := Box.below x_x4 hbm0
  have x_g_m0 : Box Wm0 (w3.heap.size) (V) := Box.below x_g4 hbm0
  have j_b_m0 := Lib.hid (IsL.below J_b4.out hbm0)
  have j_a_m0 := Lib.hid (IsL.below J_a4.out hbm0)
  have Bm0 := below_thru hB4 hbm0
  clear x_f4 x_x4 x_g4 J_b4 J_a4 hB4 hbm0
  refine takeH 0 36 (v := ?vm0_1) rfl (by rfl) (by kernel_rfl) (by kernel_rfl) (by kernel_rfl) (fun _ _ _ h => h) (Or.inl ⟨by rfl, ?_⟩) ((And.intro x_f_m0 (And.intro x_x_m0 x_g_m0))) ?_
  rotate_left
  · intro wq hSq
    go_simp
    exact rfl
  try simp only [Act.put, List.setIfInBounds_toArray, List.set_cons_zero, List.set_cons_succ]
  refine takeH 1 37 (v := ?vm1_2) rfl (by rfl) (by kernel_rfl) (by kernel_rfl) (by kernel_rfl) (fun _ _ _ h => h) (Or.inl ⟨by rfl, ?_⟩) ((And.intro x_f_m0 (And.intro x_x_m0 x_g_m0))) ?_
  rotate_left
  · intro wq hSq
    go_simp
    exact rfl
  try simp only [Act.put, List.setIfInBounds_toArray, List.set_cons_zero, List.set_cons_succ]
  refine takeH 2 38 (v := ?vm2_3) rfl (by rfl) (by kernel_rfl) (by kernel_rfl) (by kernel_rfl) (fun _ _ _ h => h) (Or.inl ⟨by rfl, ?_⟩) ((And.intro x_f_m0 (And.intro x_x_m0 x_g_m0))) ?_
  rotate_left
  · intro wq hSq
    go_simp
    exact rfl
  try simp only [Act.put, List.setIfInBounds_toArray, List.set_cons_zero, List.set_cons_succ]
  refine takeH 3 39 (v := .agg (V).toArray) rfl (by rfl) (by kernel_rfl) (by kernel_rfl) (by kernel_rfl) (fun _ _ _ h => h) (yieldsIf_load_mid (by rfl) _ _ rfl _ _ rfl (V) _ (fun wq hq => Box.range (hq.2.2)) Try.underlying43 rfl SV.out) ((And.intro x_f_m0 (And.intro x_x_m0 x_g_m0))) ?_
  try simp only [Act.put, List.setIfInBounds_toArray, List.set_cons_zero, List.set_cons_succ]
  refine takeH 4 40 (v := .agg (V).toArray) rfl (by rfl) (by kernel_rfl) (by kernel_rfl) (by kernel_rfl) (fun _ _ _ h => h) (yieldsIf_load_mid (by rfl) _ _ rfl _ _ rfl (V) _ (fun wq hq => Box.range (hq.1)) Try.underlying43 rfl SV.out) ((And.intro x_f_m0 (And.intro x_x_m0 x_g_m0))) ?_
  try simp only [Act.put, List.setIfInBounds_toArray, List.set_cons_zero, List.set_cons_succ]
  refine takeH 5 41 (v := ?vm5_4) rfl (by rfl) (by kernel_rfl) (by kernel_rfl) (by kernel_rfl) (fun _ _ _ h => h) (Or.inl ⟨by rfl, ?_⟩) ((And.intro x_f_m0 (And.intro x_x_m0 x_g_m0))) ?_
  rotate_left
  · intro wq hSq
    go_simp
    exact rfl
  try simp only [Act.put, List.setIfInBounds_toArray, List.set_cons_zero, List.set_cons_succ]
  refine takeH 6 42 (v := ?vm6_5) rfl (by rfl) (by kernel_rfl) (by kernel_rfl) (by kernel_rfl) (fun _ _ _ h => h) (Or.inl ⟨by rfl, ?_⟩) ((And.intro x_f_m0 (And.intro x_x_m0 x_g_m0))) ?_
  rotate_left
  · intro wq hSq
    go_simp
    exact rfl
  try simp only [Act.put, List.setIfInBounds_toArray, List.set_cons_zero, List.set_cons_succ]
  refine takeH 7 43 (v := ?vm7_6) rfl (by rfl) (by kernel_rfl) (by kernel_rfl) (by kernel_rfl) (fun _ _ _ h => h) (Or.inl ⟨by rfl, ?_⟩) ((And.intro x_f_m0 (And.intro x_x_m0 x_g_m0))) ?_
  rotate_left
  · intro wq hSq
    go_simp
    exact rfl
  try simp only [Act.put, List.setIfInBounds_toArray, List.set_cons_zero, List.set_cons_succ]
  refine takeH 8 44 (v := ?vm8_7) rfl (by rfl) (by kernel_rfl) (by kernel_rfl) (by kernel_rfl) (fun _ _ _ h => h) (Or.inl ⟨by rfl, ?_⟩) ((And.intro x_f_m0 (And.intro x_x_m0 x_g_m0))) ?_
  rotate_left
  · intro wq hSq
    go_simp
    exact rfl
  try simp only [Act.put, List.setIfInBounds_toArray, List.set_cons_zero, List.set_cons_succ]
  refine takeH 9 45 (v := ?vm9_8) rfl (by rfl) (by kernel_rfl) (by kernel_rfl) (by kernel_rfl) (fun _ _ _ h => h) (Or.inl ⟨by rfl, ?_⟩) ((And.intro x_f_m0 (And.intro x_x_m0 x_g_m0))) ?_
  rotate_left
  · intro wq hSq
    go_simp
    exact rfl
  try simp only [Act.put, List.setIfInBounds_toArray, List.set_cons_zero, List.set_cons_succ]
  refine takeH 10 46 (v := ?vm10_9) rfl (by rfl) (by kernel_rfl) (by kernel_rfl) (by kernel_rfl) (fun _ _ _ h => h) (Or.inl ⟨by rfl, ?_⟩) ((And.intro x_f_m0 (And.intro x_x_m0 x_g_m0))) ?_
  rotate_left
  · intro wq hSq
    go_simp
    exact rfl
  try simp only [Act.put, List.setIfInBounds_toArray, List.set_cons_zero, List.set_cons_succ]
  refine takeH 11 47 (v := ?vm11_10) rfl (by rfl) (by kernel_rfl) (by kernel_rfl) (by kernel_rfl) (fun _ _ _ h => h) (Or.inl ⟨by rfl, ?_⟩) ((And.intro x_f_m0 (And.intro x_x_m0 x_g_m0))) ?_
  rotate_left
  · intro wq hSq
    go_simp
    exact rfl
  try simp only [Act.put, List.setIfInBounds_toArray, List.set_cons_zero, List.set_cons_succ]
  refine takeH 12 48 (v := ?vm12_11) rfl (by rfl) (by kernel_rfl) (by kernel_rfl) (by kernel_rfl) (fun _ _ _ h => h) (Or.inl ⟨by rfl, ?_⟩) ((And.intro x_f_m0 (And.intro x_x_m0 x_g_m0))) ?_
  rotate_left
  · intro wq hSq
    go_simp
    exact rfl
  try simp only [Act.put, List.setIfInBounds_toArray, List.set_cons_zero, List.set_cons_succ]
  refine takeH 13 49 (v := ?vm13_12) rfl (by rfl) (by kernel_rfl) (by kernel_rfl) (by kernel_rfl) (fun _ _ _ h => h) (Or.inl ⟨by rfl, ?_⟩) ((And.intro x_f_m0 (And.intro x_x_m0 x_g_m0))) ?_
  rotate_left
  · intro wq hSq
    go_simp
    exact rfl
  try simp only [Act.put, List.setIfInBounds_toArray, List.set_cons_zero, List.set_cons_succ]
  refine takeH 14 50 (v := ?vm14_13) rfl (by rfl) (by kernel_rfl) (by kernel_rfl) (by kernel_rfl) (fun _ _ _ h => h) (Or.inl ⟨by rfl, ?_⟩) ((And.intro x_f_m0 (And.intro x_x_m0 x_g_m0))) ?_
  rotate_left
  · intro wq hSq
    go_simp
    exact rfl
  try simp only [Act.put, List.setIfInBounds_toArray, List.set_cons_zero, List.set_cons_succ]
  refine takeH 15 51 (v := ?vm15_14) rfl (by rfl) (by kernel_rfl) (by kernel_rfl) (by kernel_rfl) (fun _ _ _ h => h) (Or.inl ⟨by rfl, ?_⟩) ((And.intro x_f_m0 (And.intro x_x_m0 x_g_m0))) ?_
  rotate_left
  · intro wq hSq
    have cq := (hSq.2.1).c 0 _ x0
    have zq := lt_of_cell cq
    go_simp
    exact rfl
  try simp only [Act.put, List.setIfInBounds_toArray, List.set_cons_zero, List.set_cons_succ]
  refine takeH 16 52 (v := ?vm16_15) rfl (by rfl) (by kernel_rfl) (by kernel_rfl) (by kernel_rfl) (fun _ _ _ h => h) (Or.inl ⟨by rfl, ?_⟩) ((And.intro x_f_m0 (And.intro x_x_m0 x_g_m0))) ?_
  rotate_left
  · intro wq hSq
    go_simp
    exact rfl
  try simp only [Act.put, List.setIfInBounds_toArray, List.set_cons_zero, List.set_cons_succ]
  refine takeH 17 53 (v := ?vm17_16) rfl (by rfl) (by kernel_rfl) (by kernel_rfl) (by kernel_rfl) (fun _ _ _ h => h) (Or.inl ⟨by rfl, ?_⟩) ((And.intro x_f_m0 (And.intro x_x_m0 x_g_m0))) ?_
  rotate_left
  · intro wq hSq
    have cq := (hSq.1).c 0 _ v0
    have zq := lt_of_cell cq
    go_simp
    exact rfl
  try simp only [Act.put, List.setIfInBounds_toArray, List.set_cons_zero, List.set_cons_succ]
  refine takeH 18 54 (v := ?vm18_17) rfl (by rfl) (by kernel_rfl) (by kernel_rfl) (by kernel_rfl) (fun _ _ _ h => h) (Or.inl ⟨by rfl, ?_⟩) ((And.intro x_f_m0 (And.intro x_x_m0 x_g_m0))) ?_
  rotate_left
  · intro wq hSq
    go_simp
    exact rfl
  try simp only [Act.put, List.setIfInBounds_toArray, List.set_cons_zero, List.set_cons_succ]
  refine takeH 19 55 (v := ?vm19_18) rfl (by rfl) (by kernel_rfl) (by kernel_rfl) (by kernel_rfl) (fun _ _ _ h => h) (Or.inl ⟨by rfl, ?_⟩) ((And.intro x_f_m0 (And.intro x_x_m0 x_g_m0))) ?_
  rotate_left
  · intro wq hSq
    go_simp
    exact rfl
  try simp only [Act.put, List.setIfInBounds_toArray, List.set_cons_zero, List.set_cons_succ]
  refine wpAnyH_done (by kernel_rfl) ?_ _
  have hB5 := Bm0; have hs5 := hB5.size
  have x_f5 := x_f_m0
  have x_x5 := x_x_m0
  have x_g5 := x_g_m0
  have J_b5 := j_b_m0
  have J_a5 := j_a_m0
  clear Bm0 x_f_m0 x_x_m0 x_g_m0 j_b_m0 j_a_m0
  clear J_a5
  clear x_x5
  clear x_g5
  clear x_f5
  go_wp2_with fail
  refine (PB _ _ J_b5.out).mono ?_
  rintro e w6 ⟨rfl, hb⟩
  clear PB
  have hB6 : Below w.heap.size w w6 := below_thru hB5 hb
  have hs6 := hB6.size
  have J_b6 : Hid (IsL w6 .u8 (.slice a0 (bs.length) c0) bs) := Lib.hid (IsL.below J_b5.out hb)
  clear hB5 hs5 J_b5
  clear hb
  have d_h_0 := hs6
  go_upto_region 11 with (refine wpList_store_box (cs := VG) rfl _ _ _ rfl (Box.newc (l := mcell Frm.zero) rfl rfl) rfl rfl SG.out LG2.out OG.out ?_; intro W6_0 hW6_0)
  have hN : Below w6.heap.size w6 W6_0 := (hW6_0.below _ _ (by omega) ((Below.refl _ w6).alloc (Nat.le_refl _) _))
  have x_h7 : Box W6_0 (w6.heap.size) (VG) := hW6_0.box
  have hB7 : Below w.heap.size w W6_0 := below_thru hB6 hN
  have hs7 := hB7.size
  have J_b7 : Hid (IsL W6_0 .u8 (.slice a0 (bs.length) c0) bs) := Lib.hid (IsL.below J_b6.out hN)
  clear hB6 hs6 J_b6
  clear hN hW6_0
  go_wp2_with (first
    | (refine wpList_load_box9 rfl _ _ rfl x_h7 rfl Try.underlying43 rfl SG.out ?_)
    | (refine wpList_build9 rfl 43 _ rfl (us := #[]) (by rfl) (BZ _) ?_))
  refine (alive9_is _).mono ?_
  rintro e w8 ⟨rfl, hb⟩
  have hB8 : Below w.heap.size w w8 := below_thru hB7 hb
  have hs8 := hB8.size
  have x_h8 : Box w8 (w6.heap.size) (VG) := Box.below x_h7 hb
  have J_b8 : Hid (IsL w8 .u8 (.slice a0 (bs.length) c0) bs) := Lib.hid (IsL.below J_b7.out hb)
  clear hB7 hs7 x_h7 J_b7
  clear hb
  go_wp2_with fail
  go_returns
  exact ⟨rfl, hB8⟩

set_option maxRecDepth 100000 in
set_option maxHeartbeats 12800000 in
theorem one9_t59 (f : Frm) (G : Frm) {v : Value} {bs : List Int} (hA : f.Ok) (hG : G.Ok) (hGb : G.bs = bs) (hlen : bs.length = 59) (hk : G.kd = 1) (PB : Parses 12 bs G 0) (w : World) (h1 : IsL w .u8 v bs) : Calls Try.prog 6 #[.agg (mcell f).toArray, v] w fun e w' => e = .returned (.bool true) ∧ Below w.heap.size w w' := by
  obtain ⟨a0, c0, rfl, hr, _⟩ := id h1
  have i1 := hr.room
  have i2 := hr.most
  have HV := Lib.hid h1
  have hn := (Frm.bs_nth hG).1; rw [hGb, hk] at hn
  obtain ⟨b, off, rfl, cb⟩ := h1.get 0 (by omega)
  rw [Nat.add_zero, hn] at cb
  rw [hlen] at HV i1 ⊢
  have WG := fun W => wr_is G (xs := bs) (q := 0) (Or.inl ⟨rfl, hG, hGb.symm⟩) W
  have KG := fun W => rchk_is G (q := 0) (Lib.hid (Or.inl ⟨rfl, hG⟩)) W
  have g0 : (mcell G)[0]? = some (.int .u8 1) := by rw [← hk]; rfl
  unfold Parses at PB
  have SG := Lib.hid (size_frm G); have LG := Lib.hid (len_frm Frm.zero G); have OG := Lib.hid (one_frm G)
  have SV := Lib.hid (size_frm f)
  have v0 : (mcell f)[0]? = some (.int .u8 f.kd) := rfl
  have PA := parse_self hA; unfold Parses at PA
  have LV := Lib.hid (len_frm Frm.zero f); have OV := Lib.hid (one_frm f); have EV := fun W => eqm_t (rfl : f = f) W
  have hx := Frm.bs_nth hA
  have WF := fun W => wr_is f (xs := f.bs) (q := 0) (Or.inl ⟨rfl, hA, rfl⟩) W
  have KF := fun W => rchk_is f (q := 0) (Lib.hid (Or.inl ⟨rfl, hA⟩)) W
  have x0 : (f.bs.map (Value.int .u8))[0]? = some (.int .u8 f.kd) := by rw [nth_at' 0 hx.2.1, hx.1]
  obtain ⟨XS, hXS⟩ : ∃ X, f.bs = X := ⟨_, rfl⟩
  rw [hXS] at PA WF x0 hx
  have ex0 : ((XS.length : Int) == 0) = false := by have := hx.2.1; rw [beq_eq_false_iff_ne]; omega
  have ex2 := hx.2.1
  have ex1 : (0 : Int) < (XS.length : Int) := by have := hx.2.1; omega
  have HX := Lib.hid hx.2.1
  clear hXS hx
  obtain ⟨V, hV⟩ : ∃ V, mcell f = V := ⟨_, rfl⟩
  rw [hV] at SV v0 WF KF PA LV OV EV ⊢
  obtain ⟨VG, hVG⟩ : ∃ V, mcell G = V := ⟨_, rfl⟩
  rw [hVG] at PB SG OG WG KG g0 LG
  clear hr h1 hV hVG hA hlen hG hGb hk hn
  go_enter Try.func6, Try.ntmps6
  go_upto_region 1 with fail
  refine F_gen (F := fun W => Code.wp _ _ _ _ W) (J := fun W => Box W (w.heap.size) (V) ∧ Below w.heap.size w W) (And.intro (Box.newc rfl rfl) (by go_grown)) ?_
  intro w0 ⟨e_f, hB0⟩
  have hs0 := hB0.size
  have x_f0 := e_f; clear e_f
  have J_b0 : Hid (IsL w0 .u8 (.slice (some ⟨b, off, none⟩) (59) c0) bs) := Lib.hid (HV.out.below hB0)
  go_wp2_with (refine wpList_load_box9 rfl _ _ rfl x_f0 rfl Try.underlying43 rfl SV.out ?_)
  refine (WF _).mono ?_
  rintro e w1 ⟨va, rfl, hoa, hb⟩
  clear WF
  have hB1 : Below w.heap.size w w1 := below_thru hB0 hb
  have hs1 := hB1.size
  have x_f1 : Box w1 (w.heap.size) (V) := Box.below x_f0 hb
  have J_b1 : Hid (IsL w1 .u8 (.slice (some ⟨b, off, none⟩) (59) c0) bs) := Lib.hid (IsL.below J_b0.out hb)
  clear hB0 hs0 x_f0 J_b0
  clear hb
  have ha := IsL.own hoa rfl
  obtain ⟨ga, ca, rfl, _, _, _, hbx⟩ := own_box hoa HX.out
  clear hoa
  have J_a1 : Hid (IsL w1 .u8 (.slice (some ⟨ga, 0, none⟩) XS.length ca) XS) := Lib.hid ha
  clear ha
  have x_x1 : Box w1 (ga) (XS.map (Value.int .u8)) := hbx
  clear hbx
  go_wp2_with (refine wpList_load_box9 rfl _ _ rfl x_f1 rfl Try.underlying43 rfl SV.out ?_)
  refine (KF _).mono ?_
  rintro e w2 ⟨rfl, hb⟩
  clear KF
  have hB2 : Below w.heap.size w w2 := below_thru hB1 hb
  have hs2 := hB2.size
  have x_f2 : Box w2 (w.heap.size) (V) := Box.below x_f1 hb
  have x_x2 : Box w2 (ga) (XS.map (Value.int .u8)) := Box.below x_x1 hb
  have J_b2 : Hid (IsL w2 .u8 (.slice (some ⟨b, off, none⟩) (59) c0) bs) := Lib.hid (IsL.below J_b1.out hb)
  have J_a2 : Hid (IsL w2 .u8 (.slice (some ⟨ga, 0, none⟩) XS.length ca) XS) := Lib.hid (IsL.below J_a1.out hb)
  clear hB1 hs1 x_f1 x_x1 J_b1 J_a1
  clear hb
  go_wp2_with fail
  refine (PA _ _ J_a2.out).mono ?_
  rintro e w3 ⟨rfl, hb⟩
  clear PA
  have hB3 : Below w.heap.size w w3 := below_thru hB2 hb
  have hs3 := hB3.size
  have x_f3 : Box w3 (w.heap.size) (V) := Box.below x_f2 hb
  have x_x3 : Box w3 (ga) (XS.map (Value.int .u8)) := Box.below x_x2 hb
  have J_b3 : Hid (IsL w3 .u8 (.slice (some ⟨b, off, none⟩) (59) c0) bs) := Lib.hid (IsL.below J_b2.out hb)
  have J_a3 : Hid (IsL w3 .u8 (.slice (some ⟨ga, 0, none⟩) XS.length ca) XS) := Lib.hid (IsL.below J_a2.out hb)
  clear hB2 hs2 x_f2 x_x2 J_b2 J_a2
  clear hb
  have d_g_f := (x_f3).lt
  have d_g_x := (x_x3).lt
  have d_g_0 := hs3
  go_upto_region 8 with (refine wpList_store_box (cs := V) rfl _ _ _ rfl (Box.newc (l := mcell Frm.zero) rfl rfl) rfl rfl SV.out LV.out OV.out ?_; intro W3_0 hW3_0)
  have hN : Below w3.heap.size w3 W3_0 := (hW3_0.below _ _ (by omega) ((Below.refl _ w3).alloc (Nat.le_refl _) _))
  have x_g4 : Box W3_0 (w3.heap.size) (V) := hW3_0.box
  have hB4 : Below w.heap.size w W3_0 := below_thru hB3 hN
  have hs4 := hB4.size
  have x_f4 : Box W3_0 (w.heap.size) (V) := Box.below x_f3 hN
  have x_x4 : Box W3_0 (ga) (XS.map (Value.int .u8)) := Box.below x_x3 hN
  have J_b4 : Hid (IsL W3_0 .u8 (.slice (some ⟨b, off, none⟩) (59) c0) bs) := Lib.hid (IsL.below J_b3.out hN)
  have J_a4 : Hid (IsL W3_0 .u8 (.slice (some ⟨ga, 0, none⟩) XS.length ca) XS) := Lib.hid (IsL.below J_a3.out hN)
  clear hB3 hs3 x_f3 x_x3 J_b3 J_a3
  clear hN hW3_0
  refine wp_region_held_drew (S := fun W => Box W (w.heap.size) (V) ∧ Box W (ga) (XS.map (Value.int .u8)) ∧ Box W (w3.heap.size) (V)) (by kernel_rfl) (And.intro (x_f4).drew (And.intro (x_x4).drew (x_g4).drew)) (fun _ => ?_)
  refine F_drew (F := fun W => wpAnyH _ _ _ _ _ _ _ _ W) ?_
  intro Wm0 hbm0
  clear hs4
  have x_f_m0 : Box Wm0 (w.heap.size) (V) := Box.below x_f4 hbm0
  have x_x_m0 : Box Wm0 (ga) (XS.map (Value.int .u8)) := Box.below x_x4 hbm0
  have x_g_m0 : Box Wm0 (w3.heap.size) (V) := Box.below x_g4 hbm0
  have j_b_m0 := Lib.hid (IsL.below J_b4.out hbm0)
  have j_a_m0 := Lib.hid (IsL.below J_a4.out hbm0)
  have Bm0 := below_thru hB4 hbm0
  clear x_f4 x_x4 x_g4 J_b4 J_a4 hB4 hbm0
  refine takeH 0 36 (v := ?vm0_1) rfl (by rfl) (by kernel_rfl) (by kernel_rfl) (by kernel_rfl) (fun _ _ _ h => h) (Or.inl ⟨by rfl, ?_⟩) ((And.intro x_f_m0 (And.intro x_x_m0 x_g_m0))) ?_
  rotate_left
  · intro wq hSq
    go_simp
    exact rfl
  try simp only [Act.put, List.setIfInBounds_toArray, List.set_cons_zero, List.set_cons_succ]
  refine takeH 1 37 (v := ?vm1_2) rfl (by rfl) (by kernel_rfl) (by kernel_rfl) (by kernel_rfl) (fun _ _ _ h => h) (Or.inl ⟨by rfl, ?_⟩) ((And.intro x_f_m0 (And.intro x_x_m0 x_g_m0))) ?_
  rotate_left
  · intro wq hSq
    go_simp
    exact rfl
  try simp only [Act.put, List.setIfInBounds_toArray, List.set_cons_zero, List.set_cons_succ]
  refine takeH 2 38 (v := ?vm2_3) rfl (by rfl) (by kernel_rfl) (by kernel_rfl) (by kernel_rfl) (fun _ _ _ h => h) (Or.inl ⟨by rfl, ?_⟩) ((And.intro x_f_m0 (And.intro x_x_m0 x_g_m0))) ?_
  rotate_left
  · intro wq hSq
    go_simp
    exact rfl
  try simp only [Act.put, List.setIfInBounds_toArray, List.set_cons_zero, List.set_cons_succ]
  refine takeH 3 39 (v := .agg (V).toArray) rfl (by rfl) (by kernel_rfl) (by kernel_rfl) (by kernel_rfl) (fun _ _ _ h => h) (yieldsIf_load_mid (by rfl) _ _ rfl _ _ rfl (V) _ (fun wq hq => Box.range (hq.2.2)) Try.underlying43 rfl SV.out) ((And.intro x_f_m0 (And.intro x_x_m0 x_g_m0))) ?_
  try simp only [Act.put, List.setIfInBounds_toArray, List.set_cons_zero, List.set_cons_succ]
  refine takeH 4 40 (v := .agg (V).toArray) rfl (by rfl) (by kernel_rfl) (by kernel_rfl) (by kernel_rfl) (fun _ _ _ h => h) (yieldsIf_load_mid (by rfl) _ _ rfl _ _ rfl (V) _ (fun wq hq => Box.range (hq.1)) Try.underlying43 rfl SV.out) ((And.intro x_f_m0 (And.intro x_x_m0 x_g_m0))) ?_
  try simp only [Act.put, List.setIfInBounds_toArray, List.set_cons_zero, List.set_cons_succ]
  refine takeH 5 41 (v := ?vm5_4) rfl (by rfl) (by kernel_rfl) (by kernel_rfl) (by kernel_rfl) (fun _ _ _ h => h) (Or.inl ⟨by rfl, ?_⟩) ((And.intro x_f_m0 (And.intro x_x_m0 x_g_m0))) ?_
  rotate_left
  · intro wq hSq
    go_simp
    exact rfl
  try simp only [Act.put, List.setIfInBounds_toArray, List.set_cons_zero, List.set_cons_succ]
  refine takeH 6 42 (v := ?vm6_5) rfl (by rfl) (by kernel_rfl) (by kernel_rfl) (by kernel_rfl) (fun _ _ _ h => h) (Or.inl ⟨by rfl, ?_⟩) ((And.intro x_f_m0 (And.intro x_x_m0 x_g_m0))) ?_
  rotate_left
  · intro wq hSq
    go_simp
    exact rfl
  try simp only [Act.put, List.setIfInBounds_toArray, List.set_cons_zero, List.set_cons_succ]
  refine takeH 7 43 (v := ?vm7_6) rfl (by rfl) (by kernel_rfl) (by kernel_rfl) (by kernel_rfl) (fun _ _ _ h => h) (Or.inl ⟨by rfl, ?_⟩) ((And.intro x_f_m0 (And.intro x_x_m0 x_g_m0))) ?_
  rotate_left
  · intro wq hSq
    go_simp
    exact rfl
  try simp only [Act.put, List.setIfInBounds_toArray, List.set_cons_zero, List.set_cons_succ]
  refine takeH 8 44 (v := ?vm8_7) rfl (by rfl) (by kernel_rfl) (by kernel_rfl) (by kernel_rfl) (fun _ _ _ h => h) (Or.inl ⟨by rfl, ?_⟩) ((And.intro x_f_m0 (And.intro x_x_m0 x_g_m0))) ?_
  rotate_left
  · intro wq hSq
    go_simp
    exact rfl
  try simp only [Act.put, List.setIfInBounds_toArray, List.set_cons_zero, List.set_cons_succ]
  refine takeH 9 45 (v := ?vm9_8) rfl (by rfl) (by kernel_rfl) (by kernel_rfl) (by kernel_rfl) (fun _ _ _ h => h) (Or.inl ⟨by rfl, ?_⟩) ((And.intro x_f_m0 (And.intro x_x_m0 x_g_m0))) ?_
  rotate_left
  · intro wq hSq
    go_simp
    exact rfl
  try simp only [Act.put, List.setIfInBounds_toArray, List.set_cons_zero, List.set_cons_succ]
  refine takeH 10 46 (v := ?vm10_9) rfl (by rfl) (by kernel_rfl) (by kernel_rfl) (by kernel_rfl) (fun _ _ _ h => h) (Or.inl ⟨by rfl, ?_⟩) ((And.intro x_f_m0 (And.intro x_x_m0 x_g_m0))) ?_
  rotate_left
  · intro wq hSq
    go_simp
    exact rfl
  try simp only [Act.put, List.setIfInBounds_toArray, List.set_cons_zero, List.set_cons_succ]
  refine takeH 11 47 (v := ?vm11_10) rfl (by rfl) (by kernel_rfl) (by kernel_rfl) (by kernel_rfl) (fun _ _ _ h => h) (Or.inl ⟨by rfl, ?_⟩) ((And.intro x_f_m0 (And.intro x_x_m0 x_g_m0))) ?_
  rotate_left
  · intro wq hSq
    go_simp
    exact rfl
  try simp only [Act.put, List.setIfInBounds_toArray, List.set_cons_zero, List.set_cons_succ]
  refine takeH 12 48 (v := ?vm12_11) rfl (by rfl) (by kernel_rfl) (by kernel_rfl) (by kernel_rfl) (fun _ _ _ h => h) (Or.inl ⟨by rfl, ?_⟩) ((And.intro x_f_m0 (And.intro x_x_m0 x_g_m0))) ?_
  rotate_left
  · intro wq hSq
    go_simp
    exact rfl
  try simp only [Act.put, List.setIfInBounds_toArray, List.set_cons_zero, List.set_cons_succ]
  refine takeH 13 49 (v := ?vm13_12) rfl (by rfl) (by kernel_rfl) (by kernel_rfl) (by kernel_rfl) (fun _ _ _ h => h) (Or.inl ⟨by rfl, ?_⟩) ((And.intro x_f_m0 (And.intro x_x_m0 x_g_m0))) ?_
  rotate_left
  · intro wq hSq
    go_simp
    exact rfl
  try simp only [Act.put, List.setIfInBounds_toArray, List.set_cons_zero, List.set_cons_succ]
  refine takeH 14 50 (v := ?vm14_13) rfl (by rfl) (by kernel_rfl) (by kernel_rfl) (by kernel_rfl) (fun _ _ _ h => h) (Or.inl ⟨by rfl, ?_⟩) ((And.intro x_f_m0 (And.intro x_x_m0 x_g_m0))) ?_
  rotate_left
  · intro wq hSq
    go_simp
    exact rfl
  try simp only [Act.put, List.setIfInBounds_toArray, List.set_cons_zero, List.set_cons_succ]
  refine takeH 15 51 (v := ?vm15_14) rfl (by rfl) (by kernel_rfl) (by kernel_rfl) (by kernel_rfl) (fun _ _ _ h => h) (Or.inl ⟨by rfl, ?_⟩) ((And.intro x_f_m0 (And.intro x_x_m0 x_g_m0))) ?_
  rotate_left
  · intro wq hSq
    have cq := (hSq.2.1).c 0 _ x0
    have zq := lt_of_cell cq
    go_simp
    exact rfl
  try simp only [Act.put, List.setIfInBounds_toArray, List.set_cons_zero, List.set_cons_succ]
  refine takeH 16 52 (v := ?vm16_15) rfl (by rfl) (by kernel_rfl) (by kernel_rfl) (by kernel_rfl) (fun _ _ _ h => h) (Or.inl ⟨by rfl, ?_⟩) ((And.intro x_f_m0 (And.intro x_x_m0 x_g_m0))) ?_
  rotate_left
  · intro wq hSq
    go_simp
    exact rfl
  try simp only [Act.put, List.setIfInBounds_toArray, List.set_cons_zero, List.set_cons_succ]
  refine takeH 17 53 (v := ?vm17_16) rfl (by rfl) (by kernel_rfl) (by kernel_rfl) (by kernel_rfl) (fun _ _ _ h => h) (Or.inl ⟨by rfl, ?_⟩) ((And.intro x_f_m0 (And.intro x_x_m0 x_g_m0))) ?_
  rotate_left
  · intro wq hSq
    have cq := (hSq.1).c 0 _ v0
    have zq := lt_of_cell cq
    go_simp
    exact rfl
  try simp only [Act.put, List.setIfInBounds_toArray, List.set_cons_zero, List.set_cons_succ]
  refine takeH 18 54 (v := ?vm18_17) rfl (by rfl) (by kernel_rfl) (by kernel_rfl) (by kernel_rfl) (fun _ _ _ h => h) (Or.inl ⟨by rfl, ?_⟩) ((And.intro x_f_m0 (And.intro x_x_m0 x_g_m0))) ?_
  rotate_left
  · intro wq hSq
    go_simp
    exact rfl
  try simp only [Act.put, List.setIfInBounds_toArray, List.set_cons_zero, List.set_cons_succ]
  refine takeH 19 55 (v := ?vm19_18) rfl (by rfl) (by kernel_rfl) (by kernel_rfl) (by kernel_rfl) (fun _ _ _ h => h) (Or.inl ⟨by rfl, ?_⟩) ((And.intro x_f_m0 (And.intro x_x_m0 x_g_m0))) ?_
  rotate_left
  · intro wq hSq
    go_simp
    exact rfl
  try simp only [Act.put, List.setIfInBounds_toArray, List.set_cons_zero, List.set_cons_succ]
  refine wpAnyH_done (by kernel_rfl) ?_ _
  have hB5 := Bm0; have hs5 := hB5.size
  have x_f5 := x_f_m0
  have x_x5 := x_x_m0
  have x_g5 := x_g_m0
  have J_b5 := j_b_m0
  have J_a5 := j_a_m0
  clear Bm0 x_f_m0 x_x_m0 x_g_m0 j_b_m0 j_a_m0
  clear J_a5
  clear x_x5
  clear x_g5
  clear x_f5
  go_wp2_with fail
  refine (PB _ _ J_b5.out).mono ?_
  rintro e w6 ⟨rfl, hb⟩
  clear PB
  have hB6 : Below w.heap.size w w6 := below_thru hB5 hb
  have hs6 := hB6.size
  have J_b6 : Hid (IsL w6 .u8 (.slice (some ⟨b, off, none⟩) (59) c0) bs) := Lib.hid (IsL.below J_b5.out hb)
  clear hB5 hs5 J_b5
  clear hb
  have d_h_0 := hs6
  go_upto_region 11 with (refine wpList_store_box (cs := VG) rfl _ _ _ rfl (Box.newc (l := mcell Frm.zero) rfl rfl) rfl rfl SG.out LG.out OG.out ?_; intro W6_0 hW6_0)
  have hN : Below w6.heap.size w6 W6_0 := (hW6_0.below _ _ (by omega) ((Below.refl _ w6).alloc (Nat.le_refl _) _))
  have x_h7 : Box W6_0 (w6.heap.size) (VG) := hW6_0.box
  have hB7 : Below w.heap.size w W6_0 := below_thru hB6 hN
  have hs7 := hB7.size
  have J_b7 : Hid (IsL W6_0 .u8 (.slice (some ⟨b, off, none⟩) (59) c0) bs) := Lib.hid (IsL.below J_b6.out hN)
  clear hB6 hs6 J_b6
  clear hN hW6_0
  go_wp2_with (refine wpList_load_box9 rfl _ _ rfl x_h7 rfl Try.underlying43 rfl SG.out ?_)
  refine (WG _).mono ?_
  rintro e w8 ⟨vd, rfl, hod, hb⟩
  clear WG
  have hB8 : Below w.heap.size w w8 := below_thru hB7 hb
  have hs8 := hB8.size
  have x_h8 : Box w8 (w6.heap.size) (VG) := Box.below x_h7 hb
  have J_b8 : Hid (IsL w8 .u8 (.slice (some ⟨b, off, none⟩) (59) c0) bs) := Lib.hid (IsL.below J_b7.out hb)
  clear hB7 hs7 x_h7 J_b7
  clear hb
  have J_d8 : Hid (IsL w8 .u8 (vd) bs) := Lib.hid (IsL.own hod rfl)
  clear hod
  have cc := cell_below hB8 cb; have zc := lt_of_cell cc
  go_upto_region 17 with fail
  clear zc
  refine wp_region_held_drew (S := fun W => Box W (w6.heap.size) (VG) ∧ W.cell? ⟨b, off, none⟩ = some (.int .u8 1)) (by kernel_rfl) (And.intro (x_h8).drew cc) (fun _ => ?_)
  refine F_drew (F := fun W => wpAnyH _ _ _ _ _ _ _ _ W) ?_
  intro Wz0 hbz0
  clear hs8
  have x_h_z0 : Box Wz0 (w6.heap.size) (VG) := Box.below x_h8 hbz0
  have c_k_z0 := cell_below hbz0 cc
  have j_b_z0 := Lib.hid (IsL.below J_b8.out hbz0)
  have j_d_z0 := Lib.hid (IsL.below J_d8.out hbz0)
  have Bz0 := below_thru hB8 hbz0
  clear x_h8 cc J_b8 J_d8 hB8 hbz0
  refine takeH 0 101 (v := ?vz0_1) rfl (by rfl) (by kernel_rfl) (by kernel_rfl) (by kernel_rfl) (fun _ _ _ h => h) (Or.inl ⟨by rfl, ?_⟩) ((And.intro x_h_z0 c_k_z0)) ?_
  rotate_left
  · intro wq hSq
    go_simp
    exact rfl
  try simp only [Act.put, List.setIfInBounds_toArray, List.set_cons_zero, List.set_cons_succ]
  refine takeH 1 102 (v := ?vz1_2) rfl (by rfl) (by kernel_rfl) (by kernel_rfl) (by kernel_rfl) (fun _ _ _ h => h) (Or.inl ⟨by rfl, ?_⟩) ((And.intro x_h_z0 c_k_z0)) ?_
  rotate_left
  · intro wq hSq
    go_simp
    exact rfl
  try simp only [Act.put, List.setIfInBounds_toArray, List.set_cons_zero, List.set_cons_succ]
  refine takeH 2 103 (v := ?vz2_3) rfl (by rfl) (by kernel_rfl) (by kernel_rfl) (by kernel_rfl) (fun _ _ _ h => h) (Or.inl ⟨by rfl, ?_⟩) ((And.intro x_h_z0 c_k_z0)) ?_
  rotate_left
  · intro wq hSq
    go_simp
    exact rfl
  try simp only [Act.put, List.setIfInBounds_toArray, List.set_cons_zero, List.set_cons_succ]
  refine takeH 3 104 (v := ?vz3_4) rfl (by rfl) (by kernel_rfl) (by kernel_rfl) (by kernel_rfl) (fun _ _ _ h => h) (Or.inl ⟨by rfl, ?_⟩) ((And.intro x_h_z0 c_k_z0)) ?_
  rotate_left
  · intro wq hSq
    go_simp
    exact rfl
  try simp only [Act.put, List.setIfInBounds_toArray, List.set_cons_zero, List.set_cons_succ]
  refine takeH 4 105 (v := ?vz4_5) rfl (by rfl) (by kernel_rfl) (by kernel_rfl) (by kernel_rfl) (fun _ _ _ h => h) (Or.inl ⟨by rfl, ?_⟩) ((And.intro x_h_z0 c_k_z0)) ?_
  rotate_left
  · intro wq hSq
    go_simp
    exact rfl
  try simp only [Act.put, List.setIfInBounds_toArray, List.set_cons_zero, List.set_cons_succ]
  refine wpAnyH_ready (rs := [5]) (by kernel_rfl) (by simp) (AllReadyH.cons rfl (fun K hK => ?_) AllReadyH.nil)
  go_simp
  refine (sameb_tt _ j_d_z0.out j_b_z0.out).mono ?_
  rintro e Wz6 ⟨rfl, hbz6⟩
  have x_h_z6 : Box Wz6 (w6.heap.size) (VG) := Box.below x_h_z0 hbz6
  have c_k_z6 := cell_below hbz6 c_k_z0
  have j_b_z6 := Lib.hid (IsL.below j_b_z0.out hbz6)
  have j_d_z6 := Lib.hid (IsL.below j_d_z0.out hbz6)
  have Bz6 := below_thru Bz0 hbz6
  clear x_h_z0 c_k_z0 j_b_z0 j_d_z0 Bz0 hbz6
  refine hK.out _ _ (And.intro x_h_z6 c_k_z6) (fun _ => ?_); clear hK K
  refine takeH 6 107 (v := ?vz6_7) rfl (by rfl) (by kernel_rfl) (by kernel_rfl) (by kernel_rfl) (fun _ _ _ h => h) (Or.inl ⟨by rfl, ?_⟩) ((And.intro x_h_z6 c_k_z6)) ?_
  rotate_left
  · intro wq hSq
    go_simp
    exact rfl
  try simp only [Act.put, List.setIfInBounds_toArray, List.set_cons_zero, List.set_cons_succ]
  refine takeH 7 108 (v := ?vz7_8) rfl (by rfl) (by kernel_rfl) (by kernel_rfl) (by kernel_rfl) (fun _ _ _ h => h) (Or.inl ⟨by rfl, ?_⟩) ((And.intro x_h_z6 c_k_z6)) ?_
  rotate_left
  · intro wq hSq
    go_simp
    exact rfl
  try simp only [Act.put, List.setIfInBounds_toArray, List.set_cons_zero, List.set_cons_succ]
  refine takeH 8 109 (v := ?vz8_9) rfl (by rfl) (by kernel_rfl) (by kernel_rfl) (by kernel_rfl) (fun _ _ _ h => h) (Or.inl ⟨by rfl, ?_⟩) ((And.intro x_h_z6 c_k_z6)) ?_
  rotate_left
  · intro wq hSq
    go_simp
    exact rfl
  try simp only [Act.put, List.setIfInBounds_toArray, List.set_cons_zero, List.set_cons_succ]
  refine takeH 9 110 (v := ?vz9_10) rfl (by rfl) (by kernel_rfl) (by kernel_rfl) (by kernel_rfl) (fun _ _ _ h => h) (Or.inl ⟨by rfl, ?_⟩) ((And.intro x_h_z6 c_k_z6)) ?_
  rotate_left
  · intro wq hSq
    go_simp
    exact rfl
  try simp only [Act.put, List.setIfInBounds_toArray, List.set_cons_zero, List.set_cons_succ]
  refine takeH 10 111 (v := ?vz10_11) rfl (by rfl) (by kernel_rfl) (by kernel_rfl) (by kernel_rfl) (fun _ _ _ h => h) (Or.inl ⟨by rfl, ?_⟩) ((And.intro x_h_z6 c_k_z6)) ?_
  rotate_left
  · intro wq hSq
    go_simp
    exact rfl
  try simp only [Act.put, List.setIfInBounds_toArray, List.set_cons_zero, List.set_cons_succ]
  refine takeH 11 112 (v := ?vz11_12) rfl (by rfl) (by kernel_rfl) (by kernel_rfl) (by kernel_rfl) (fun _ _ _ h => h) (Or.inl ⟨by rfl, ?_⟩) ((And.intro x_h_z6 c_k_z6)) ?_
  rotate_left
  · intro wq hSq
    go_simp
    exact rfl
  try simp only [Act.put, List.setIfInBounds_toArray, List.set_cons_zero, List.set_cons_succ]
  refine takeH 12 113 (v := ?vz12_13) rfl (by rfl) (by kernel_rfl) (by kernel_rfl) (by kernel_rfl) (fun _ _ _ h => h) (Or.inl ⟨by rfl, ?_⟩) ((And.intro x_h_z6 c_k_z6)) ?_
  rotate_left
  · intro wq hSq
    have cq := (hSq.1).c 0 _ g0
    have zq := lt_of_cell cq
    go_simp
    exact rfl
  try simp only [Act.put, List.setIfInBounds_toArray, List.set_cons_zero, List.set_cons_succ]
  refine takeH 13 114 (v := ?vz13_14) rfl (by rfl) (by kernel_rfl) (by kernel_rfl) (by kernel_rfl) (fun _ _ _ h => h) (Or.inl ⟨by rfl, ?_⟩) ((And.intro x_h_z6 c_k_z6)) ?_
  rotate_left
  · intro wq hSq
    go_simp
    exact rfl
  try simp only [Act.put, List.setIfInBounds_toArray, List.set_cons_zero, List.set_cons_succ]
  refine takeH 14 115 (v := ?vz14_15) rfl (by rfl) (by kernel_rfl) (by kernel_rfl) (by kernel_rfl) (fun _ _ _ h => h) (Or.inl ⟨by rfl, ?_⟩) ((And.intro x_h_z6 c_k_z6)) ?_
  rotate_left
  · intro wq hSq
    go_simp
    exact rfl
  try simp only [Act.put, List.setIfInBounds_toArray, List.set_cons_zero, List.set_cons_succ]
  refine takeH 15 116 (v := ?vz15_16) rfl (by rfl) (by kernel_rfl) (by kernel_rfl) (by kernel_rfl) (fun _ _ _ h => h) (Or.inl ⟨by rfl, ?_⟩) ((And.intro x_h_z6 c_k_z6)) ?_
  rotate_left
  · intro wq hSq
    have cq := hSq.2
    have zq := lt_of_cell cq
    go_simp
    exact rfl
  try simp only [Act.put, List.setIfInBounds_toArray, List.set_cons_zero, List.set_cons_succ]
  refine takeH 16 117 (v := ?vz16_17) rfl (by rfl) (by kernel_rfl) (by kernel_rfl) (by kernel_rfl) (fun _ _ _ h => h) (Or.inl ⟨by rfl, ?_⟩) ((And.intro x_h_z6 c_k_z6)) ?_
  rotate_left
  · intro wq hSq
    go_simp
    exact rfl
  try simp only [Act.put, List.setIfInBounds_toArray, List.set_cons_zero, List.set_cons_succ]
  refine takeH 17 118 (v := ?vz17_18) rfl (by rfl) (by kernel_rfl) (by kernel_rfl) (by kernel_rfl) (fun _ _ _ h => h) (Or.inl ⟨by rfl, ?_⟩) ((And.intro x_h_z6 c_k_z6)) ?_
  rotate_left
  · intro wq hSq
    go_simp
    exact rfl
  try simp only [Act.put, List.setIfInBounds_toArray, List.set_cons_zero, List.set_cons_succ]
  refine takeH 18 119 (v := ?vz18_19) rfl (by rfl) (by kernel_rfl) (by kernel_rfl) (by kernel_rfl) (fun _ _ _ h => h) (Or.inl ⟨by rfl, ?_⟩) ((And.intro x_h_z6 c_k_z6)) ?_
  rotate_left
  · intro wq hSq
    go_simp
    exact rfl
  try simp only [Act.put, List.setIfInBounds_toArray, List.set_cons_zero, List.set_cons_succ]
  refine takeH 19 120 (v := .agg (VG).toArray) rfl (by rfl) (by kernel_rfl) (by kernel_rfl) (by kernel_rfl) (fun _ _ _ h => h) (yieldsIf_load_mid (by rfl) _ _ rfl _ _ rfl (VG) _ (fun wq hq => Box.range (hq.1)) Try.underlying43 rfl SG.out) ((And.intro x_h_z6 c_k_z6)) ?_
  try simp only [Act.put, List.setIfInBounds_toArray, List.set_cons_zero, List.set_cons_succ]
  refine wpAnyH_ready (rs := [20]) (by kernel_rfl) (by simp) (AllReadyH.cons rfl (fun K hK => ?_) AllReadyH.nil)
  go_simp
  refine (KG _).mono ?_
  rintro e Wz20 ⟨rfl, hbz20⟩
  have x_h_z20 : Box Wz20 (w6.heap.size) (VG) := Box.below x_h_z6 hbz20
  have c_k_z20 := cell_below hbz20 c_k_z6
  have j_b_z20 := Lib.hid (IsL.below j_b_z6.out hbz20)
  have j_d_z20 := Lib.hid (IsL.below j_d_z6.out hbz20)
  have Bz20 := below_thru Bz6 hbz20
  clear x_h_z6 c_k_z6 j_b_z6 j_d_z6 Bz6 hbz20
  refine hK.out _ _ (And.intro x_h_z20 c_k_z20) (fun _ => ?_); clear hK K
  refine takeH 21 122 (v := ?vz21_21) rfl (by rfl) (by kernel_rfl) (by kernel_rfl) (by kernel_rfl) (fun _ _ _ h => h) (Or.inl ⟨by rfl, ?_⟩) ((And.intro x_h_z20 c_k_z20)) ?_
  rotate_left
  · intro wq hSq
    go_simp
    exact rfl
  try simp only [Act.put, List.setIfInBounds_toArray, List.set_cons_zero, List.set_cons_succ]
  refine takeH 22 123 (v := ?vz22_22) rfl (by rfl) (by kernel_rfl) (by kernel_rfl) (by kernel_rfl) (fun _ _ _ h => h) (Or.inl ⟨by rfl, ?_⟩) ((And.intro x_h_z20 c_k_z20)) ?_
  rotate_left
  · intro wq hSq
    go_simp
    exact rfl
  try simp only [Act.put, List.setIfInBounds_toArray, List.set_cons_zero, List.set_cons_succ]
  refine takeH 23 124 (v := ?vz23_23) rfl (by rfl) (by kernel_rfl) (by kernel_rfl) (by kernel_rfl) (fun _ _ _ h => h) (Or.inl ⟨by rfl, ?_⟩) ((And.intro x_h_z20 c_k_z20)) ?_
  rotate_left
  · intro wq hSq
    go_simp
    exact rfl
  try simp only [Act.put, List.setIfInBounds_toArray, List.set_cons_zero, List.set_cons_succ]
  refine wpAnyH_ready (rs := [24]) (by kernel_rfl) (by simp) (AllReadyH.cons rfl (fun K hK => ?_) AllReadyH.nil)
  go_simp
  refine (alive9_is _).mono ?_
  rintro e Wz24 ⟨rfl, hbz24⟩
  have x_h_z24 : Box Wz24 (w6.heap.size) (VG) := Box.below x_h_z20 hbz24
  have c_k_z24 := cell_below hbz24 c_k_z20
  have j_b_z24 := Lib.hid (IsL.below j_b_z20.out hbz24)
  have j_d_z24 := Lib.hid (IsL.below j_d_z20.out hbz24)
  have Bz24 := below_thru Bz20 hbz24
  clear x_h_z20 c_k_z20 j_b_z20 j_d_z20 Bz20 hbz24
  refine hK.out _ _ (And.intro x_h_z24 c_k_z24) (fun _ => ?_); clear hK K
  refine takeH 25 126 (v := ?vz25_25) rfl (by rfl) (by kernel_rfl) (by kernel_rfl) (by kernel_rfl) (fun _ _ _ h => h) (Or.inl ⟨by rfl, ?_⟩) ((And.intro x_h_z24 c_k_z24)) ?_
  rotate_left
  · intro wq hSq
    go_simp
    exact rfl
  try simp only [Act.put, List.setIfInBounds_toArray, List.set_cons_zero, List.set_cons_succ]
  refine takeH 26 4 (v := ?vz26_26) rfl (by rfl) (by kernel_rfl) (by kernel_rfl) (by kernel_rfl) (fun _ _ _ h => h) (Or.inl ⟨by rfl, ?_⟩) ((And.intro x_h_z24 c_k_z24)) ?_
  rotate_left
  · intro wq hSq
    go_simp
    exact rfl
  try simp only [Act.put, List.setIfInBounds_toArray, List.set_cons_zero, List.set_cons_succ]
  refine wpAnyH_done (by kernel_rfl) ?_ _
  go_wp2_with fail
  go_returns
  exact ⟨rfl, Bz24⟩

set_option maxRecDepth 100000 in
set_option maxHeartbeats 12800000 in
theorem one9_t88 (f : Frm) (G : Frm) {v : Value} {bs : List Int} (hA : f.Ok) (hG : G.Ok) (hGb : G.bs = bs) (hlen : bs.length = 88) (hk : G.kd = 2) (PB : Parses 12 bs G 0) (w : World) (h1 : IsL w .u8 v bs) : Calls Try.prog 6 #[.agg (mcell f).toArray, v] w fun e w' => e = .returned (.bool true) ∧ Below w.heap.size w w' := by
  obtain ⟨a0, c0, rfl, hr, _⟩ := id h1
  have i1 := hr.room
  have i2 := hr.most
  have HV := Lib.hid h1
  have hn := (Frm.bs_nth hG).1; rw [hGb, hk] at hn
  obtain ⟨b, off, rfl, cb⟩ := h1.get 0 (by omega)
  rw [Nat.add_zero, hn] at cb
  rw [hlen] at HV i1 ⊢
  have WG := fun W => wr_is G (xs := bs) (q := 0) (Or.inl ⟨rfl, hG, hGb.symm⟩) W
  have KG := fun W => rchk_is G (q := 0) (Lib.hid (Or.inl ⟨rfl, hG⟩)) W
  have g0 : (mcell G)[0]? = some (.int .u8 2) := by rw [← hk]; rfl
  unfold Parses at PB
  have SG := Lib.hid (size_frm G); have LG := Lib.hid (len_frm Frm.zero G); have OG := Lib.hid (one_frm G)
  have SV := Lib.hid (size_frm f)
  have v0 : (mcell f)[0]? = some (.int .u8 f.kd) := rfl
  have PA := parse_self hA; unfold Parses at PA
  have LV := Lib.hid (len_frm Frm.zero f); have OV := Lib.hid (one_frm f); have EV := fun W => eqm_t (rfl : f = f) W
  have hx := Frm.bs_nth hA
  have WF := fun W => wr_is f (xs := f.bs) (q := 0) (Or.inl ⟨rfl, hA, rfl⟩) W
  have KF := fun W => rchk_is f (q := 0) (Lib.hid (Or.inl ⟨rfl, hA⟩)) W
  have x0 : (f.bs.map (Value.int .u8))[0]? = some (.int .u8 f.kd) := by rw [nth_at' 0 hx.2.1, hx.1]
  obtain ⟨XS, hXS⟩ : ∃ X, f.bs = X := ⟨_, rfl⟩
  rw [hXS] at PA WF x0 hx
  have ex0 : ((XS.length : Int) == 0) = false := by have := hx.2.1; rw [beq_eq_false_iff_ne]; omega
  have ex2 := hx.2.1
  have ex1 : (0 : Int) < (XS.length : Int) := by have := hx.2.1; omega
  have HX := Lib.hid hx.2.1
  clear hXS hx
  obtain ⟨V, hV⟩ : ∃ V, mcell f = V := ⟨_, rfl⟩
  rw [hV] at SV v0 WF KF PA LV OV EV ⊢
  obtain ⟨VG, hVG⟩ : ∃ V, mcell G = V := ⟨_, rfl⟩
  rw [hVG] at PB SG OG WG KG g0 LG
  clear hr h1 hV hVG hA hlen hG hGb hk hn
  go_enter Try.func6, Try.ntmps6
  go_upto_region 1 with fail
  refine F_gen (F := fun W => Code.wp _ _ _ _ W) (J := fun W => Box W (w.heap.size) (V) ∧ Below w.heap.size w W) (And.intro (Box.newc rfl rfl) (by go_grown)) ?_
  intro w0 ⟨e_f, hB0⟩
  have hs0 := hB0.size
  have x_f0 := e_f; clear e_f
  have J_b0 : Hid (IsL w0 .u8 (.slice (some ⟨b, off, none⟩) (88) c0) bs) := Lib.hid (HV.out.below hB0)
  go_wp2_with (refine wpList_load_box9 rfl _ _ rfl x_f0 rfl Try.underlying43 rfl SV.out ?_)
  refine (WF _).mono ?_
  rintro e w1 ⟨va, rfl, hoa, hb⟩
  clear WF
  have hB1 : Below w.heap.size w w1 := below_thru hB0 hb
  have hs1 := hB1.size
  have x_f1 : Box w1 (w.heap.size) (V) := Box.below x_f0 hb
  have J_b1 : Hid (IsL w1 .u8 (.slice (some ⟨b, off, none⟩) (88) c0) bs) := Lib.hid (IsL.below J_b0.out hb)
  clear hB0 hs0 x_f0 J_b0
  clear hb
  have ha := IsL.own hoa rfl
  obtain ⟨ga, ca, rfl, _, _, _, hbx⟩ := own_box hoa HX.out
  clear hoa
  have J_a1 : Hid (IsL w1 .u8 (.slice (some ⟨ga, 0, none⟩) XS.length ca) XS) := Lib.hid ha
  clear ha
  have x_x1 : Box w1 (ga) (XS.map (Value.int .u8)) := hbx
  clear hbx
  go_wp2_with (refine wpList_load_box9 rfl _ _ rfl x_f1 rfl Try.underlying43 rfl SV.out ?_)
  refine (KF _).mono ?_
  rintro e w2 ⟨rfl, hb⟩
  clear KF
  have hB2 : Below w.heap.size w w2 := below_thru hB1 hb
  have hs2 := hB2.size
  have x_f2 : Box w2 (w.heap.size) (V) := Box.below x_f1 hb
  have x_x2 : Box w2 (ga) (XS.map (Value.int .u8)) := Box.below x_x1 hb
  have J_b2 : Hid (IsL w2 .u8 (.slice (some ⟨b, off, none⟩) (88) c0) bs) := Lib.hid (IsL.below J_b1.out hb)
  have J_a2 : Hid (IsL w2 .u8 (.slice (some ⟨ga, 0, none⟩) XS.length ca) XS) := Lib.hid (IsL.below J_a1.out hb)
  clear hB1 hs1 x_f1 x_x1 J_b1 J_a1
  clear hb
  go_wp2_with fail
  refine (PA _ _ J_a2.out).mono ?_
  rintro e w3 ⟨rfl, hb⟩
  clear PA
  have hB3 : Below w.heap.size w w3 := below_thru hB2 hb
  have hs3 := hB3.size
  have x_f3 : Box w3 (w.heap.size) (V) := Box.below x_f2 hb
  have x_x3 : Box w3 (ga) (XS.map (Value.int .u8)) := Box.below x_x2 hb
  have J_b3 : Hid (IsL w3 .u8 (.slice (some ⟨b, off, none⟩) (88) c0) bs) := Lib.hid (IsL.below J_b2.out hb)
  have J_a3 : Hid (IsL w3 .u8 (.slice (some ⟨ga, 0, none⟩) XS.length ca) XS) := Lib.hid (IsL.below J_a2.out hb)
  clear hB2 hs2 x_f2 x_x2 J_b2 J_a2
  clear hb
  have d_g_f := (x_f3).lt
  have d_g_x := (x_x3).lt
  have d_g_0 := hs3
  go_upto_region 8 with (refine wpList_store_box (cs := V) rfl _ _ _ rfl (Box.newc (l := mcell Frm.zero) rfl rfl) rfl rfl SV.out LV.out OV.out ?_; intro W3_0 hW3_0)
  have hN : Below w3.heap.size w3 W3_0 := (hW3_0.below _ _ (by omega) ((Below.refl _ w3).alloc (Nat.le_refl _) _))
  have x_g4 : Box W3_0 (w3.heap.size) (V) := hW3_0.box
  have hB4 : Below w.heap.size w W3_0 := below_thru hB3 hN
  have hs4 := hB4.size
  have x_f4 : Box W3_0 (w.heap.size) (V) := Box.below x_f3 hN
  have x_x4 : Box W3_0 (ga) (XS.map (Value.int .u8)) := Box.below x_x3 hN
  have J_b4 : Hid (IsL W3_0 .u8 (.slice (some ⟨b, off, none⟩) (88) c0) bs) := Lib.hid (IsL.below J_b3.out hN)
  have J_a4 : Hid (IsL W3_0 .u8 (.slice (some ⟨ga, 0, none⟩) XS.length ca) XS) := Lib.hid (IsL.below J_a3.out hN)
  clear hB3 hs3 x_f3 x_x3 J_b3 J_a3
  clear hN hW3_0
  refine wp_region_held_drew (S := fun W => Box W (w.heap.size) (V) ∧ Box W (ga) (XS.map (Value.int .u8)) ∧ Box W (w3.heap.size) (V)) (by kernel_rfl) (And.intro (x_f4).drew (And.intro (x_x4).drew (x_g4).drew)) (fun _ => ?_)
  refine F_drew (F := fun W => wpAnyH _ _ _ _ _ _ _ _ W) ?_
  intro Wm0 hbm0
  clear hs4
  have x_f_m0 : Box Wm0 (w.heap.size) (V) := Box.below x_f4 hbm0
  have x_x_m0 : Box Wm0 (ga) (XS.map (Value.int .u8)) := Box.below x_x4 hbm0
  have x_g_m0 : Box Wm0 (w3.heap.size) (V) := Box.below x_g4 hbm0
  have j_b_m0 := Lib.hid (IsL.below J_b4.out hbm0)
  have j_a_m0 := Lib.hid (IsL.below J_a4.out hbm0)
  have Bm0 := below_thru hB4 hbm0
  clear x_f4 x_x4 x_g4 J_b4 J_a4 hB4 hbm0
  refine takeH 0 36 (v := ?vm0_1) rfl (by rfl) (by kernel_rfl) (by kernel_rfl) (by kernel_rfl) (fun _ _ _ h => h) (Or.inl ⟨by rfl, ?_⟩) ((And.intro x_f_m0 (And.intro x_x_m0 x_g_m0))) ?_
  rotate_left
  · intro wq hSq
    go_simp
    exact rfl
  try simp only [Act.put, List.setIfInBounds_toArray, List.set_cons_zero, List.set_cons_succ]
  refine takeH 1 37 (v := ?vm1_2) rfl (by rfl) (by kernel_rfl) (by kernel_rfl) (by kernel_rfl) (fun _ _ _ h => h) (Or.inl ⟨by rfl, ?_⟩) ((And.intro x_f_m0 (And.intro x_x_m0 x_g_m0))) ?_
  rotate_left
  · intro wq hSq
    go_simp
    exact rfl
  try simp only [Act.put, List.setIfInBounds_toArray, List.set_cons_zero, List.set_cons_succ]
  refine takeH 2 38 (v := ?vm2_3) rfl (by rfl) (by kernel_rfl) (by kernel_rfl) (by kernel_rfl) (fun _ _ _ h => h) (Or.inl ⟨by rfl, ?_⟩) ((And.intro x_f_m0 (And.intro x_x_m0 x_g_m0))) ?_
  rotate_left
  · intro wq hSq
    go_simp
    exact rfl
  try simp only [Act.put, List.setIfInBounds_toArray, List.set_cons_zero, List.set_cons_succ]
  refine takeH 3 39 (v := .agg (V).toArray) rfl (by rfl) (by kernel_rfl) (by kernel_rfl) (by kernel_rfl) (fun _ _ _ h => h) (yieldsIf_load_mid (by rfl) _ _ rfl _ _ rfl (V) _ (fun wq hq => Box.range (hq.2.2)) Try.underlying43 rfl SV.out) ((And.intro x_f_m0 (And.intro x_x_m0 x_g_m0))) ?_
  try simp only [Act.put, List.setIfInBounds_toArray, List.set_cons_zero, List.set_cons_succ]
  refine takeH 4 40 (v := .agg (V).toArray) rfl (by rfl) (by kernel_rfl) (by kernel_rfl) (by kernel_rfl) (fun _ _ _ h => h) (yieldsIf_load_mid (by rfl) _ _ rfl _ _ rfl (V) _ (fun wq hq => Box.range (hq.1)) Try.underlying43 rfl SV.out) ((And.intro x_f_m0 (And.intro x_x_m0 x_g_m0))) ?_
  try simp only [Act.put, List.setIfInBounds_toArray, List.set_cons_zero, List.set_cons_succ]
  refine takeH 5 41 (v := ?vm5_4) rfl (by rfl) (by kernel_rfl) (by kernel_rfl) (by kernel_rfl) (fun _ _ _ h => h) (Or.inl ⟨by rfl, ?_⟩) ((And.intro x_f_m0 (And.intro x_x_m0 x_g_m0))) ?_
  rotate_left
  · intro wq hSq
    go_simp
    exact rfl
  try simp only [Act.put, List.setIfInBounds_toArray, List.set_cons_zero, List.set_cons_succ]
  refine takeH 6 42 (v := ?vm6_5) rfl (by rfl) (by kernel_rfl) (by kernel_rfl) (by kernel_rfl) (fun _ _ _ h => h) (Or.inl ⟨by rfl, ?_⟩) ((And.intro x_f_m0 (And.intro x_x_m0 x_g_m0))) ?_
  rotate_left
  · intro wq hSq
    go_simp
    exact rfl
  try simp only [Act.put, List.setIfInBounds_toArray, List.set_cons_zero, List.set_cons_succ]
  refine takeH 7 43 (v := ?vm7_6) rfl (by rfl) (by kernel_rfl) (by kernel_rfl) (by kernel_rfl) (fun _ _ _ h => h) (Or.inl ⟨by rfl, ?_⟩) ((And.intro x_f_m0 (And.intro x_x_m0 x_g_m0))) ?_
  rotate_left
  · intro wq hSq
    go_simp
    exact rfl
  try simp only [Act.put, List.setIfInBounds_toArray, List.set_cons_zero, List.set_cons_succ]
  refine takeH 8 44 (v := ?vm8_7) rfl (by rfl) (by kernel_rfl) (by kernel_rfl) (by kernel_rfl) (fun _ _ _ h => h) (Or.inl ⟨by rfl, ?_⟩) ((And.intro x_f_m0 (And.intro x_x_m0 x_g_m0))) ?_
  rotate_left
  · intro wq hSq
    go_simp
    exact rfl
  try simp only [Act.put, List.setIfInBounds_toArray, List.set_cons_zero, List.set_cons_succ]
  refine takeH 9 45 (v := ?vm9_8) rfl (by rfl) (by kernel_rfl) (by kernel_rfl) (by kernel_rfl) (fun _ _ _ h => h) (Or.inl ⟨by rfl, ?_⟩) ((And.intro x_f_m0 (And.intro x_x_m0 x_g_m0))) ?_
  rotate_left
  · intro wq hSq
    go_simp
    exact rfl
  try simp only [Act.put, List.setIfInBounds_toArray, List.set_cons_zero, List.set_cons_succ]
  refine takeH 10 46 (v := ?vm10_9) rfl (by rfl) (by kernel_rfl) (by kernel_rfl) (by kernel_rfl) (fun _ _ _ h => h) (Or.inl ⟨by rfl, ?_⟩) ((And.intro x_f_m0 (And.intro x_x_m0 x_g_m0))) ?_
  rotate_left
  · intro wq hSq
    go_simp
    exact rfl
  try simp only [Act.put, List.setIfInBounds_toArray, List.set_cons_zero, List.set_cons_succ]
  refine takeH 11 47 (v := ?vm11_10) rfl (by rfl) (by kernel_rfl) (by kernel_rfl) (by kernel_rfl) (fun _ _ _ h => h) (Or.inl ⟨by rfl, ?_⟩) ((And.intro x_f_m0 (And.intro x_x_m0 x_g_m0))) ?_
  rotate_left
  · intro wq hSq
    go_simp
    exact rfl
  try simp only [Act.put, List.setIfInBounds_toArray, List.set_cons_zero, List.set_cons_succ]
  refine takeH 12 48 (v := ?vm12_11) rfl (by rfl) (by kernel_rfl) (by kernel_rfl) (by kernel_rfl) (fun _ _ _ h => h) (Or.inl ⟨by rfl, ?_⟩) ((And.intro x_f_m0 (And.intro x_x_m0 x_g_m0))) ?_
  rotate_left
  · intro wq hSq
    go_simp
    exact rfl
  try simp only [Act.put, List.setIfInBounds_toArray, List.set_cons_zero, List.set_cons_succ]
  refine takeH 13 49 (v := ?vm13_12) rfl (by rfl) (by kernel_rfl) (by kernel_rfl) (by kernel_rfl) (fun _ _ _ h => h) (Or.inl ⟨by rfl, ?_⟩) ((And.intro x_f_m0 (And.intro x_x_m0 x_g_m0))) ?_
  rotate_left
  · intro wq hSq
    go_simp
    exact rfl
  try simp only [Act.put, List.setIfInBounds_toArray, List.set_cons_zero, List.set_cons_succ]
  refine takeH 14 50 (v := ?vm14_13) rfl (by rfl) (by kernel_rfl) (by kernel_rfl) (by kernel_rfl) (fun _ _ _ h => h) (Or.inl ⟨by rfl, ?_⟩) ((And.intro x_f_m0 (And.intro x_x_m0 x_g_m0))) ?_
  rotate_left
  · intro wq hSq
    go_simp
    exact rfl
  try simp only [Act.put, List.setIfInBounds_toArray, List.set_cons_zero, List.set_cons_succ]
  refine takeH 15 51 (v := ?vm15_14) rfl (by rfl) (by kernel_rfl) (by kernel_rfl) (by kernel_rfl) (fun _ _ _ h => h) (Or.inl ⟨by rfl, ?_⟩) ((And.intro x_f_m0 (And.intro x_x_m0 x_g_m0))) ?_
  rotate_left
  · intro wq hSq
    have cq := (hSq.2.1).c 0 _ x0
    have zq := lt_of_cell cq
    go_simp
    exact rfl
  try simp only [Act.put, List.setIfInBounds_toArray, List.set_cons_zero, List.set_cons_succ]
  refine takeH 16 52 (v := ?vm16_15) rfl (by rfl) (by kernel_rfl) (by kernel_rfl) (by kernel_rfl) (fun _ _ _ h => h) (Or.inl ⟨by rfl, ?_⟩) ((And.intro x_f_m0 (And.intro x_x_m0 x_g_m0))) ?_
  rotate_left
  · intro wq hSq
    go_simp
    exact rfl
  try simp only [Act.put, List.setIfInBounds_toArray, List.set_cons_zero, List.set_cons_succ]
  refine takeH 17 53 (v := ?vm17_16) rfl (by rfl) (by kernel_rfl) (by kernel_rfl) (by kernel_rfl) (fun _ _ _ h => h) (Or.inl ⟨by rfl, ?_⟩) ((And.intro x_f_m0 (And.intro x_x_m0 x_g_m0))) ?_
  rotate_left
  · intro wq hSq
    have cq := (hSq.1).c 0 _ v0
    have zq := lt_of_cell cq
    go_simp
    exact rfl
  try simp only [Act.put, List.setIfInBounds_toArray, List.set_cons_zero, List.set_cons_succ]
  refine takeH 18 54 (v := ?vm18_17) rfl (by rfl) (by kernel_rfl) (by kernel_rfl) (by kernel_rfl) (fun _ _ _ h => h) (Or.inl ⟨by rfl, ?_⟩) ((And.intro x_f_m0 (And.intro x_x_m0 x_g_m0))) ?_
  rotate_left
  · intro wq hSq
    go_simp
    exact rfl
  try simp only [Act.put, List.setIfInBounds_toArray, List.set_cons_zero, List.set_cons_succ]
  refine takeH 19 55 (v := ?vm19_18) rfl (by rfl) (by kernel_rfl) (by kernel_rfl) (by kernel_rfl) (fun _ _ _ h => h) (Or.inl ⟨by rfl, ?_⟩) ((And.intro x_f_m0 (And.intro x_x_m0 x_g_m0))) ?_
  rotate_left
  · intro wq hSq
    go_simp
    exact rfl
  try simp only [Act.put, List.setIfInBounds_toArray, List.set_cons_zero, List.set_cons_succ]
  refine wpAnyH_done (by kernel_rfl) ?_ _
  have hB5 := Bm0; have hs5 := hB5.size
  have x_f5 := x_f_m0
  have x_x5 := x_x_m0
  have x_g5 := x_g_m0
  have J_b5 := j_b_m0
  have J_a5 := j_a_m0
  clear Bm0 x_f_m0 x_x_m0 x_g_m0 j_b_m0 j_a_m0
  clear J_a5
  clear x_x5
  clear x_g5
  clear x_f5
  go_wp2_with fail
  refine (PB _ _ J_b5.out).mono ?_
  rintro e w6 ⟨rfl, hb⟩
  clear PB
  have hB6 : Below w.heap.size w w6 := below_thru hB5 hb
  have hs6 := hB6.size
  have J_b6 : Hid (IsL w6 .u8 (.slice (some ⟨b, off, none⟩) (88) c0) bs) := Lib.hid (IsL.below J_b5.out hb)
  clear hB5 hs5 J_b5
  clear hb
  have d_h_0 := hs6
  go_upto_region 11 with (refine wpList_store_box (cs := VG) rfl _ _ _ rfl (Box.newc (l := mcell Frm.zero) rfl rfl) rfl rfl SG.out LG.out OG.out ?_; intro W6_0 hW6_0)
  have hN : Below w6.heap.size w6 W6_0 := (hW6_0.below _ _ (by omega) ((Below.refl _ w6).alloc (Nat.le_refl _) _))
  have x_h7 : Box W6_0 (w6.heap.size) (VG) := hW6_0.box
  have hB7 : Below w.heap.size w W6_0 := below_thru hB6 hN
  have hs7 := hB7.size
  have J_b7 : Hid (IsL W6_0 .u8 (.slice (some ⟨b, off, none⟩) (88) c0) bs) := Lib.hid (IsL.below J_b6.out hN)
  clear hB6 hs6 J_b6
  clear hN hW6_0
  go_wp2_with (refine wpList_load_box9 rfl _ _ rfl x_h7 rfl Try.underlying43 rfl SG.out ?_)
  refine (WG _).mono ?_
  rintro e w8 ⟨vd, rfl, hod, hb⟩
  clear WG
  have hB8 : Below w.heap.size w w8 := below_thru hB7 hb
  have hs8 := hB8.size
  have x_h8 : Box w8 (w6.heap.size) (VG) := Box.below x_h7 hb
  have J_b8 : Hid (IsL w8 .u8 (.slice (some ⟨b, off, none⟩) (88) c0) bs) := Lib.hid (IsL.below J_b7.out hb)
  clear hB7 hs7 x_h7 J_b7
  clear hb
  have J_d8 : Hid (IsL w8 .u8 (vd) bs) := Lib.hid (IsL.own hod rfl)
  clear hod
  have cc := cell_below hB8 cb; have zc := lt_of_cell cc
  go_upto_region 17 with fail
  clear zc
  refine wp_region_held_drew (S := fun W => Box W (w6.heap.size) (VG) ∧ W.cell? ⟨b, off, none⟩ = some (.int .u8 2)) (by kernel_rfl) (And.intro (x_h8).drew cc) (fun _ => ?_)
  refine F_drew (F := fun W => wpAnyH _ _ _ _ _ _ _ _ W) ?_
  intro Wz0 hbz0
  clear hs8
  have x_h_z0 : Box Wz0 (w6.heap.size) (VG) := Box.below x_h8 hbz0
  have c_k_z0 := cell_below hbz0 cc
  have j_b_z0 := Lib.hid (IsL.below J_b8.out hbz0)
  have j_d_z0 := Lib.hid (IsL.below J_d8.out hbz0)
  have Bz0 := below_thru hB8 hbz0
  clear x_h8 cc J_b8 J_d8 hB8 hbz0
  refine takeH 0 101 (v := ?vz0_1) rfl (by rfl) (by kernel_rfl) (by kernel_rfl) (by kernel_rfl) (fun _ _ _ h => h) (Or.inl ⟨by rfl, ?_⟩) ((And.intro x_h_z0 c_k_z0)) ?_
  rotate_left
  · intro wq hSq
    go_simp
    exact rfl
  try simp only [Act.put, List.setIfInBounds_toArray, List.set_cons_zero, List.set_cons_succ]
  refine takeH 1 102 (v := ?vz1_2) rfl (by rfl) (by kernel_rfl) (by kernel_rfl) (by kernel_rfl) (fun _ _ _ h => h) (Or.inl ⟨by rfl, ?_⟩) ((And.intro x_h_z0 c_k_z0)) ?_
  rotate_left
  · intro wq hSq
    go_simp
    exact rfl
  try simp only [Act.put, List.setIfInBounds_toArray, List.set_cons_zero, List.set_cons_succ]
  refine takeH 2 103 (v := ?vz2_3) rfl (by rfl) (by kernel_rfl) (by kernel_rfl) (by kernel_rfl) (fun _ _ _ h => h) (Or.inl ⟨by rfl, ?_⟩) ((And.intro x_h_z0 c_k_z0)) ?_
  rotate_left
  · intro wq hSq
    go_simp
    exact rfl
  try simp only [Act.put, List.setIfInBounds_toArray, List.set_cons_zero, List.set_cons_succ]
  refine takeH 3 104 (v := ?vz3_4) rfl (by rfl) (by kernel_rfl) (by kernel_rfl) (by kernel_rfl) (fun _ _ _ h => h) (Or.inl ⟨by rfl, ?_⟩) ((And.intro x_h_z0 c_k_z0)) ?_
  rotate_left
  · intro wq hSq
    go_simp
    exact rfl
  try simp only [Act.put, List.setIfInBounds_toArray, List.set_cons_zero, List.set_cons_succ]
  refine takeH 4 105 (v := ?vz4_5) rfl (by rfl) (by kernel_rfl) (by kernel_rfl) (by kernel_rfl) (fun _ _ _ h => h) (Or.inl ⟨by rfl, ?_⟩) ((And.intro x_h_z0 c_k_z0)) ?_
  rotate_left
  · intro wq hSq
    go_simp
    exact rfl
  try simp only [Act.put, List.setIfInBounds_toArray, List.set_cons_zero, List.set_cons_succ]
  refine wpAnyH_ready (rs := [5]) (by kernel_rfl) (by simp) (AllReadyH.cons rfl (fun K hK => ?_) AllReadyH.nil)
  go_simp
  refine (sameb_tt _ j_d_z0.out j_b_z0.out).mono ?_
  rintro e Wz6 ⟨rfl, hbz6⟩
  have x_h_z6 : Box Wz6 (w6.heap.size) (VG) := Box.below x_h_z0 hbz6
  have c_k_z6 := cell_below hbz6 c_k_z0
  have j_b_z6 := Lib.hid (IsL.below j_b_z0.out hbz6)
  have j_d_z6 := Lib.hid (IsL.below j_d_z0.out hbz6)
  have Bz6 := below_thru Bz0 hbz6
  clear x_h_z0 c_k_z0 j_b_z0 j_d_z0 Bz0 hbz6
  refine hK.out _ _ (And.intro x_h_z6 c_k_z6) (fun _ => ?_); clear hK K
  refine takeH 6 107 (v := ?vz6_7) rfl (by rfl) (by kernel_rfl) (by kernel_rfl) (by kernel_rfl) (fun _ _ _ h => h) (Or.inl ⟨by rfl, ?_⟩) ((And.intro x_h_z6 c_k_z6)) ?_
  rotate_left
  · intro wq hSq
    go_simp
    exact rfl
  try simp only [Act.put, List.setIfInBounds_toArray, List.set_cons_zero, List.set_cons_succ]
  refine takeH 7 108 (v := ?vz7_8) rfl (by rfl) (by kernel_rfl) (by kernel_rfl) (by kernel_rfl) (fun _ _ _ h => h) (Or.inl ⟨by rfl, ?_⟩) ((And.intro x_h_z6 c_k_z6)) ?_
  rotate_left
  · intro wq hSq
    go_simp
    exact rfl
  try simp only [Act.put, List.setIfInBounds_toArray, List.set_cons_zero, List.set_cons_succ]
  refine takeH 8 109 (v := ?vz8_9) rfl (by rfl) (by kernel_rfl) (by kernel_rfl) (by kernel_rfl) (fun _ _ _ h => h) (Or.inl ⟨by rfl, ?_⟩) ((And.intro x_h_z6 c_k_z6)) ?_
  rotate_left
  · intro wq hSq
    go_simp
    exact rfl
  try simp only [Act.put, List.setIfInBounds_toArray, List.set_cons_zero, List.set_cons_succ]
  refine takeH 9 110 (v := ?vz9_10) rfl (by rfl) (by kernel_rfl) (by kernel_rfl) (by kernel_rfl) (fun _ _ _ h => h) (Or.inl ⟨by rfl, ?_⟩) ((And.intro x_h_z6 c_k_z6)) ?_
  rotate_left
  · intro wq hSq
    go_simp
    exact rfl
  try simp only [Act.put, List.setIfInBounds_toArray, List.set_cons_zero, List.set_cons_succ]
  refine takeH 10 111 (v := ?vz10_11) rfl (by rfl) (by kernel_rfl) (by kernel_rfl) (by kernel_rfl) (fun _ _ _ h => h) (Or.inl ⟨by rfl, ?_⟩) ((And.intro x_h_z6 c_k_z6)) ?_
  rotate_left
  · intro wq hSq
    go_simp
    exact rfl
  try simp only [Act.put, List.setIfInBounds_toArray, List.set_cons_zero, List.set_cons_succ]
  refine takeH 11 112 (v := ?vz11_12) rfl (by rfl) (by kernel_rfl) (by kernel_rfl) (by kernel_rfl) (fun _ _ _ h => h) (Or.inl ⟨by rfl, ?_⟩) ((And.intro x_h_z6 c_k_z6)) ?_
  rotate_left
  · intro wq hSq
    go_simp
    exact rfl
  try simp only [Act.put, List.setIfInBounds_toArray, List.set_cons_zero, List.set_cons_succ]
  refine takeH 12 113 (v := ?vz12_13) rfl (by rfl) (by kernel_rfl) (by kernel_rfl) (by kernel_rfl) (fun _ _ _ h => h) (Or.inl ⟨by rfl, ?_⟩) ((And.intro x_h_z6 c_k_z6)) ?_
  rotate_left
  · intro wq hSq
    have cq := (hSq.1).c 0 _ g0
    have zq := lt_of_cell cq
    go_simp
    exact rfl
  try simp only [Act.put, List.setIfInBounds_toArray, List.set_cons_zero, List.set_cons_succ]
  refine takeH 13 114 (v := ?vz13_14) rfl (by rfl) (by kernel_rfl) (by kernel_rfl) (by kernel_rfl) (fun _ _ _ h => h) (Or.inl ⟨by rfl, ?_⟩) ((And.intro x_h_z6 c_k_z6)) ?_
  rotate_left
  · intro wq hSq
    go_simp
    exact rfl
  try simp only [Act.put, List.setIfInBounds_toArray, List.set_cons_zero, List.set_cons_succ]
  refine takeH 14 115 (v := ?vz14_15) rfl (by rfl) (by kernel_rfl) (by kernel_rfl) (by kernel_rfl) (fun _ _ _ h => h) (Or.inl ⟨by rfl, ?_⟩) ((And.intro x_h_z6 c_k_z6)) ?_
  rotate_left
  · intro wq hSq
    go_simp
    exact rfl
  try simp only [Act.put, List.setIfInBounds_toArray, List.set_cons_zero, List.set_cons_succ]
  refine takeH 15 116 (v := ?vz15_16) rfl (by rfl) (by kernel_rfl) (by kernel_rfl) (by kernel_rfl) (fun _ _ _ h => h) (Or.inl ⟨by rfl, ?_⟩) ((And.intro x_h_z6 c_k_z6)) ?_
  rotate_left
  · intro wq hSq
    have cq := hSq.2
    have zq := lt_of_cell cq
    go_simp
    exact rfl
  try simp only [Act.put, List.setIfInBounds_toArray, List.set_cons_zero, List.set_cons_succ]
  refine takeH 16 117 (v := ?vz16_17) rfl (by rfl) (by kernel_rfl) (by kernel_rfl) (by kernel_rfl) (fun _ _ _ h => h) (Or.inl ⟨by rfl, ?_⟩) ((And.intro x_h_z6 c_k_z6)) ?_
  rotate_left
  · intro wq hSq
    go_simp
    exact rfl
  try simp only [Act.put, List.setIfInBounds_toArray, List.set_cons_zero, List.set_cons_succ]
  refine takeH 17 118 (v := ?vz17_18) rfl (by rfl) (by kernel_rfl) (by kernel_rfl) (by kernel_rfl) (fun _ _ _ h => h) (Or.inl ⟨by rfl, ?_⟩) ((And.intro x_h_z6 c_k_z6)) ?_
  rotate_left
  · intro wq hSq
    go_simp
    exact rfl
  try simp only [Act.put, List.setIfInBounds_toArray, List.set_cons_zero, List.set_cons_succ]
  refine takeH 18 119 (v := ?vz18_19) rfl (by rfl) (by kernel_rfl) (by kernel_rfl) (by kernel_rfl) (fun _ _ _ h => h) (Or.inl ⟨by rfl, ?_⟩) ((And.intro x_h_z6 c_k_z6)) ?_
  rotate_left
  · intro wq hSq
    go_simp
    exact rfl
  try simp only [Act.put, List.setIfInBounds_toArray, List.set_cons_zero, List.set_cons_succ]
  refine takeH 19 120 (v := .agg (VG).toArray) rfl (by rfl) (by kernel_rfl) (by kernel_rfl) (by kernel_rfl) (fun _ _ _ h => h) (yieldsIf_load_mid (by rfl) _ _ rfl _ _ rfl (VG) _ (fun wq hq => Box.range (hq.1)) Try.underlying43 rfl SG.out) ((And.intro x_h_z6 c_k_z6)) ?_
  try simp only [Act.put, List.setIfInBounds_toArray, List.set_cons_zero, List.set_cons_succ]
  refine wpAnyH_ready (rs := [20]) (by kernel_rfl) (by simp) (AllReadyH.cons rfl (fun K hK => ?_) AllReadyH.nil)
  go_simp
  refine (KG _).mono ?_
  rintro e Wz20 ⟨rfl, hbz20⟩
  have x_h_z20 : Box Wz20 (w6.heap.size) (VG) := Box.below x_h_z6 hbz20
  have c_k_z20 := cell_below hbz20 c_k_z6
  have j_b_z20 := Lib.hid (IsL.below j_b_z6.out hbz20)
  have j_d_z20 := Lib.hid (IsL.below j_d_z6.out hbz20)
  have Bz20 := below_thru Bz6 hbz20
  clear x_h_z6 c_k_z6 j_b_z6 j_d_z6 Bz6 hbz20
  refine hK.out _ _ (And.intro x_h_z20 c_k_z20) (fun _ => ?_); clear hK K
  refine takeH 21 122 (v := ?vz21_21) rfl (by rfl) (by kernel_rfl) (by kernel_rfl) (by kernel_rfl) (fun _ _ _ h => h) (Or.inl ⟨by rfl, ?_⟩) ((And.intro x_h_z20 c_k_z20)) ?_
  rotate_left
  · intro wq hSq
    go_simp
    exact rfl
  try simp only [Act.put, List.setIfInBounds_toArray, List.set_cons_zero, List.set_cons_succ]
  refine takeH 22 123 (v := ?vz22_22) rfl (by rfl) (by kernel_rfl) (by kernel_rfl) (by kernel_rfl) (fun _ _ _ h => h) (Or.inl ⟨by rfl, ?_⟩) ((And.intro x_h_z20 c_k_z20)) ?_
  rotate_left
  · intro wq hSq
    go_simp
    exact rfl
  try simp only [Act.put, List.setIfInBounds_toArray, List.set_cons_zero, List.set_cons_succ]
  refine takeH 23 124 (v := ?vz23_23) rfl (by rfl) (by kernel_rfl) (by kernel_rfl) (by kernel_rfl) (fun _ _ _ h => h) (Or.inl ⟨by rfl, ?_⟩) ((And.intro x_h_z20 c_k_z20)) ?_
  rotate_left
  · intro wq hSq
    go_simp
    exact rfl
  try simp only [Act.put, List.setIfInBounds_toArray, List.set_cons_zero, List.set_cons_succ]
  refine wpAnyH_ready (rs := [24]) (by kernel_rfl) (by simp) (AllReadyH.cons rfl (fun K hK => ?_) AllReadyH.nil)
  go_simp
  refine (alive9_is _).mono ?_
  rintro e Wz24 ⟨rfl, hbz24⟩
  have x_h_z24 : Box Wz24 (w6.heap.size) (VG) := Box.below x_h_z20 hbz24
  have c_k_z24 := cell_below hbz24 c_k_z20
  have j_b_z24 := Lib.hid (IsL.below j_b_z20.out hbz24)
  have j_d_z24 := Lib.hid (IsL.below j_d_z20.out hbz24)
  have Bz24 := below_thru Bz20 hbz24
  clear x_h_z20 c_k_z20 j_b_z20 j_d_z20 Bz20 hbz24
  refine hK.out _ _ (And.intro x_h_z24 c_k_z24) (fun _ => ?_); clear hK K
  refine takeH 25 126 (v := ?vz25_25) rfl (by rfl) (by kernel_rfl) (by kernel_rfl) (by kernel_rfl) (fun _ _ _ h => h) (Or.inl ⟨by rfl, ?_⟩) ((And.intro x_h_z24 c_k_z24)) ?_
  rotate_left
  · intro wq hSq
    go_simp
    exact rfl
  try simp only [Act.put, List.setIfInBounds_toArray, List.set_cons_zero, List.set_cons_succ]
  refine takeH 26 4 (v := ?vz26_26) rfl (by rfl) (by kernel_rfl) (by kernel_rfl) (by kernel_rfl) (fun _ _ _ h => h) (Or.inl ⟨by rfl, ?_⟩) ((And.intro x_h_z24 c_k_z24)) ?_
  rotate_left
  · intro wq hSq
    go_simp
    exact rfl
  try simp only [Act.put, List.setIfInBounds_toArray, List.set_cons_zero, List.set_cons_succ]
  refine wpAnyH_done (by kernel_rfl) ?_ _
  go_wp2_with fail
  go_returns
  exact ⟨rfl, Bz24⟩

set_option maxRecDepth 100000 in
set_option maxHeartbeats 12800000 in
theorem one9_f (f : Frm) {v : Value} {bs : List Int} (hA : ¬ f.Ok) (hlen : bs.length ≤ 300) (PB : Parses 12 bs Frm.zero 12) (w : World) (h1 : IsL w .u8 v bs) : Calls Try.prog 6 #[.agg (mcell f).toArray, v] w fun e w' => e = .returned (.bool true) ∧ Below w.heap.size w w' := by
  obtain ⟨a0, c0, rfl, hr, _⟩ := id h1
  have i1 := hr.room
  have i2 := hr.most
  have HV := Lib.hid h1
  have d1 : decide ((300 : Int) < (bs.length : Int)) = false := decide_eq_false (by omega)
  have BZ := fun W => build_m0 W; have EZ := fun W => eqm_t (rfl : Frm.zero = Frm.zero) W
  unfold Parses at PB
  have SG := Lib.hid (size_frm Frm.zero); have LG := Lib.hid (len_frm Frm.zero Frm.zero); have OG := Lib.hid (one_frm Frm.zero)
  have SV := Lib.hid (size_frm f)
  have v0 : (mcell f)[0]? = some (.int .u8 f.kd) := rfl
  have WF := fun W => wr_is f (xs := []) (q := 8) (Or.inr ⟨rfl, hA, rfl⟩) W
  have KF := fun W => rchk_is f (q := 8) (Lib.hid (Or.inr ⟨rfl, hA⟩)) W
  obtain ⟨V, hV⟩ : ∃ V, mcell f = V := ⟨_, rfl⟩
  rw [hV] at SV v0 WF KF ⊢
  obtain ⟨VG, hVG⟩ : ∃ V, mcell Frm.zero = V := ⟨_, rfl⟩
  rw [hVG] at PB SG OG BZ EZ
  have LG2 : Hid ((mcell Frm.zero).length = VG.length) := Lib.hid (by rw [hVG])
  clear hr h1 hV hVG hA hlen LG
  go_enter Try.func6, Try.ntmps6
  go_upto_region 1 with fail
  refine F_gen (F := fun W => Code.wp _ _ _ _ W) (J := fun W => Box W (w.heap.size) (V) ∧ Below w.heap.size w W) (And.intro (Box.newc rfl rfl) (by go_grown)) ?_
  intro w0 ⟨e_f, hB0⟩
  have hs0 := hB0.size
  have x_f0 := e_f; clear e_f
  have J_b0 : Hid (IsL w0 .u8 (.slice a0 (bs.length) c0) bs) := Lib.hid (HV.out.below hB0)
  go_wp2_with (refine wpList_load_box9 rfl _ _ rfl x_f0 rfl Try.underlying43 rfl SV.out ?_)
  refine (WF _).mono ?_
  rintro e w1 ⟨va, rfl, hoa, hb⟩
  clear WF
  have hB1 : Below w.heap.size w w1 := below_thru hB0 hb
  have hs1 := hB1.size
  have x_f1 : Box w1 (w.heap.size) (V) := Box.below x_f0 hb
  have J_b1 : Hid (IsL w1 .u8 (.slice a0 (bs.length) c0) bs) := Lib.hid (IsL.below J_b0.out hb)
  clear hB0 hs0 x_f0 J_b0
  clear hb
  clear hoa
  go_wp2_with (refine wpList_load_box9 rfl _ _ rfl x_f1 rfl Try.underlying43 rfl SV.out ?_)
  refine (KF _).mono ?_
  rintro e w2 ⟨rfl, hb⟩
  clear KF
  have hB2 : Below w.heap.size w w2 := below_thru hB1 hb
  have hs2 := hB2.size
  have x_f2 : Box w2 (w.heap.size) (V) := Box.below x_f1 hb
  have J_b2 : Hid (IsL w2 .u8 (.slice a0 (bs.length) c0) bs) := Lib.hid (IsL.below J_b1.out hb)
  clear hB1 hs1 x_f1 J_b1
  clear hb
  clear x_f2
  go_wp2_with fail
  refine (PB _ _ J_b2.out).mono ?_
  rintro e w3 ⟨rfl, hb⟩
  clear PB
  have hB3 : Below w.heap.size w w3 := below_thru hB2 hb
  have hs3 := hB3.size
  have J_b3 : Hid (IsL w3 .u8 (.slice a0 (bs.length) c0) bs) := Lib.hid (IsL.below J_b2.out hb)
  clear hB2 hs2 J_b2
  clear hb
  have d_h_0 := hs3
  go_upto_region 11 with (refine wpList_store_box (cs := VG) rfl _ _ _ rfl (Box.newc (l := mcell Frm.zero) rfl rfl) rfl rfl SG.out LG2.out OG.out ?_; intro W3_0 hW3_0)
  have hN : Below w3.heap.size w3 W3_0 := (hW3_0.below _ _ (by omega) ((Below.refl _ w3).alloc (Nat.le_refl _) _))
  have x_h4 : Box W3_0 (w3.heap.size) (VG) := hW3_0.box
  have hB4 : Below w.heap.size w W3_0 := below_thru hB3 hN
  have hs4 := hB4.size
  have J_b4 : Hid (IsL W3_0 .u8 (.slice a0 (bs.length) c0) bs) := Lib.hid (IsL.below J_b3.out hN)
  clear hB3 hs3 J_b3
  clear hN hW3_0
  go_wp2_with (first
    | (refine wpList_load_box9 rfl _ _ rfl x_h4 rfl Try.underlying43 rfl SG.out ?_)
    | (refine wpList_build9 rfl 43 _ rfl (us := #[]) (by rfl) (BZ _) ?_))
  refine (alive9_is _).mono ?_
  rintro e w5 ⟨rfl, hb⟩
  have hB5 : Below w.heap.size w w5 := below_thru hB4 hb
  have hs5 := hB5.size
  have x_h5 : Box w5 (w3.heap.size) (VG) := Box.below x_h4 hb
  have J_b5 : Hid (IsL w5 .u8 (.slice a0 (bs.length) c0) bs) := Lib.hid (IsL.below J_b4.out hb)
  clear hB4 hs4 x_h4 J_b4
  clear hb
  go_wp2_with fail
  go_returns
  exact ⟨rfl, hB5⟩

set_option maxRecDepth 100000 in
set_option maxHeartbeats 12800000 in
theorem one9_f59 (f : Frm) (G : Frm) {v : Value} {bs : List Int} (hA : ¬ f.Ok) (hG : G.Ok) (hGb : G.bs = bs) (hlen : bs.length = 59) (hk : G.kd = 1) (PB : Parses 12 bs G 0) (w : World) (h1 : IsL w .u8 v bs) : Calls Try.prog 6 #[.agg (mcell f).toArray, v] w fun e w' => e = .returned (.bool true) ∧ Below w.heap.size w w' := by
  obtain ⟨a0, c0, rfl, hr, _⟩ := id h1
  have i1 := hr.room
  have i2 := hr.most
  have HV := Lib.hid h1
  have hn := (Frm.bs_nth hG).1; rw [hGb, hk] at hn
  obtain ⟨b, off, rfl, cb⟩ := h1.get 0 (by omega)
  rw [Nat.add_zero, hn] at cb
  rw [hlen] at HV i1 ⊢
  have WG := fun W => wr_is G (xs := bs) (q := 0) (Or.inl ⟨rfl, hG, hGb.symm⟩) W
  have KG := fun W => rchk_is G (q := 0) (Lib.hid (Or.inl ⟨rfl, hG⟩)) W
  have g0 : (mcell G)[0]? = some (.int .u8 1) := by rw [← hk]; rfl
  unfold Parses at PB
  have SG := Lib.hid (size_frm G); have LG := Lib.hid (len_frm Frm.zero G); have OG := Lib.hid (one_frm G)
  have SV := Lib.hid (size_frm f)
  have v0 : (mcell f)[0]? = some (.int .u8 f.kd) := rfl
  have WF := fun W => wr_is f (xs := []) (q := 8) (Or.inr ⟨rfl, hA, rfl⟩) W
  have KF := fun W => rchk_is f (q := 8) (Lib.hid (Or.inr ⟨rfl, hA⟩)) W
  obtain ⟨V, hV⟩ : ∃ V, mcell f = V := ⟨_, rfl⟩
  rw [hV] at SV v0 WF KF ⊢
  obtain ⟨VG, hVG⟩ : ∃ V, mcell G = V := ⟨_, rfl⟩
  rw [hVG] at PB SG OG WG KG g0 LG
  clear hr h1 hV hVG hA hlen hG hGb hk hn
  go_enter Try.func6, Try.ntmps6
  go_upto_region 1 with fail
  refine F_gen (F := fun W => Code.wp _ _ _ _ W) (J := fun W => Box W (w.heap.size) (V) ∧ Below w.heap.size w W) (And.intro (Box.newc rfl rfl) (by go_grown)) ?_
  intro w0 ⟨e_f, hB0⟩
  have hs0 := hB0.size
  have x_f0 := e_f; clear e_f
  have J_b0 : Hid (IsL w0 .u8 (.slice (some ⟨b, off, none⟩) (59) c0) bs) := Lib.hid (HV.out.below hB0)
  go_wp2_with (refine wpList_load_box9 rfl _ _ rfl x_f0 rfl Try.underlying43 rfl SV.out ?_)
  refine (WF _).mono ?_
  rintro e w1 ⟨va, rfl, hoa, hb⟩
  clear WF
  have hB1 : Below w.heap.size w w1 := below_thru hB0 hb
  have hs1 := hB1.size
  have x_f1 : Box w1 (w.heap.size) (V) := Box.below x_f0 hb
  have J_b1 : Hid (IsL w1 .u8 (.slice (some ⟨b, off, none⟩) (59) c0) bs) := Lib.hid (IsL.below J_b0.out hb)
  clear hB0 hs0 x_f0 J_b0
  clear hb
  clear hoa
  go_wp2_with (refine wpList_load_box9 rfl _ _ rfl x_f1 rfl Try.underlying43 rfl SV.out ?_)
  refine (KF _).mono ?_
  rintro e w2 ⟨rfl, hb⟩
  clear KF
  have hB2 : Below w.heap.size w w2 := below_thru hB1 hb
  have hs2 := hB2.size
  have x_f2 : Box w2 (w.heap.size) (V) := Box.below x_f1 hb
  have J_b2 : Hid (IsL w2 .u8 (.slice (some ⟨b, off, none⟩) (59) c0) bs) := Lib.hid (IsL.below J_b1.out hb)
  clear hB1 hs1 x_f1 J_b1
  clear hb
  clear x_f2
  go_wp2_with fail
  refine (PB _ _ J_b2.out).mono ?_
  rintro e w3 ⟨rfl, hb⟩
  clear PB
  have hB3 : Below w.heap.size w w3 := below_thru hB2 hb
  have hs3 := hB3.size
  have J_b3 : Hid (IsL w3 .u8 (.slice (some ⟨b, off, none⟩) (59) c0) bs) := Lib.hid (IsL.below J_b2.out hb)
  clear hB2 hs2 J_b2
  clear hb
  have d_h_0 := hs3
  go_upto_region 11 with (refine wpList_store_box (cs := VG) rfl _ _ _ rfl (Box.newc (l := mcell Frm.zero) rfl rfl) rfl rfl SG.out LG.out OG.out ?_; intro W3_0 hW3_0)
  have hN : Below w3.heap.size w3 W3_0 := (hW3_0.below _ _ (by omega) ((Below.refl _ w3).alloc (Nat.le_refl _) _))
  have x_h4 : Box W3_0 (w3.heap.size) (VG) := hW3_0.box
  have hB4 : Below w.heap.size w W3_0 := below_thru hB3 hN
  have hs4 := hB4.size
  have J_b4 : Hid (IsL W3_0 .u8 (.slice (some ⟨b, off, none⟩) (59) c0) bs) := Lib.hid (IsL.below J_b3.out hN)
  clear hB3 hs3 J_b3
  clear hN hW3_0
  go_wp2_with (refine wpList_load_box9 rfl _ _ rfl x_h4 rfl Try.underlying43 rfl SG.out ?_)
  refine (WG _).mono ?_
  rintro e w5 ⟨vd, rfl, hod, hb⟩
  clear WG
  have hB5 : Below w.heap.size w w5 := below_thru hB4 hb
  have hs5 := hB5.size
  have x_h5 : Box w5 (w3.heap.size) (VG) := Box.below x_h4 hb
  have J_b5 : Hid (IsL w5 .u8 (.slice (some ⟨b, off, none⟩) (59) c0) bs) := Lib.hid (IsL.below J_b4.out hb)
  clear hB4 hs4 x_h4 J_b4
  clear hb
  have J_d5 : Hid (IsL w5 .u8 (vd) bs) := Lib.hid (IsL.own hod rfl)
  clear hod
  have cc := cell_below hB5 cb; have zc := lt_of_cell cc
  go_upto_region 17 with fail
  clear zc
  refine wp_region_held_drew (S := fun W => Box W (w3.heap.size) (VG) ∧ W.cell? ⟨b, off, none⟩ = some (.int .u8 1)) (by kernel_rfl) (And.intro (x_h5).drew cc) (fun _ => ?_)
  refine F_drew (F := fun W => wpAnyH _ _ _ _ _ _ _ _ W) ?_
  intro Wz0 hbz0
  clear hs5
  have x_h_z0 : Box Wz0 (w3.heap.size) (VG) := Box.below x_h5 hbz0
  have c_k_z0 := cell_below hbz0 cc
  have j_b_z0 := Lib.hid (IsL.below J_b5.out hbz0)
  have j_d_z0 := Lib.hid (IsL.below J_d5.out hbz0)
  have Bz0 := below_thru hB5 hbz0
  clear x_h5 cc J_b5 J_d5 hB5 hbz0
  refine takeH 0 101 (v := ?vz0_1) rfl (by rfl) (by kernel_rfl) (by kernel_rfl) (by kernel_rfl) (fun _ _ _ h => h) (Or.inl ⟨by rfl, ?_⟩) ((And.intro x_h_z0 c_k_z0)) ?_
  rotate_left
  · intro wq hSq
    go_simp
    exact rfl
  try simp only [Act.put, List.setIfInBounds_toArray, List.set_cons_zero, List.set_cons_succ]
  refine takeH 1 102 (v := ?vz1_2) rfl (by rfl) (by kernel_rfl) (by kernel_rfl) (by kernel_rfl) (fun _ _ _ h => h) (Or.inl ⟨by rfl, ?_⟩) ((And.intro x_h_z0 c_k_z0)) ?_
  rotate_left
  · intro wq hSq
    go_simp
    exact rfl
  try simp only [Act.put, List.setIfInBounds_toArray, List.set_cons_zero, List.set_cons_succ]
  refine takeH 2 103 (v := ?vz2_3) rfl (by rfl) (by kernel_rfl) (by kernel_rfl) (by kernel_rfl) (fun _ _ _ h => h) (Or.inl ⟨by rfl, ?_⟩) ((And.intro x_h_z0 c_k_z0)) ?_
  rotate_left
  · intro wq hSq
    go_simp
    exact rfl
  try simp only [Act.put, List.setIfInBounds_toArray, List.set_cons_zero, List.set_cons_succ]
  refine takeH 3 104 (v := ?vz3_4) rfl (by rfl) (by kernel_rfl) (by kernel_rfl) (by kernel_rfl) (fun _ _ _ h => h) (Or.inl ⟨by rfl, ?_⟩) ((And.intro x_h_z0 c_k_z0)) ?_
  rotate_left
  · intro wq hSq
    go_simp
    exact rfl
  try simp only [Act.put, List.setIfInBounds_toArray, List.set_cons_zero, List.set_cons_succ]
  refine takeH 4 105 (v := ?vz4_5) rfl (by rfl) (by kernel_rfl) (by kernel_rfl) (by kernel_rfl) (fun _ _ _ h => h) (Or.inl ⟨by rfl, ?_⟩) ((And.intro x_h_z0 c_k_z0)) ?_
  rotate_left
  · intro wq hSq
    go_simp
    exact rfl
  try simp only [Act.put, List.setIfInBounds_toArray, List.set_cons_zero, List.set_cons_succ]
  refine wpAnyH_ready (rs := [5]) (by kernel_rfl) (by simp) (AllReadyH.cons rfl (fun K hK => ?_) AllReadyH.nil)
  go_simp
  refine (sameb_tt _ j_d_z0.out j_b_z0.out).mono ?_
  rintro e Wz6 ⟨rfl, hbz6⟩
  have x_h_z6 : Box Wz6 (w3.heap.size) (VG) := Box.below x_h_z0 hbz6
  have c_k_z6 := cell_below hbz6 c_k_z0
  have j_b_z6 := Lib.hid (IsL.below j_b_z0.out hbz6)
  have j_d_z6 := Lib.hid (IsL.below j_d_z0.out hbz6)
  have Bz6 := below_thru Bz0 hbz6
  clear x_h_z0 c_k_z0 j_b_z0 j_d_z0 Bz0 hbz6
  refine hK.out _ _ (And.intro x_h_z6 c_k_z6) (fun _ => ?_); clear hK K
  refine takeH 6 107 (v := ?vz6_7) rfl (by rfl) (by kernel_rfl) (by kernel_rfl) (by kernel_rfl) (fun _ _ _ h => h) (Or.inl ⟨by rfl, ?_⟩) ((And.intro x_h_z6 c_k_z6)) ?_
  rotate_left
  · intro wq hSq
    go_simp
    exact rfl
  try simp only [Act.put, List.setIfInBounds_toArray, List.set_cons_zero, List.set_cons_succ]
  refine takeH 7 108 (v := ?vz7_8) rfl (by rfl) (by kernel_rfl) (by kernel_rfl) (by kernel_rfl) (fun _ _ _ h => h) (Or.inl ⟨by rfl, ?_⟩) ((And.intro x_h_z6 c_k_z6)) ?_
  rotate_left
  · intro wq hSq
    go_simp
    exact rfl
  try simp only [Act.put, List.setIfInBounds_toArray, List.set_cons_zero, List.set_cons_succ]
  refine takeH 8 109 (v := ?vz8_9) rfl (by rfl) (by kernel_rfl) (by kernel_rfl) (by kernel_rfl) (fun _ _ _ h => h) (Or.inl ⟨by rfl, ?_⟩) ((And.intro x_h_z6 c_k_z6)) ?_
  rotate_left
  · intro wq hSq
    go_simp
    exact rfl
  try simp only [Act.put, List.setIfInBounds_toArray, List.set_cons_zero, List.set_cons_succ]
  refine takeH 9 110 (v := ?vz9_10) rfl (by rfl) (by kernel_rfl) (by kernel_rfl) (by kernel_rfl) (fun _ _ _ h => h) (Or.inl ⟨by rfl, ?_⟩) ((And.intro x_h_z6 c_k_z6)) ?_
  rotate_left
  · intro wq hSq
    go_simp
    exact rfl
  try simp only [Act.put, List.setIfInBounds_toArray, List.set_cons_zero, List.set_cons_succ]
  refine takeH 10 111 (v := ?vz10_11) rfl (by rfl) (by kernel_rfl) (by kernel_rfl) (by kernel_rfl) (fun _ _ _ h => h) (Or.inl ⟨by rfl, ?_⟩) ((And.intro x_h_z6 c_k_z6)) ?_
  rotate_left
  · intro wq hSq
    go_simp
    exact rfl
  try simp only [Act.put, List.setIfInBounds_toArray, List.set_cons_zero, List.set_cons_succ]
  refine takeH 11 112 (v := ?vz11_12) rfl (by rfl) (by kernel_rfl) (by kernel_rfl) (by kernel_rfl) (fun _ _ _ h => h) (Or.inl ⟨by rfl, ?_⟩) ((And.intro x_h_z6 c_k_z6)) ?_
  rotate_left
  · intro wq hSq
    go_simp
    exact rfl
  try simp only [Act.put, List.setIfInBounds_toArray, List.set_cons_zero, List.set_cons_succ]
  refine takeH 12 113 (v := ?vz12_13) rfl (by rfl) (by kernel_rfl) (by kernel_rfl) (by kernel_rfl) (fun _ _ _ h => h) (Or.inl ⟨by rfl, ?_⟩) ((And.intro x_h_z6 c_k_z6)) ?_
  rotate_left
  · intro wq hSq
    have cq := (hSq.1).c 0 _ g0
    have zq := lt_of_cell cq
    go_simp
    exact rfl
  try simp only [Act.put, List.setIfInBounds_toArray, List.set_cons_zero, List.set_cons_succ]
  refine takeH 13 114 (v := ?vz13_14) rfl (by rfl) (by kernel_rfl) (by kernel_rfl) (by kernel_rfl) (fun _ _ _ h => h) (Or.inl ⟨by rfl, ?_⟩) ((And.intro x_h_z6 c_k_z6)) ?_
  rotate_left
  · intro wq hSq
    go_simp
    exact rfl
  try simp only [Act.put, List.setIfInBounds_toArray, List.set_cons_zero, List.set_cons_succ]
  refine takeH 14 115 (v := ?vz14_15) rfl (by rfl) (by kernel_rfl) (by kernel_rfl) (by kernel_rfl) (fun _ _ _ h => h) (Or.inl ⟨by rfl, ?_⟩) ((And.intro x_h_z6 c_k_z6)) ?_
  rotate_left
  · intro wq hSq
    go_simp
    exact rfl
  try simp only [Act.put, List.setIfInBounds_toArray, List.set_cons_zero, List.set_cons_succ]
  refine takeH 15 116 (v := ?vz15_16) rfl (by rfl) (by kernel_rfl) (by kernel_rfl) (by kernel_rfl) (fun _ _ _ h => h) (Or.inl ⟨by rfl, ?_⟩) ((And.intro x_h_z6 c_k_z6)) ?_
  rotate_left
  · intro wq hSq
    have cq := hSq.2
    have zq := lt_of_cell cq
    go_simp
    exact rfl
  try simp only [Act.put, List.setIfInBounds_toArray, List.set_cons_zero, List.set_cons_succ]
  refine takeH 16 117 (v := ?vz16_17) rfl (by rfl) (by kernel_rfl) (by kernel_rfl) (by kernel_rfl) (fun _ _ _ h => h) (Or.inl ⟨by rfl, ?_⟩) ((And.intro x_h_z6 c_k_z6)) ?_
  rotate_left
  · intro wq hSq
    go_simp
    exact rfl
  try simp only [Act.put, List.setIfInBounds_toArray, List.set_cons_zero, List.set_cons_succ]
  refine takeH 17 118 (v := ?vz17_18) rfl (by rfl) (by kernel_rfl) (by kernel_rfl) (by kernel_rfl) (fun _ _ _ h => h) (Or.inl ⟨by rfl, ?_⟩) ((And.intro x_h_z6 c_k_z6)) ?_
  rotate_left
  · intro wq hSq
    go_simp
    exact rfl
  try simp only [Act.put, List.setIfInBounds_toArray, List.set_cons_zero, List.set_cons_succ]
  refine takeH 18 119 (v := ?vz18_19) rfl (by rfl) (by kernel_rfl) (by kernel_rfl) (by kernel_rfl) (fun _ _ _ h => h) (Or.inl ⟨by rfl, ?_⟩) ((And.intro x_h_z6 c_k_z6)) ?_
  rotate_left
  · intro wq hSq
    go_simp
    exact rfl
  try simp only [Act.put, List.setIfInBounds_toArray, List.set_cons_zero, List.set_cons_succ]
  refine takeH 19 120 (v := .agg (VG).toArray) rfl (by rfl) (by kernel_rfl) (by kernel_rfl) (by kernel_rfl) (fun _ _ _ h => h) (yieldsIf_load_mid (by rfl) _ _ rfl _ _ rfl (VG) _ (fun wq hq => Box.range (hq.1)) Try.underlying43 rfl SG.out) ((And.intro x_h_z6 c_k_z6)) ?_
  try simp only [Act.put, List.setIfInBounds_toArray, List.set_cons_zero, List.set_cons_succ]
  refine wpAnyH_ready (rs := [20]) (by kernel_rfl) (by simp) (AllReadyH.cons rfl (fun K hK => ?_) AllReadyH.nil)
  go_simp
  refine (KG _).mono ?_
  rintro e Wz20 ⟨rfl, hbz20⟩
  have x_h_z20 : Box Wz20 (w3.heap.size) (VG) := Box.below x_h_z6 hbz20
  have c_k_z20 := cell_below hbz20 c_k_z6
  have j_b_z20 := Lib.hid (IsL.below j_b_z6.out hbz20)
  have j_d_z20 := Lib.hid (IsL.below j_d_z6.out hbz20)
  have Bz20 := below_thru Bz6 hbz20
  clear x_h_z6 c_k_z6 j_b_z6 j_d_z6 Bz6 hbz20
  refine hK.out _ _ (And.intro x_h_z20 c_k_z20) (fun _ => ?_); clear hK K
  refine takeH 21 122 (v := ?vz21_21) rfl (by rfl) (by kernel_rfl) (by kernel_rfl) (by kernel_rfl) (fun _ _ _ h => h) (Or.inl ⟨by rfl, ?_⟩) ((And.intro x_h_z20 c_k_z20)) ?_
  rotate_left
  · intro wq hSq
    go_simp
    exact rfl
  try simp only [Act.put, List.setIfInBounds_toArray, List.set_cons_zero, List.set_cons_succ]
  refine takeH 22 123 (v := ?vz22_22) rfl (by rfl) (by kernel_rfl) (by kernel_rfl) (by kernel_rfl) (fun _ _ _ h => h) (Or.inl ⟨by rfl, ?_⟩) ((And.intro x_h_z20 c_k_z20)) ?_
  rotate_left
  · intro wq hSq
    go_simp
    exact rfl
  try simp only [Act.put, List.setIfInBounds_toArray, List.set_cons_zero, List.set_cons_succ]
  refine takeH 23 124 (v := ?vz23_23) rfl (by rfl) (by kernel_rfl) (by kernel_rfl) (by kernel_rfl) (fun _ _ _ h => h) (Or.inl ⟨by rfl, ?_⟩) ((And.intro x_h_z20 c_k_z20)) ?_
  rotate_left
  · intro wq hSq
    go_simp
    exact rfl
  try simp only [Act.put, List.setIfInBounds_toArray, List.set_cons_zero, List.set_cons_succ]
  refine wpAnyH_ready (rs := [24]) (by kernel_rfl) (by simp) (AllReadyH.cons rfl (fun K hK => ?_) AllReadyH.nil)
  go_simp
  refine (alive9_is _).mono ?_
  rintro e Wz24 ⟨rfl, hbz24⟩
  have x_h_z24 : Box Wz24 (w3.heap.size) (VG) := Box.below x_h_z20 hbz24
  have c_k_z24 := cell_below hbz24 c_k_z20
  have j_b_z24 := Lib.hid (IsL.below j_b_z20.out hbz24)
  have j_d_z24 := Lib.hid (IsL.below j_d_z20.out hbz24)
  have Bz24 := below_thru Bz20 hbz24
  clear x_h_z20 c_k_z20 j_b_z20 j_d_z20 Bz20 hbz24
  refine hK.out _ _ (And.intro x_h_z24 c_k_z24) (fun _ => ?_); clear hK K
  refine takeH 25 126 (v := ?vz25_25) rfl (by rfl) (by kernel_rfl) (by kernel_rfl) (by kernel_rfl) (fun _ _ _ h => h) (Or.inl ⟨by rfl, ?_⟩) ((And.intro x_h_z24 c_k_z24)) ?_
  rotate_left
  · intro wq hSq
    go_simp
    exact rfl
  try simp only [Act.put, List.setIfInBounds_toArray, List.set_cons_zero, List.set_cons_succ]
  refine takeH 26 4 (v := ?vz26_26) rfl (by rfl) (by kernel_rfl) (by kernel_rfl) (by kernel_rfl) (fun _ _ _ h => h) (Or.inl ⟨by rfl, ?_⟩) ((And.intro x_h_z24 c_k_z24)) ?_
  rotate_left
  · intro wq hSq
    go_simp
    exact rfl
  try simp only [Act.put, List.setIfInBounds_toArray, List.set_cons_zero, List.set_cons_succ]
  refine wpAnyH_done (by kernel_rfl) ?_ _
  go_wp2_with fail
  go_returns
  exact ⟨rfl, Bz24⟩

set_option maxRecDepth 100000 in
set_option maxHeartbeats 12800000 in
theorem one9_f88 (f : Frm) (G : Frm) {v : Value} {bs : List Int} (hA : ¬ f.Ok) (hG : G.Ok) (hGb : G.bs = bs) (hlen : bs.length = 88) (hk : G.kd = 2) (PB : Parses 12 bs G 0) (w : World) (h1 : IsL w .u8 v bs) : Calls Try.prog 6 #[.agg (mcell f).toArray, v] w fun e w' => e = .returned (.bool true) ∧ Below w.heap.size w w' := by
  obtain ⟨a0, c0, rfl, hr, _⟩ := id h1
  have i1 := hr.room
  have i2 := hr.most
  have HV := Lib.hid h1
  have hn := (Frm.bs_nth hG).1; rw [hGb, hk] at hn
  obtain ⟨b, off, rfl, cb⟩ := h1.get 0 (by omega)
  rw [Nat.add_zero, hn] at cb
  rw [hlen] at HV i1 ⊢
  have WG := fun W => wr_is G (xs := bs) (q := 0) (Or.inl ⟨rfl, hG, hGb.symm⟩) W
  have KG := fun W => rchk_is G (q := 0) (Lib.hid (Or.inl ⟨rfl, hG⟩)) W
  have g0 : (mcell G)[0]? = some (.int .u8 2) := by rw [← hk]; rfl
  unfold Parses at PB
  have SG := Lib.hid (size_frm G); have LG := Lib.hid (len_frm Frm.zero G); have OG := Lib.hid (one_frm G)
  have SV := Lib.hid (size_frm f)
  have v0 : (mcell f)[0]? = some (.int .u8 f.kd) := rfl
  have WF := fun W => wr_is f (xs := []) (q := 8) (Or.inr ⟨rfl, hA, rfl⟩) W
  have KF := fun W => rchk_is f (q := 8) (Lib.hid (Or.inr ⟨rfl, hA⟩)) W
  obtain ⟨V, hV⟩ : ∃ V, mcell f = V := ⟨_, rfl⟩
  rw [hV] at SV v0 WF KF ⊢
  obtain ⟨VG, hVG⟩ : ∃ V, mcell G = V := ⟨_, rfl⟩
  rw [hVG] at PB SG OG WG KG g0 LG
  clear hr h1 hV hVG hA hlen hG hGb hk hn
  go_enter Try.func6, Try.ntmps6
  go_upto_region 1 with fail
  refine F_gen (F := fun W => Code.wp _ _ _ _ W) (J := fun W => Box W (w.heap.size) (V) ∧ Below w.heap.size w W) (And.intro (Box.newc rfl rfl) (by go_grown)) ?_
  intro w0 ⟨e_f, hB0⟩
  have hs0 := hB0.size
  have x_f0 := e_f; clear e_f
  have J_b0 : Hid (IsL w0 .u8 (.slice (some ⟨b, off, none⟩) (88) c0) bs) := Lib.hid (HV.out.below hB0)
  go_wp2_with (refine wpList_load_box9 rfl _ _ rfl x_f0 rfl Try.underlying43 rfl SV.out ?_)
  refine (WF _).mono ?_
  rintro e w1 ⟨va, rfl, hoa, hb⟩
  clear WF
  have hB1 : Below w.heap.size w w1 := below_thru hB0 hb
  have hs1 := hB1.size
  have x_f1 : Box w1 (w.heap.size) (V) := Box.below x_f0 hb
  have J_b1 : Hid (IsL w1 .u8 (.slice (some ⟨b, off, none⟩) (88) c0) bs) := Lib.hid (IsL.below J_b0.out hb)
  clear hB0 hs0 x_f0 J_b0
  clear hb
  clear hoa
  go_wp2_with (refine wpList_load_box9 rfl _ _ rfl x_f1 rfl Try.underlying43 rfl SV.out ?_)
  refine (KF _).mono ?_
  rintro e w2 ⟨rfl, hb⟩
  clear KF
  have hB2 : Below w.heap.size w w2 := below_thru hB1 hb
  have hs2 := hB2.size
  have x_f2 : Box w2 (w.heap.size) (V) := Box.below x_f1 hb
  have J_b2 : Hid (IsL w2 .u8 (.slice (some ⟨b, off, none⟩) (88) c0) bs) := Lib.hid (IsL.below J_b1.out hb)
  clear hB1 hs1 x_f1 J_b1
  clear hb
  clear x_f2
  go_wp2_with fail
  refine (PB _ _ J_b2.out).mono ?_
  rintro e w3 ⟨rfl, hb⟩
  clear PB
  have hB3 : Below w.heap.size w w3 := below_thru hB2 hb
  have hs3 := hB3.size
  have J_b3 : Hid (IsL w3 .u8 (.slice (some ⟨b, off, none⟩) (88) c0) bs) := Lib.hid (IsL.below J_b2.out hb)
  clear hB2 hs2 J_b2
  clear hb
  have d_h_0 := hs3
  go_upto_region 11 with (refine wpList_store_box (cs := VG) rfl _ _ _ rfl (Box.newc (l := mcell Frm.zero) rfl rfl) rfl rfl SG.out LG.out OG.out ?_; intro W3_0 hW3_0)
  have hN : Below w3.heap.size w3 W3_0 := (hW3_0.below _ _ (by omega) ((Below.refl _ w3).alloc (Nat.le_refl _) _))
  have x_h4 : Box W3_0 (w3.heap.size) (VG) := hW3_0.box
  have hB4 : Below w.heap.size w W3_0 := below_thru hB3 hN
  have hs4 := hB4.size
  have J_b4 : Hid (IsL W3_0 .u8 (.slice (some ⟨b, off, none⟩) (88) c0) bs) := Lib.hid (IsL.below J_b3.out hN)
  clear hB3 hs3 J_b3
  clear hN hW3_0
  go_wp2_with (refine wpList_load_box9 rfl _ _ rfl x_h4 rfl Try.underlying43 rfl SG.out ?_)
  refine (WG _).mono ?_
  rintro e w5 ⟨vd, rfl, hod, hb⟩
  clear WG
  have hB5 : Below w.heap.size w w5 := below_thru hB4 hb
  have hs5 := hB5.size
  have x_h5 : Box w5 (w3.heap.size) (VG) := Box.below x_h4 hb
  have J_b5 : Hid (IsL w5 .u8 (.slice (some ⟨b, off, none⟩) (88) c0) bs) := Lib.hid (IsL.below J_b4.out hb)
  clear hB4 hs4 x_h4 J_b4
  clear hb
  have J_d5 : Hid (IsL w5 .u8 (vd) bs) := Lib.hid (IsL.own hod rfl)
  clear hod
  have cc := cell_below hB5 cb; have zc := lt_of_cell cc
  go_upto_region 17 with fail
  clear zc
  refine wp_region_held_drew (S := fun W => Box W (w3.heap.size) (VG) ∧ W.cell? ⟨b, off, none⟩ = some (.int .u8 2)) (by kernel_rfl) (And.intro (x_h5).drew cc) (fun _ => ?_)
  refine F_drew (F := fun W => wpAnyH _ _ _ _ _ _ _ _ W) ?_
  intro Wz0 hbz0
  clear hs5
  have x_h_z0 : Box Wz0 (w3.heap.size) (VG) := Box.below x_h5 hbz0
  have c_k_z0 := cell_below hbz0 cc
  have j_b_z0 := Lib.hid (IsL.below J_b5.out hbz0)
  have j_d_z0 := Lib.hid (IsL.below J_d5.out hbz0)
  have Bz0 := below_thru hB5 hbz0
  clear x_h5 cc J_b5 J_d5 hB5 hbz0
  refine takeH 0 101 (v := ?vz0_1) rfl (by rfl) (by kernel_rfl) (by kernel_rfl) (by kernel_rfl) (fun _ _ _ h => h) (Or.inl ⟨by rfl, ?_⟩) ((And.intro x_h_z0 c_k_z0)) ?_
  rotate_left
  · intro wq hSq
    go_simp
    exact rfl
  try simp only [Act.put, List.setIfInBounds_toArray, List.set_cons_zero, List.set_cons_succ]
  refine takeH 1 102 (v := ?vz1_2) rfl (by rfl) (by kernel_rfl) (by kernel_rfl) (by kernel_rfl) (fun _ _ _ h => h) (Or.inl ⟨by rfl, ?_⟩) ((And.intro x_h_z0 c_k_z0)) ?_
  rotate_left
  · intro wq hSq
    go_simp
    exact rfl
  try simp only [Act.put, List.setIfInBounds_toArray, List.set_cons_zero, List.set_cons_succ]
  refine takeH 2 103 (v := ?vz2_3) rfl (by rfl) (by kernel_rfl) (by kernel_rfl) (by kernel_rfl) (fun _ _ _ h => h) (Or.inl ⟨by rfl, ?_⟩) ((And.intro x_h_z0 c_k_z0)) ?_
  rotate_left
  · intro wq hSq
    go_simp
    exact rfl
  try simp only [Act.put, List.setIfInBounds_toArray, List.set_cons_zero, List.set_cons_succ]
  refine takeH 3 104 (v := ?vz3_4) rfl (by rfl) (by kernel_rfl) (by kernel_rfl) (by kernel_rfl) (fun _ _ _ h => h) (Or.inl ⟨by rfl, ?_⟩) ((And.intro x_h_z0 c_k_z0)) ?_
  rotate_left
  · intro wq hSq
    go_simp
    exact rfl
  try simp only [Act.put, List.setIfInBounds_toArray, List.set_cons_zero, List.set_cons_succ]
  refine takeH 4 105 (v := ?vz4_5) rfl (by rfl) (by kernel_rfl) (by kernel_rfl) (by kernel_rfl) (fun _ _ _ h => h) (Or.inl ⟨by rfl, ?_⟩) ((And.intro x_h_z0 c_k_z0)) ?_
  rotate_left
  · intro wq hSq
    go_simp
    exact rfl
  try simp only [Act.put, List.setIfInBounds_toArray, List.set_cons_zero, List.set_cons_succ]
  refine wpAnyH_ready (rs := [5]) (by kernel_rfl) (by simp) (AllReadyH.cons rfl (fun K hK => ?_) AllReadyH.nil)
  go_simp
  refine (sameb_tt _ j_d_z0.out j_b_z0.out).mono ?_
  rintro e Wz6 ⟨rfl, hbz6⟩
  have x_h_z6 : Box Wz6 (w3.heap.size) (VG) := Box.below x_h_z0 hbz6
  have c_k_z6 := cell_below hbz6 c_k_z0
  have j_b_z6 := Lib.hid (IsL.below j_b_z0.out hbz6)
  have j_d_z6 := Lib.hid (IsL.below j_d_z0.out hbz6)
  have Bz6 := below_thru Bz0 hbz6
  clear x_h_z0 c_k_z0 j_b_z0 j_d_z0 Bz0 hbz6
  refine hK.out _ _ (And.intro x_h_z6 c_k_z6) (fun _ => ?_); clear hK K
  refine takeH 6 107 (v := ?vz6_7) rfl (by rfl) (by kernel_rfl) (by kernel_rfl) (by kernel_rfl) (fun _ _ _ h => h) (Or.inl ⟨by rfl, ?_⟩) ((And.intro x_h_z6 c_k_z6)) ?_
  rotate_left
  · intro wq hSq
    go_simp
    exact rfl
  try simp only [Act.put, List.setIfInBounds_toArray, List.set_cons_zero, List.set_cons_succ]
  refine takeH 7 108 (v := ?vz7_8) rfl (by rfl) (by kernel_rfl) (by kernel_rfl) (by kernel_rfl) (fun _ _ _ h => h) (Or.inl ⟨by rfl, ?_⟩) ((And.intro x_h_z6 c_k_z6)) ?_
  rotate_left
  · intro wq hSq
    go_simp
    exact rfl
  try simp only [Act.put, List.setIfInBounds_toArray, List.set_cons_zero, List.set_cons_succ]
  refine takeH 8 109 (v := ?vz8_9) rfl (by rfl) (by kernel_rfl) (by kernel_rfl) (by kernel_rfl) (fun _ _ _ h => h) (Or.inl ⟨by rfl, ?_⟩) ((And.intro x_h_z6 c_k_z6)) ?_
  rotate_left
  · intro wq hSq
    go_simp
    exact rfl
  try simp only [Act.put, List.setIfInBounds_toArray, List.set_cons_zero, List.set_cons_succ]
  refine takeH 9 110 (v := ?vz9_10) rfl (by rfl) (by kernel_rfl) (by kernel_rfl) (by kernel_rfl) (fun _ _ _ h => h) (Or.inl ⟨by rfl, ?_⟩) ((And.intro x_h_z6 c_k_z6)) ?_
  rotate_left
  · intro wq hSq
    go_simp
    exact rfl
  try simp only [Act.put, List.setIfInBounds_toArray, List.set_cons_zero, List.set_cons_succ]
  refine takeH 10 111 (v := ?vz10_11) rfl (by rfl) (by kernel_rfl) (by kernel_rfl) (by kernel_rfl) (fun _ _ _ h => h) (Or.inl ⟨by rfl, ?_⟩) ((And.intro x_h_z6 c_k_z6)) ?_
  rotate_left
  · intro wq hSq
    go_simp
    exact rfl
  try simp only [Act.put, List.setIfInBounds_toArray, List.set_cons_zero, List.set_cons_succ]
  refine takeH 11 112 (v := ?vz11_12) rfl (by rfl) (by kernel_rfl) (by kernel_rfl) (by kernel_rfl) (fun _ _ _ h => h) (Or.inl ⟨by rfl, ?_⟩) ((And.intro x_h_z6 c_k_z6)) ?_
  rotate_left
  · intro wq hSq
    go_simp
    exact rfl
  try simp only [Act.put, List.setIfInBounds_toArray, List.set_cons_zero, List.set_cons_succ]
  refine takeH 12 113 (v := ?vz12_13) rfl (by rfl) (by kernel_rfl) (by kernel_rfl) (by kernel_rfl) (fun _ _ _ h => h) (Or.inl ⟨by rfl, ?_⟩) ((And.intro x_h_z6 c_k_z6)) ?_
  rotate_left
  · intro wq hSq
    have cq := (hSq.1).c 0 _ g0
    have zq := lt_of_cell cq
    go_simp
    exact rfl
  try simp only [Act.put, List.setIfInBounds_toArray, List.set_cons_zero, List.set_cons_succ]
  refine takeH 13 114 (v := ?vz13_14) rfl (by rfl) (by kernel_rfl) (by kernel_rfl) (by kernel_rfl) (fun _ _ _ h => h) (Or.inl ⟨by rfl, ?_⟩) ((And.intro x_h_z6 c_k_z6)) ?_
  rotate_left
  · intro wq hSq
    go_simp
    exact rfl
  try simp only [Act.put, List.setIfInBounds_toArray, List.set_cons_zero, List.set_cons_succ]
  refine takeH 14 115 (v := ?vz14_15) rfl (by rfl) (by kernel_rfl) (by kernel_rfl) (by kernel_rfl) (fun _ _ _ h => h) (Or.inl ⟨by rfl, ?_⟩) ((And.intro x_h_z6 c_k_z6)) ?_
  rotate_left
  · intro wq hSq
    go_simp
    exact rfl
  try simp only [Act.put, List.setIfInBounds_toArray, List.set_cons_zero, List.set_cons_succ]
  refine takeH 15 116 (v := ?vz15_16) rfl (by rfl) (by kernel_rfl) (by kernel_rfl) (by kernel_rfl) (fun _ _ _ h => h) (Or.inl ⟨by rfl, ?_⟩) ((And.intro x_h_z6 c_k_z6)) ?_
  rotate_left
  · intro wq hSq
    have cq := hSq.2
    have zq := lt_of_cell cq
    go_simp
    exact rfl
  try simp only [Act.put, List.setIfInBounds_toArray, List.set_cons_zero, List.set_cons_succ]
  refine takeH 16 117 (v := ?vz16_17) rfl (by rfl) (by kernel_rfl) (by kernel_rfl) (by kernel_rfl) (fun _ _ _ h => h) (Or.inl ⟨by rfl, ?_⟩) ((And.intro x_h_z6 c_k_z6)) ?_
  rotate_left
  · intro wq hSq
    go_simp
    exact rfl
  try simp only [Act.put, List.setIfInBounds_toArray, List.set_cons_zero, List.set_cons_succ]
  refine takeH 17 118 (v := ?vz17_18) rfl (by rfl) (by kernel_rfl) (by kernel_rfl) (by kernel_rfl) (fun _ _ _ h => h) (Or.inl ⟨by rfl, ?_⟩) ((And.intro x_h_z6 c_k_z6)) ?_
  rotate_left
  · intro wq hSq
    go_simp
    exact rfl
  try simp only [Act.put, List.setIfInBounds_toArray, List.set_cons_zero, List.set_cons_succ]
  refine takeH 18 119 (v := ?vz18_19) rfl (by rfl) (by kernel_rfl) (by kernel_rfl) (by kernel_rfl) (fun _ _ _ h => h) (Or.inl ⟨by rfl, ?_⟩) ((And.intro x_h_z6 c_k_z6)) ?_
  rotate_left
  · intro wq hSq
    go_simp
    exact rfl
  try simp only [Act.put, List.setIfInBounds_toArray, List.set_cons_zero, List.set_cons_succ]
  refine takeH 19 120 (v := .agg (VG).toArray) rfl (by rfl) (by kernel_rfl) (by kernel_rfl) (by kernel_rfl) (fun _ _ _ h => h) (yieldsIf_load_mid (by rfl) _ _ rfl _ _ rfl (VG) _ (fun wq hq => Box.range (hq.1)) Try.underlying43 rfl SG.out) ((And.intro x_h_z6 c_k_z6)) ?_
  try simp only [Act.put, List.setIfInBounds_toArray, List.set_cons_zero, List.set_cons_succ]
  refine wpAnyH_ready (rs := [20]) (by kernel_rfl) (by simp) (AllReadyH.cons rfl (fun K hK => ?_) AllReadyH.nil)
  go_simp
  refine (KG _).mono ?_
  rintro e Wz20 ⟨rfl, hbz20⟩
  have x_h_z20 : Box Wz20 (w3.heap.size) (VG) := Box.below x_h_z6 hbz20
  have c_k_z20 := cell_below hbz20 c_k_z6
  have j_b_z20 := Lib.hid (IsL.below j_b_z6.out hbz20)
  have j_d_z20 := Lib.hid (IsL.below j_d_z6.out hbz20)
  have Bz20 := below_thru Bz6 hbz20
  clear x_h_z6 c_k_z6 j_b_z6 j_d_z6 Bz6 hbz20
  refine hK.out _ _ (And.intro x_h_z20 c_k_z20) (fun _ => ?_); clear hK K
  refine takeH 21 122 (v := ?vz21_21) rfl (by rfl) (by kernel_rfl) (by kernel_rfl) (by kernel_rfl) (fun _ _ _ h => h) (Or.inl ⟨by rfl, ?_⟩) ((And.intro x_h_z20 c_k_z20)) ?_
  rotate_left
  · intro wq hSq
    go_simp
    exact rfl
  try simp only [Act.put, List.setIfInBounds_toArray, List.set_cons_zero, List.set_cons_succ]
  refine takeH 22 123 (v := ?vz22_22) rfl (by rfl) (by kernel_rfl) (by kernel_rfl) (by kernel_rfl) (fun _ _ _ h => h) (Or.inl ⟨by rfl, ?_⟩) ((And.intro x_h_z20 c_k_z20)) ?_
  rotate_left
  · intro wq hSq
    go_simp
    exact rfl
  try simp only [Act.put, List.setIfInBounds_toArray, List.set_cons_zero, List.set_cons_succ]
  refine takeH 23 124 (v := ?vz23_23) rfl (by rfl) (by kernel_rfl) (by kernel_rfl) (by kernel_rfl) (fun _ _ _ h => h) (Or.inl ⟨by rfl, ?_⟩) ((And.intro x_h_z20 c_k_z20)) ?_
  rotate_left
  · intro wq hSq
    go_simp
    exact rfl
  try simp only [Act.put, List.setIfInBounds_toArray, List.set_cons_zero, List.set_cons_succ]
  refine wpAnyH_ready (rs := [24]) (by kernel_rfl) (by simp) (AllReadyH.cons rfl (fun K hK => ?_) AllReadyH.nil)
  go_simp
  refine (alive9_is _).mono ?_
  rintro e Wz24 ⟨rfl, hbz24⟩
  have x_h_z24 : Box Wz24 (w3.heap.size) (VG) := Box.below x_h_z20 hbz24
  have c_k_z24 := cell_below hbz24 c_k_z20
  have j_b_z24 := Lib.hid (IsL.below j_b_z20.out hbz24)
  have j_d_z24 := Lib.hid (IsL.below j_d_z20.out hbz24)
  have Bz24 := below_thru Bz20 hbz24
  clear x_h_z20 c_k_z20 j_b_z20 j_d_z20 Bz20 hbz24
  refine hK.out _ _ (And.intro x_h_z24 c_k_z24) (fun _ => ?_); clear hK K
  refine takeH 25 126 (v := ?vz25_25) rfl (by rfl) (by kernel_rfl) (by kernel_rfl) (by kernel_rfl) (fun _ _ _ h => h) (Or.inl ⟨by rfl, ?_⟩) ((And.intro x_h_z24 c_k_z24)) ?_
  rotate_left
  · intro wq hSq
    go_simp
    exact rfl
  try simp only [Act.put, List.setIfInBounds_toArray, List.set_cons_zero, List.set_cons_succ]
  refine takeH 26 4 (v := ?vz26_26) rfl (by rfl) (by kernel_rfl) (by kernel_rfl) (by kernel_rfl) (fun _ _ _ h => h) (Or.inl ⟨by rfl, ?_⟩) ((And.intro x_h_z24 c_k_z24)) ?_
  rotate_left
  · intro wq hSq
    go_simp
    exact rfl
  try simp only [Act.put, List.setIfInBounds_toArray, List.set_cons_zero, List.set_cons_succ]
  refine wpAnyH_done (by kernel_rfl) ?_ _
  go_wp2_with fail
  go_returns
  exact ⟨rfl, Bz24⟩

set_option maxRecDepth 100000 in
set_option maxHeartbeats 1600000 in
theorem one9_many (f : Frm) {v : Value} {bs : List Int} (hl : 300 < bs.length) (w : World) (h1 : IsL w .u8 v bs) : Calls Try.prog 6 #[.agg (mcell f).toArray, v] w fun e w' => e = .returned (.bool true) ∧ Below w.heap.size w w' := by
  obtain ⟨a0, c0, rfl, hr, _⟩ := id h1
  have i1 := hr.room
  have i2 := hr.most
  have d1 : decide ((300 : Int) < (bs.length : Int)) = true := decide_eq_true (by omega)
  have SV := Lib.hid (size_frm f)
  obtain ⟨V, hV⟩ : ∃ V, mcell f = V := ⟨_, rfl⟩
  rw [hV] at SV ⊢
  clear hr h1 hV hl
  go_enter Try.func6, Try.ntmps6
  go_upto_region 1 with fail
  refine F_gen (F := fun W => Code.wp _ _ _ _ W) (J := fun W => Box W (w.heap.size) (V) ∧ Below w.heap.size w W) (And.intro (Box.newc rfl rfl) (by go_grown)) ?_
  intro w0 ⟨e_f, hB0⟩
  have hs0 := hB0.size
  have x_f0 := e_f; clear e_f
  go_wp2_with fail
  refine (alive9_is _).mono ?_
  rintro e w1 ⟨rfl, hb⟩
  have hB1 : Below w.heap.size w w1 := below_thru hB0 hb
  have hs1 := hB1.size
  have x_f1 : Box w1 (w.heap.size) (V) := Box.below x_f0 hb
  clear hB0 hs0 x_f0
  clear hb
  go_wp2_with fail
  go_returns
  exact ⟨rfl, hB1⟩

theorem one9_is (f : Frm) {v : Value} {bs : List Int} (w : World) (h1 : IsL w .u8 v bs) (hb : Byts bs) : Calls Try.prog 6 #[.agg (mcell f).toArray, v] w fun e w' => e = .returned (.bool true) ∧ Below w.heap.size w w' := by
  by_cases hl : 300 < bs.length
  · exact one9_many f hl w h1
  obtain ⟨G, q, hp, PB⟩ := parse_is bs hb
  rcases hp with ⟨rfl, hG, hGb⟩ | ⟨rfl, rfl, _⟩
  · rcases Frm.ok_two hG with ⟨_, _, hk, _, l⟩ | ⟨_, _, hk, _, l⟩
    · by_cases hA : f.Ok
      · exact one9_t59 f G hA hG hGb (by rw [← hGb]; exact l) hk PB w h1
      · exact one9_f59 f G hA hG hGb (by rw [← hGb]; exact l) hk PB w h1
    · by_cases hA : f.Ok
      · exact one9_t88 f G hA hG hGb (by rw [← hGb]; exact l) hk PB w h1
      · exact one9_f88 f G hA hG hGb (by rw [← hGb]; exact l) hk PB w h1
  · by_cases hA : f.Ok
    · exact one9_t f hA (by omega) PB w h1
    · exact one9_f f hA (by omega) PB w h1

end Go.Proofs.Ytkpdlbcmnfphmaa
