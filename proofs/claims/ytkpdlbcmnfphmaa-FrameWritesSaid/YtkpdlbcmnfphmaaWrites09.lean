/-
  FrameWrites, walked.
-/
import Derived.Test.YtkpdlbcmnfphmaaRFmD
namespace Go.Proofs.Ytkpdlbcmnfphmaa
open Go.RowKit

theorem wr_two (f : Frm) : ∃ (xs : List Int) (q : Int), ((q = 0 ∧ f.Ok ∧ xs = f.bs) ∨ (q = 8 ∧ ¬ f.Ok ∧ xs = [])) ∧ ((q = 0 ∧ f.Ok) ∨ (q = 8 ∧ ¬ f.Ok)) := by
  by_cases h : f.Ok
  · exact ⟨_, _, Or.inl ⟨rfl, h, rfl⟩, Or.inl ⟨rfl, h⟩⟩
  · exact ⟨_, _, Or.inr ⟨rfl, h, rfl⟩, Or.inr ⟨rfl, h⟩⟩
theorem ten_two (f : Frm) : ∃ (n : Int) (q : Int), (q = 0 ∧ f.Ok ∧ n = f.te) ∨ (q = 8 ∧ ¬ f.Ok ∧ n = 0) := by
  by_cases h : f.Ok
  · exact ⟨_, _, Or.inl ⟨rfl, h, rfl⟩⟩
  · exact ⟨_, _, Or.inr ⟨rfl, h, rfl⟩⟩
theorem bef_two (c : Cmd) : ∃ (xs : List Int) (q : Int), (q = 0 ∧ c.Ok ∧ xs = c.msg) ∨ (q = 8 ∧ ¬ c.Ok ∧ xs = []) := by
  by_cases h : c.Ok
  · exact ⟨_, _, Or.inl ⟨rfl, h, rfl⟩⟩
  · exact ⟨_, _, Or.inr ⟨rfl, h, rfl⟩⟩

set_option maxRecDepth 100000 in
set_option maxHeartbeats 6400000 in
theorem writes9_is (f : Frm) (w : World) : Calls Try.prog 4 #[.agg (mcell f).toArray] w fun e w' => e = .returned (.bool true) ∧ Below w.heap.size w w' := by
  obtain ⟨XS, q, h1, h2⟩ := wr_two f
  obtain ⟨n, qt, h3⟩ := ten_two f
  obtain ⟨YS, qb, h4⟩ := bef_two f.c
  have A1 := fun W => wr_is f h1 W
  have A2 := fun W => rwr_is f h1 W
  have A3 := fun W => ten_is f h3 W
  have A4 := fun W => rten_is f h3 W
  have A5 := fun W => bef_is f.c h4 W
  have A6 := fun W => rbef_is f.c h4 W
  have A7 := fun W => chk_is f (Lib.hid h2) W
  have A8 := fun W => rchk_is f (Lib.hid h2) W
  have SV := Lib.hid (size_frm f); have SC := Lib.hid (size_cmd f.c); have DC := Lib.hid (mcell_c f)
  obtain ⟨V, hV⟩ : ∃ V, mcell f = V := ⟨_, rfl⟩
  obtain ⟨C, hC⟩ : ∃ V, ccell f.c = V := ⟨_, rfl⟩
  rw [hV] at SV DC A1 A2 A3 A4 A7 A8 ⊢
  rw [hC] at SC DC A5 A6
  clear hV hC h1 h2 h3 h4
  go_enter Try.func4, Try.ntmps4
  go_upto_region 1 with fail
  refine F_gen (F := fun W => Code.wp _ _ _ _ W) (J := fun W => Box W (w.heap.size) (V) ∧ Below w.heap.size w W) (And.intro (Box.newc rfl rfl) (by go_grown)) ?_
  intro w0 ⟨e_f, hB0⟩
  have hs0 := hB0.size
  have x_f0 := e_f; clear e_f
  go_wp2_with (refine wpList_load_box9 rfl _ _ rfl x_f0 rfl Try.underlying43 rfl SV.out ?_)
  refine (A1 _).mono ?_
  rintro e w1 ⟨va, rfl, hoa, hb⟩
  have hB1 : Below w.heap.size w w1 := below_thru hB0 hb
  have hs1 := hB1.size
  have x_f1 : Box w1 (w.heap.size) (V) := Box.below x_f0 hb
  clear hB0 hs0 x_f0
  clear hb
  have J_a1 : Hid (IsL w1 .u8 (va) XS) := Lib.hid (IsL.own hoa rfl)
  clear hoa A1
  go_wp2_with (refine wpList_load_box9 rfl _ _ rfl x_f1 rfl Try.underlying43 rfl SV.out ?_)
  refine (A2 _).mono ?_
  rintro e w2 ⟨vb, rfl, hoa, hb⟩
  have hB2 : Below w.heap.size w w2 := below_thru hB1 hb
  have hs2 := hB2.size
  have x_f2 : Box w2 (w.heap.size) (V) := Box.below x_f1 hb
  have J_a2 : Hid (IsL w2 .u8 (va) XS) := Lib.hid (IsL.below J_a1.out hb)
  clear hB1 hs1 x_f1 J_a1
  clear hb
  have J_b2 : Hid (IsL w2 .u8 (vb) XS) := Lib.hid (IsL.own hoa rfl)
  clear hoa A2
  go_wp2_with (refine wpList_load_box9 rfl _ _ rfl x_f2 rfl Try.underlying43 rfl SV.out ?_)
  refine (A3 _).mono ?_
  rintro e w3 ⟨rfl, hb⟩
  clear A3
  have hB3 : Below w.heap.size w w3 := below_thru hB2 hb
  have hs3 := hB3.size
  have x_f3 : Box w3 (w.heap.size) (V) := Box.below x_f2 hb
  have J_a3 : Hid (IsL w3 .u8 (va) XS) := Lib.hid (IsL.below J_a2.out hb)
  have J_b3 : Hid (IsL w3 .u8 (vb) XS) := Lib.hid (IsL.below J_b2.out hb)
  clear hB2 hs2 x_f2 J_a2 J_b2
  clear hb
  go_wp2_with (refine wpList_load_box9 rfl _ _ rfl x_f3 rfl Try.underlying43 rfl SV.out ?_)
  refine (A4 _).mono ?_
  rintro e w4 ⟨rfl, hb⟩
  clear A4
  have hB4 : Below w.heap.size w w4 := below_thru hB3 hb
  have hs4 := hB4.size
  have x_f4 : Box w4 (w.heap.size) (V) := Box.below x_f3 hb
  have J_a4 : Hid (IsL w4 .u8 (va) XS) := Lib.hid (IsL.below J_a3.out hb)
  have J_b4 : Hid (IsL w4 .u8 (vb) XS) := Lib.hid (IsL.below J_b3.out hb)
  clear hB3 hs3 x_f3 J_a3 J_b3
  clear hb
  go_wp2_with (refine wpList_load_rangew rfl _ _ rfl (Box.rangeMid x_f4 39 (C) ([]) DC.out) rfl Try.underlying31 rfl SC.out ?_)
  refine (A5 _).mono ?_
  rintro e w5 ⟨vc, rfl, hoa, hb⟩
  have hB5 : Below w.heap.size w w5 := below_thru hB4 hb
  have hs5 := hB5.size
  have x_f5 : Box w5 (w.heap.size) (V) := Box.below x_f4 hb
  have J_a5 : Hid (IsL w5 .u8 (va) XS) := Lib.hid (IsL.below J_a4.out hb)
  have J_b5 : Hid (IsL w5 .u8 (vb) XS) := Lib.hid (IsL.below J_b4.out hb)
  clear hB4 hs4 x_f4 J_a4 J_b4
  clear hb
  have J_c5 : Hid (IsL w5 .u8 (vc) YS) := Lib.hid hoa
  clear hoa A5
  go_wp2_with (refine wpList_load_rangew rfl _ _ rfl (Box.rangeMid x_f5 39 (C) ([]) DC.out) rfl Try.underlying31 rfl SC.out ?_)
  refine (A6 _).mono ?_
  rintro e w6 ⟨vd, rfl, hoa, hb⟩
  have hB6 : Below w.heap.size w w6 := below_thru hB5 hb
  have hs6 := hB6.size
  have x_f6 : Box w6 (w.heap.size) (V) := Box.below x_f5 hb
  have J_a6 : Hid (IsL w6 .u8 (va) XS) := Lib.hid (IsL.below J_a5.out hb)
  have J_b6 : Hid (IsL w6 .u8 (vb) XS) := Lib.hid (IsL.below J_b5.out hb)
  have J_c6 : Hid (IsL w6 .u8 (vc) YS) := Lib.hid (IsL.below J_c5.out hb)
  clear hB5 hs5 x_f5 J_a5 J_b5 J_c5
  clear hb
  have J_d6 : Hid (IsL w6 .u8 (vd) YS) := Lib.hid hoa
  clear hoa A6
  go_upto_region 7 with fail
  refine wp_region_held_drew (S := fun W => Box W (w.heap.size) (V)) (by kernel_rfl) (x_f6).drew (fun _ => ?_)
  refine F_drew (F := fun W => wpAnyH _ _ _ _ _ _ _ _ W) ?_
  intro Wz0 hbz0
  clear hs6
  have x_f_z0 : Box Wz0 (w.heap.size) (V) := Box.below x_f6 hbz0
  have j_a_z0 := Lib.hid (IsL.below J_a6.out hbz0)
  have j_b_z0 := Lib.hid (IsL.below J_b6.out hbz0)
  have j_c_z0 := Lib.hid (IsL.below J_c6.out hbz0)
  have j_d_z0 := Lib.hid (IsL.below J_d6.out hbz0)
  have Bz0 := below_thru hB6 hbz0
  clear x_f6 J_a6 J_b6 J_c6 J_d6 hB6 hbz0
  refine takeH 0 47 (v := .agg (V).toArray) rfl (by rfl) (by kernel_rfl) (by kernel_rfl) (by kernel_rfl) (fun _ _ _ h => h) (yieldsIf_load_mid (by rfl) _ _ rfl _ _ rfl (V) _ (fun wq hq => Box.range (hq)) Try.underlying43 rfl SV.out) (x_f_z0) ?_
  try simp only [Act.put, List.setIfInBounds_toArray, List.set_cons_zero, List.set_cons_succ]
  refine takeH 2 49 (v := .agg (V).toArray) rfl (by rfl) (by kernel_rfl) (by kernel_rfl) (by kernel_rfl) (fun _ _ _ h => h) (yieldsIf_load_mid (by rfl) _ _ rfl _ _ rfl (V) _ (fun wq hq => Box.range (hq)) Try.underlying43 rfl SV.out) (x_f_z0) ?_
  try simp only [Act.put, List.setIfInBounds_toArray, List.set_cons_zero, List.set_cons_succ]
  refine wpAnyH_ready (rs := [1]) (by kernel_rfl) (by simp) (AllReadyH.cons rfl (fun K hK => ?_) AllReadyH.nil)
  go_simp
  refine (A7 _).mono ?_
  rintro e Wz1 ⟨rfl, hbz1⟩
  have x_f_z1 : Box Wz1 (w.heap.size) (V) := Box.below x_f_z0 hbz1
  have j_a_z1 := Lib.hid (IsL.below j_a_z0.out hbz1)
  have j_b_z1 := Lib.hid (IsL.below j_b_z0.out hbz1)
  have j_c_z1 := Lib.hid (IsL.below j_c_z0.out hbz1)
  have j_d_z1 := Lib.hid (IsL.below j_d_z0.out hbz1)
  have Bz1 := below_thru Bz0 hbz1
  clear x_f_z0 j_a_z0 j_b_z0 j_c_z0 j_d_z0 Bz0 hbz1
  refine hK.out _ _ x_f_z1 (fun _ => ?_); clear hK K
  refine wpAnyH_ready (rs := [3]) (by kernel_rfl) (by simp) (AllReadyH.cons rfl (fun K hK => ?_) AllReadyH.nil)
  go_simp
  refine (A8 _).mono ?_
  rintro e Wz2 ⟨rfl, hbz2⟩
  have x_f_z2 : Box Wz2 (w.heap.size) (V) := Box.below x_f_z1 hbz2
  have j_a_z2 := Lib.hid (IsL.below j_a_z1.out hbz2)
  have j_b_z2 := Lib.hid (IsL.below j_b_z1.out hbz2)
  have j_c_z2 := Lib.hid (IsL.below j_c_z1.out hbz2)
  have j_d_z2 := Lib.hid (IsL.below j_d_z1.out hbz2)
  have Bz2 := below_thru Bz1 hbz2
  clear x_f_z1 j_a_z1 j_b_z1 j_c_z1 j_d_z1 Bz1 hbz2
  refine hK.out _ _ x_f_z2 (fun _ => ?_); clear hK K
  refine takeH 4 51 (v := ?vz4_3) rfl (by rfl) (by kernel_rfl) (by kernel_rfl) (by kernel_rfl) (fun _ _ _ h => h) (Or.inl ⟨by rfl, ?_⟩) (x_f_z2) ?_
  rotate_left
  · intro wq hSq
    go_simp
    exact rfl
  try simp only [Act.put, List.setIfInBounds_toArray, List.set_cons_zero, List.set_cons_succ]
  refine takeH 5 52 (v := ?vz5_4) rfl (by rfl) (by kernel_rfl) (by kernel_rfl) (by kernel_rfl) (fun _ _ _ h => h) (Or.inl ⟨by rfl, ?_⟩) (x_f_z2) ?_
  rotate_left
  · intro wq hSq
    go_simp
    exact rfl
  try simp only [Act.put, List.setIfInBounds_toArray, List.set_cons_zero, List.set_cons_succ]
  refine takeH 6 53 (v := ?vz6_5) rfl (by rfl) (by kernel_rfl) (by kernel_rfl) (by kernel_rfl) (fun _ _ _ h => h) (Or.inl ⟨by rfl, ?_⟩) (x_f_z2) ?_
  rotate_left
  · intro wq hSq
    go_simp
    exact rfl
  try simp only [Act.put, List.setIfInBounds_toArray, List.set_cons_zero, List.set_cons_succ]
  refine takeH 7 54 (v := ?vz7_6) rfl (by rfl) (by kernel_rfl) (by kernel_rfl) (by kernel_rfl) (fun _ _ _ h => h) (Or.inl ⟨by rfl, ?_⟩) (x_f_z2) ?_
  rotate_left
  · intro wq hSq
    go_simp
    exact rfl
  try simp only [Act.put, List.setIfInBounds_toArray, List.set_cons_zero, List.set_cons_succ]
  refine wpAnyH_ready (rs := [8]) (by kernel_rfl) (by simp) (AllReadyH.cons rfl (fun K hK => ?_) AllReadyH.nil)
  go_simp
  refine (sameb_tt _ j_a_z2.out j_b_z2.out).mono ?_
  rintro e Wz7 ⟨rfl, hbz7⟩
  have x_f_z7 : Box Wz7 (w.heap.size) (V) := Box.below x_f_z2 hbz7
  have j_a_z7 := Lib.hid (IsL.below j_a_z2.out hbz7)
  have j_b_z7 := Lib.hid (IsL.below j_b_z2.out hbz7)
  have j_c_z7 := Lib.hid (IsL.below j_c_z2.out hbz7)
  have j_d_z7 := Lib.hid (IsL.below j_d_z2.out hbz7)
  have Bz7 := below_thru Bz2 hbz7
  clear x_f_z2 j_a_z2 j_b_z2 j_c_z2 j_d_z2 Bz2 hbz7
  refine hK.out _ _ x_f_z7 (fun _ => ?_); clear hK K
  refine takeH 9 56 (v := ?vz9_8) rfl (by rfl) (by kernel_rfl) (by kernel_rfl) (by kernel_rfl) (fun _ _ _ h => h) (Or.inl ⟨by rfl, ?_⟩) (x_f_z7) ?_
  rotate_left
  · intro wq hSq
    go_simp
    exact rfl
  try simp only [Act.put, List.setIfInBounds_toArray, List.set_cons_zero, List.set_cons_succ]
  refine takeH 10 57 (v := ?vz10_9) rfl (by rfl) (by kernel_rfl) (by kernel_rfl) (by kernel_rfl) (fun _ _ _ h => h) (Or.inl ⟨by rfl, ?_⟩) (x_f_z7) ?_
  rotate_left
  · intro wq hSq
    go_simp
    exact rfl
  try simp only [Act.put, List.setIfInBounds_toArray, List.set_cons_zero, List.set_cons_succ]
  refine takeH 11 58 (v := ?vz11_10) rfl (by rfl) (by kernel_rfl) (by kernel_rfl) (by kernel_rfl) (fun _ _ _ h => h) (Or.inl ⟨by rfl, ?_⟩) (x_f_z7) ?_
  rotate_left
  · intro wq hSq
    go_simp
    exact rfl
  try simp only [Act.put, List.setIfInBounds_toArray, List.set_cons_zero, List.set_cons_succ]
  refine takeH 12 59 (v := ?vz12_11) rfl (by rfl) (by kernel_rfl) (by kernel_rfl) (by kernel_rfl) (fun _ _ _ h => h) (Or.inl ⟨by rfl, ?_⟩) (x_f_z7) ?_
  rotate_left
  · intro wq hSq
    go_simp
    exact rfl
  try simp only [Act.put, List.setIfInBounds_toArray, List.set_cons_zero, List.set_cons_succ]
  refine takeH 13 60 (v := ?vz13_12) rfl (by rfl) (by kernel_rfl) (by kernel_rfl) (by kernel_rfl) (fun _ _ _ h => h) (Or.inl ⟨by rfl, ?_⟩) (x_f_z7) ?_
  rotate_left
  · intro wq hSq
    go_simp
    exact rfl
  try simp only [Act.put, List.setIfInBounds_toArray, List.set_cons_zero, List.set_cons_succ]
  refine takeH 14 61 (v := ?vz14_13) rfl (by rfl) (by kernel_rfl) (by kernel_rfl) (by kernel_rfl) (fun _ _ _ h => h) (Or.inl ⟨by rfl, ?_⟩) (x_f_z7) ?_
  rotate_left
  · intro wq hSq
    go_simp
    exact rfl
  try simp only [Act.put, List.setIfInBounds_toArray, List.set_cons_zero, List.set_cons_succ]
  refine takeH 15 62 (v := ?vz15_14) rfl (by rfl) (by kernel_rfl) (by kernel_rfl) (by kernel_rfl) (fun _ _ _ h => h) (Or.inl ⟨by rfl, ?_⟩) (x_f_z7) ?_
  rotate_left
  · intro wq hSq
    go_simp
    exact rfl
  try simp only [Act.put, List.setIfInBounds_toArray, List.set_cons_zero, List.set_cons_succ]
  refine takeH 16 63 (v := ?vz16_15) rfl (by rfl) (by kernel_rfl) (by kernel_rfl) (by kernel_rfl) (fun _ _ _ h => h) (Or.inl ⟨by rfl, ?_⟩) (x_f_z7) ?_
  rotate_left
  · intro wq hSq
    go_simp
    exact rfl
  try simp only [Act.put, List.setIfInBounds_toArray, List.set_cons_zero, List.set_cons_succ]
  refine takeH 17 64 (v := ?vz17_16) rfl (by rfl) (by kernel_rfl) (by kernel_rfl) (by kernel_rfl) (fun _ _ _ h => h) (Or.inl ⟨by rfl, ?_⟩) (x_f_z7) ?_
  rotate_left
  · intro wq hSq
    go_simp
    exact rfl
  try simp only [Act.put, List.setIfInBounds_toArray, List.set_cons_zero, List.set_cons_succ]
  refine takeH 18 65 (v := ?vz18_17) rfl (by rfl) (by kernel_rfl) (by kernel_rfl) (by kernel_rfl) (fun _ _ _ h => h) (Or.inl ⟨by rfl, ?_⟩) (x_f_z7) ?_
  rotate_left
  · intro wq hSq
    go_simp
    exact rfl
  try simp only [Act.put, List.setIfInBounds_toArray, List.set_cons_zero, List.set_cons_succ]
  refine takeH 19 66 (v := ?vz19_18) rfl (by rfl) (by kernel_rfl) (by kernel_rfl) (by kernel_rfl) (fun _ _ _ h => h) (Or.inl ⟨by rfl, ?_⟩) (x_f_z7) ?_
  rotate_left
  · intro wq hSq
    go_simp
    exact rfl
  try simp only [Act.put, List.setIfInBounds_toArray, List.set_cons_zero, List.set_cons_succ]
  refine takeH 20 67 (v := ?vz20_19) rfl (by rfl) (by kernel_rfl) (by kernel_rfl) (by kernel_rfl) (fun _ _ _ h => h) (Or.inl ⟨by rfl, ?_⟩) (x_f_z7) ?_
  rotate_left
  · intro wq hSq
    go_simp
    exact rfl
  try simp only [Act.put, List.setIfInBounds_toArray, List.set_cons_zero, List.set_cons_succ]
  refine takeH 21 68 (v := ?vz21_20) rfl (by rfl) (by kernel_rfl) (by kernel_rfl) (by kernel_rfl) (fun _ _ _ h => h) (Or.inl ⟨by rfl, ?_⟩) (x_f_z7) ?_
  rotate_left
  · intro wq hSq
    go_simp
    exact rfl
  try simp only [Act.put, List.setIfInBounds_toArray, List.set_cons_zero, List.set_cons_succ]
  refine takeH 22 69 (v := ?vz22_21) rfl (by rfl) (by kernel_rfl) (by kernel_rfl) (by kernel_rfl) (fun _ _ _ h => h) (Or.inl ⟨by rfl, ?_⟩) (x_f_z7) ?_
  rotate_left
  · intro wq hSq
    go_simp
    exact rfl
  try simp only [Act.put, List.setIfInBounds_toArray, List.set_cons_zero, List.set_cons_succ]
  refine takeH 23 70 (v := ?vz23_22) rfl (by rfl) (by kernel_rfl) (by kernel_rfl) (by kernel_rfl) (fun _ _ _ h => h) (Or.inl ⟨by rfl, ?_⟩) (x_f_z7) ?_
  rotate_left
  · intro wq hSq
    go_simp
    exact rfl
  try simp only [Act.put, List.setIfInBounds_toArray, List.set_cons_zero, List.set_cons_succ]
  refine takeH 24 71 (v := ?vz24_23) rfl (by rfl) (by kernel_rfl) (by kernel_rfl) (by kernel_rfl) (fun _ _ _ h => h) (Or.inl ⟨by rfl, ?_⟩) (x_f_z7) ?_
  rotate_left
  · intro wq hSq
    go_simp
    exact rfl
  try simp only [Act.put, List.setIfInBounds_toArray, List.set_cons_zero, List.set_cons_succ]
  refine takeH 25 72 (v := ?vz25_24) rfl (by rfl) (by kernel_rfl) (by kernel_rfl) (by kernel_rfl) (fun _ _ _ h => h) (Or.inl ⟨by rfl, ?_⟩) (x_f_z7) ?_
  rotate_left
  · intro wq hSq
    go_simp
    exact rfl
  try simp only [Act.put, List.setIfInBounds_toArray, List.set_cons_zero, List.set_cons_succ]
  refine takeH 26 73 (v := ?vz26_25) rfl (by rfl) (by kernel_rfl) (by kernel_rfl) (by kernel_rfl) (fun _ _ _ h => h) (Or.inl ⟨by rfl, ?_⟩) (x_f_z7) ?_
  rotate_left
  · intro wq hSq
    go_simp
    exact rfl
  try simp only [Act.put, List.setIfInBounds_toArray, List.set_cons_zero, List.set_cons_succ]
  refine takeH 27 74 (v := ?vz27_26) rfl (by rfl) (by kernel_rfl) (by kernel_rfl) (by kernel_rfl) (fun _ _ _ h => h) (Or.inl ⟨by rfl, ?_⟩) (x_f_z7) ?_
  rotate_left
  · intro wq hSq
    go_simp
    exact rfl
  try simp only [Act.put, List.setIfInBounds_toArray, List.set_cons_zero, List.set_cons_succ]
  refine wpAnyH_ready (rs := [28]) (by kernel_rfl) (by simp) (AllReadyH.cons rfl (fun K hK => ?_) AllReadyH.nil)
  go_simp
  refine (sameb_tt _ j_c_z7.out j_d_z7.out).mono ?_
  rintro e Wz27 ⟨rfl, hbz27⟩
  have x_f_z27 : Box Wz27 (w.heap.size) (V) := Box.below x_f_z7 hbz27
  have j_a_z27 := Lib.hid (IsL.below j_a_z7.out hbz27)
  have j_b_z27 := Lib.hid (IsL.below j_b_z7.out hbz27)
  have j_c_z27 := Lib.hid (IsL.below j_c_z7.out hbz27)
  have j_d_z27 := Lib.hid (IsL.below j_d_z7.out hbz27)
  have Bz27 := below_thru Bz7 hbz27
  clear x_f_z7 j_a_z7 j_b_z7 j_c_z7 j_d_z7 Bz7 hbz27
  refine hK.out _ _ x_f_z27 (fun _ => ?_); clear hK K
  refine takeH 29 76 (v := ?vz29_28) rfl (by rfl) (by kernel_rfl) (by kernel_rfl) (by kernel_rfl) (fun _ _ _ h => h) (Or.inl ⟨by rfl, ?_⟩) (x_f_z27) ?_
  rotate_left
  · intro wq hSq
    go_simp
    exact rfl
  try simp only [Act.put, List.setIfInBounds_toArray, List.set_cons_zero, List.set_cons_succ]
  refine takeH 30 77 (v := ?vz30_29) rfl (by rfl) (by kernel_rfl) (by kernel_rfl) (by kernel_rfl) (fun _ _ _ h => h) (Or.inl ⟨by rfl, ?_⟩) (x_f_z27) ?_
  rotate_left
  · intro wq hSq
    go_simp
    exact rfl
  try simp only [Act.put, List.setIfInBounds_toArray, List.set_cons_zero, List.set_cons_succ]
  refine takeH 31 78 (v := ?vz31_30) rfl (by rfl) (by kernel_rfl) (by kernel_rfl) (by kernel_rfl) (fun _ _ _ h => h) (Or.inl ⟨by rfl, ?_⟩) (x_f_z27) ?_
  rotate_left
  · intro wq hSq
    go_simp
    exact rfl
  try simp only [Act.put, List.setIfInBounds_toArray, List.set_cons_zero, List.set_cons_succ]
  refine takeH 32 79 (v := ?vz32_31) rfl (by rfl) (by kernel_rfl) (by kernel_rfl) (by kernel_rfl) (fun _ _ _ h => h) (Or.inl ⟨by rfl, ?_⟩) (x_f_z27) ?_
  rotate_left
  · intro wq hSq
    go_simp
    exact rfl
  try simp only [Act.put, List.setIfInBounds_toArray, List.set_cons_zero, List.set_cons_succ]
  refine takeH 33 80 (v := ?vz33_32) rfl (by rfl) (by kernel_rfl) (by kernel_rfl) (by kernel_rfl) (fun _ _ _ h => h) (Or.inl ⟨by rfl, ?_⟩) (x_f_z27) ?_
  rotate_left
  · intro wq hSq
    go_simp
    exact rfl
  try simp only [Act.put, List.setIfInBounds_toArray, List.set_cons_zero, List.set_cons_succ]
  refine takeH 34 81 (v := ?vz34_33) rfl (by rfl) (by kernel_rfl) (by kernel_rfl) (by kernel_rfl) (fun _ _ _ h => h) (Or.inl ⟨by rfl, ?_⟩) (x_f_z27) ?_
  rotate_left
  · intro wq hSq
    go_simp
    exact rfl
  try simp only [Act.put, List.setIfInBounds_toArray, List.set_cons_zero, List.set_cons_succ]
  refine takeH 35 2 (v := ?vz35_34) rfl (by rfl) (by kernel_rfl) (by kernel_rfl) (by kernel_rfl) (fun _ _ _ h => h) (Or.inl ⟨by rfl, ?_⟩) (x_f_z27) ?_
  rotate_left
  · intro wq hSq
    go_simp
    exact rfl
  try simp only [Act.put, List.setIfInBounds_toArray, List.set_cons_zero, List.set_cons_succ]
  refine wpAnyH_done (by kernel_rfl) ?_ _
  go_wp2_with fail
  go_returns
  exact ⟨rfl, Bz27⟩

end Go.Proofs.Ytkpdlbcmnfphmaa
