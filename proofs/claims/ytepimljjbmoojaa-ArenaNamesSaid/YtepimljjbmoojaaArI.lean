/-
  Layer 13's statements, walked.
-/
import Derived.Test.YtepimljjbmoojaaArH
namespace Go.Proofs.Ytepimljjbmoojaa
open Go.RowKit

/-- The reference's copy. -/
theorem rtwin_res {v : Value} {A : Ar} (w : World) (h1 : IsA w v A) (hl : A.nx.length ≤ 200 ∧ A.us.length ≤ 200) : Calls Try.prog 9 #[v] w fun e w' => ∃ u, e = .returned u ∧ ResA A w u w' :=
  (rtwin_is w h1 hl).mono fun _ _ ⟨_, _, he, oa, ob, hb⟩ => ⟨_, he, ⟨_, _, rfl, IsR.own oa rfl rfl, IsR.own ob rfl rfl⟩, ⟨_, _, _, rfl, ownR_block oa, ownR_block ob⟩, hb⟩
theorem v3_13 : Valid (newA 3) [0, 1, 2] := newA_valid (by decide) (by decide)
def a13 : Ar := (newA 3).took 0 1
def b13 : Ar := a13.took 1 2
def c13 : Ar := b13.gave 0
def d13 : Ar := c13.took 0 2
theorem va_13 : Valid a13 [1, 2] := v3_13.took rfl
theorem vb_13 : Valid b13 [2] := va_13.took rfl
theorem vc_13 : Valid c13 [0, 2] := (vb_13.gave (by decide) rfl).2
theorem ta_13 : TkA (newA 3) a13 0 0 := Or.inr (Or.inr ⟨rfl, 0, [1, 2], 1, v3_13, rfl, rfl, rfl⟩)
theorem tb_13 : TkA a13 b13 1 0 := Or.inr (Or.inr ⟨rfl, 1, [2], 2, va_13, rfl, rfl, rfl⟩)
theorem gc_13 : GvA b13 0 c13 0 := Or.inr ⟨[2], vb_13, Or.inr ⟨0, rfl, by decide, Or.inr ⟨rfl, rfl, rfl⟩⟩⟩
theorem td_13 : TkA c13 d13 0 0 := Or.inr (Or.inr ⟨rfl, 0, [2], 2, vc_13, rfl, rfl, rfl⟩)
theorem nw_13 : NwA 3 (newA 3) 0 := Or.inr ⟨rfl, 3, 2, rfl, rfl, by decide, rfl⟩
theorem same_t (A : Ar) : true = true ↔ A = A := ⟨fun _ => rfl, fun _ => rfl⟩

set_option maxRecDepth 100000 in
set_option maxHeartbeats 6400000 in
theorem alive13_is (w : World) : Calls Try.prog 21 #[] w fun e w' => e = .returned (.bool true) ∧ Below w.heap.size w w' := by
  have NW := fun W => pnew_is nw_13 W; have TA := fun (W : World) (v : Value) (h : IsA W v (newA 3)) => ptake_is ta_13 W h; have TB := fun (W : World) (v : Value) (h : IsA W v a13) => ptake_is tb_13 W h; have GC := fun (W : World) (v : Value) (h : IsA W v b13) => pgive_is gc_13 W h; have TD := fun (W : World) (v : Value) (h : IsA W v c13) => ptake_is td_13 W h
  have S0 := fun (W : World) (u v : Value) (h : IsA W u (newA 3)) (g : IsA W v (newA 3)) => rsame_is (same_t _) W h g; have SC := fun (W : World) (u v : Value) (h : IsA W u c13) (g : IsA W v c13) => rsame_is (same_t _) W h g
  have MB : ∀ W, (Instr.makeSlice 23 (.int .i64 3) (.int .i64 3)).run Try.prog W = .ok (.slice (some ⟨W.heap.size, 0, none⟩) 3 3) (W.alloc (.cells (mark 3 []).toArray 4)) := fun W => make_bools 3 (by decide) W
  obtain ⟨A0, hA0⟩ : ∃ A, newA 3 = A := ⟨_, rfl⟩
  obtain ⟨A1, hA1⟩ : ∃ A, a13 = A := ⟨_, rfl⟩
  obtain ⟨A2, hA2⟩ : ∃ A, b13 = A := ⟨_, rfl⟩
  obtain ⟨A3, hA3⟩ : ∃ A, c13 = A := ⟨_, rfl⟩
  obtain ⟨A4, hA4⟩ : ∃ A, d13 = A := ⟨_, rfl⟩
  have L0 := Lib.hid (show A0.nx = [1, 2, -1] ∧ A0.us = [false, false, false] ∧ A0.fr = 0 by subst hA0; exact ⟨rfl, rfl, rfl⟩); have L3 := Lib.hid (show A3.nx = [2, -1, -1] ∧ A3.us = [false, true, false] ∧ A3.fr = 0 by subst hA3; exact ⟨rfl, rfl, rfl⟩); have F2 := Lib.hid (show A2.fr = 2 by subst hA2; rfl)
  rw [hA0] at NW TA S0; rw [hA1] at TA TB; rw [hA2] at TB GC; rw [hA3] at GC TD SC; rw [hA4] at TD; clear hA0 hA1 hA2 hA3 hA4
  have hB0 := Below.refl w.heap.size w
  have hs0 := hB0.size
  go_enter Try.func21, Try.ntmps21
  go_wp2_with fail
  refine (NW _).mono ?_
  rintro e w1 ⟨va, rfl, hI, hF, hb⟩
  obtain ⟨xa, ya, rfl, rx, ry⟩ := id hI; obtain ⟨pa, ca, rfl, hrx⟩ := id rx; obtain ⟨qa, da, rfl, hry⟩ := id ry; clear hrx hry rx ry hF
  have hB1 : Below w.heap.size w w1 := below_thru hB0 hb
  have hs1 := hB1.size
  clear hB0 hs0
  clear hb
  have K_w1_1 : Below w1.heap.size w1 w1 := Below.refl _ _
  have Ia : Hid (IsA w1 (.agg [.slice pa A0.nx.length ca, .slice qa A0.us.length da, .int .i64 A0.fr].toArray) A0) := Lib.hid hI; clear hI
  have d_a_0 := hs1
  go_upto_region 2 with (refine wpList_store_box (cs := [.slice pa A0.nx.length ca, .slice qa A0.us.length da, .int .i64 A0.fr]) rfl _ _ _ rfl (Box.newc (l := ar0) rfl rfl) rfl rfl (size_ar _ _ _) rfl (one_ar _ _ _ _ _ _ _) ?_; intro W1_0 hW1_0)
  have hN : Below w1.heap.size w1 W1_0 := (hW1_0.below _ _ (by omega) ((Below.refl _ w1).alloc (Nat.le_refl _) _))
  have x_a2 : Box W1_0 (w1.heap.size) ([.slice pa A0.nx.length ca, .slice qa A0.us.length da, .int .i64 A0.fr]) := hW1_0.box
  have K_w1_2 : Below w1.heap.size w1 W1_0 := below_thru K_w1_1 hN
  clear K_w1_1
  have hB2 : Below w.heap.size w W1_0 := below_thru hB1 hN
  have hs2 := hB2.size
  clear hB1 hs1
  clear hN hW1_0
  go_cut [27] (fun p0 wx => p0 = .bool false ∧ Box wx (w1.heap.size) ([.slice pa A0.nx.length ca, .slice qa A0.us.length da, .int .i64 A0.fr]) ∧ Below w1.heap.size w1 wx ∧ Below w.heap.size w wx)
  case first =>
    refine wp_region_held_drew (S := fun W => Box W (w1.heap.size) ([.slice pa A0.nx.length ca, .slice qa A0.us.length da, .int .i64 A0.fr])) (by kernel_rfl) (x_a2).drew (fun _ => ?_)
    refine F_drew (F := fun W => wpAnyH _ _ _ _ _ _ _ _ W) ?_
    intro Ws0 hbs0
    clear hs2
    have x_a_s0 : Box Ws0 (w1.heap.size) ([.slice pa A0.nx.length ca, .slice qa A0.us.length da, .int .i64 A0.fr]) := Box.below x_a2 hbs0
    have Bs0 := below_thru hB2 hbs0
    have K_w1_s0 := below_thru K_w1_2 hbs0
    clear x_a2 hB2 K_w1_2 hbs0
    refine takeH 0 18 (v := ?vs0_1) rfl (by rfl) (by kernel_rfl) (by kernel_rfl) (by kernel_rfl) (fun _ _ _ h => h) (Or.inl ⟨by rfl, ?_⟩) (x_a_s0) ?_
    rotate_left
    · intro wq hSq
      go_simp
      exact rfl
    try simp only [Act.put, List.setIfInBounds_toArray, List.set_cons_zero, List.set_cons_succ]
    refine takeH 1 19 (v := ?vs1_2) rfl (by rfl) (by kernel_rfl) (by kernel_rfl) (by kernel_rfl) (fun _ _ _ h => h) (Or.inl ⟨by rfl, ?_⟩) (x_a_s0) ?_
    rotate_left
    · intro wq hSq
      go_simp
      exact rfl
    try simp only [Act.put, List.setIfInBounds_toArray, List.set_cons_zero, List.set_cons_succ]
    refine takeH 2 20 (v := ?vs2_3) rfl (by rfl) (by kernel_rfl) (by kernel_rfl) (by kernel_rfl) (fun _ _ _ h => h) (Or.inl ⟨by rfl, ?_⟩) (x_a_s0) ?_
    rotate_left
    · intro wq hSq
      go_simp
      exact rfl
    try simp only [Act.put, List.setIfInBounds_toArray, List.set_cons_zero, List.set_cons_succ]
    refine takeH 3 21 (v := .agg ([.slice pa A0.nx.length ca, .slice qa A0.us.length da, .int .i64 A0.fr]).toArray) rfl (by rfl) (by kernel_rfl) (by kernel_rfl) (by kernel_rfl) (fun _ _ _ h => h) (yieldsIf_load_mid (by rfl) _ _ rfl _ _ rfl ([.slice pa A0.nx.length ca, .slice qa A0.us.length da, .int .i64 A0.fr]) _ (fun wq hq => Box.range (hq)) Try.underlying25 rfl (size_ar _ _ _)) (x_a_s0) ?_
    try simp only [Act.put, List.setIfInBounds_toArray, List.set_cons_zero, List.set_cons_succ]
    refine wpAnyH_ready (rs := [4, 5]) (by kernel_rfl) (by simp) (AllReadyH.cons rfl (fun K hK => ?_) (AllReadyH.cons rfl (fun K hK => ?_) AllReadyH.nil))
    · skip
      go_simp
      have ql_g_a := (x_a_s0).lt
      have qs_g := Below.size Bs0
      refine hK.out _ _ (Box.alloc x_a_s0 _) (fun _ => ?_); clear hK K
      refine F_gen (F := fun W => wpAnyH _ _ _ _ _ _ _ _ W) (J := fun W => Box W (Ws0.heap.size) (([1, 2, -1] : List Int).map (Value.int .i64)) ∧ Below Ws0.heap.size Ws0 W) (And.intro (Box.newc (l := ([1, 2, -1] : List Int).map (Value.int .i64)) rfl rfl) ((Below.refl _ _).alloc (Nat.le_refl _) _)) ?_
      intro Ws4 ⟨na_g_s4, hbs4⟩
      have x_a_s4 : Box Ws4 (w1.heap.size) ([.slice pa A0.nx.length ca, .slice qa A0.us.length da, .int .i64 A0.fr]) := Box.below x_a_s0 hbs4
      have Bs4 := below_thru Bs0 hbs4
      have K_w1_s4 := below_thru K_w1_s0 hbs4
      clear x_a_s0 Bs0 K_w1_s0 hbs4
      obtain ⟨g, hg⟩ : ∃ b, Ws0.heap.size = b := ⟨_, rfl⟩
      rw [hg] at na_g_s4 ql_g_a qs_g ⊢
      clear hg
      refine wpAnyH_ready (rs := [5]) (by kernel_rfl) (by simp) (AllReadyH.cons rfl (fun K hK => ?_) AllReadyH.nil)
      go_simp
      have ql_h_a := (x_a_s4).lt
      have ql_h_g := (na_g_s4).lt
      have qs_h := Below.size Bs4
      refine hK.out _ _ (Box.alloc x_a_s4 _) (fun _ => ?_); clear hK K
      refine F_gen (F := fun W => wpAnyH _ _ _ _ _ _ _ _ W) (J := fun W => Box W (Ws4.heap.size) (mark 3 []) ∧ Below Ws4.heap.size Ws4 W) (And.intro (Box.newc (l := mark 3 []) rfl rfl) ((Below.refl _ _).alloc (Nat.le_refl _) _)) ?_
      intro Ws5 ⟨na_h_s5, hbs5⟩
      have x_a_s5 : Box Ws5 (w1.heap.size) ([.slice pa A0.nx.length ca, .slice qa A0.us.length da, .int .i64 A0.fr]) := Box.below x_a_s4 hbs5
      have z_g_s5 : Box Ws5 (g) (([1, 2, -1] : List Int).map (Value.int .i64)) := Box.below na_g_s4 hbs5
      have Bs5 := below_thru Bs4 hbs5
      have K_w1_s5 := below_thru K_w1_s4 hbs5
      clear x_a_s4 na_g_s4 Bs4 K_w1_s4 hbs5
      obtain ⟨h, hh⟩ : ∃ b, Ws4.heap.size = b := ⟨_, rfl⟩
      rw [hh] at na_h_s5 ql_h_a ql_h_g qs_h ⊢
      clear hh
      refine takeH 6 24 (v := ?vs6_6) rfl (by rfl) (by kernel_rfl) (by kernel_rfl) (by kernel_rfl) (fun _ _ _ h => h) (Or.inl ⟨by rfl, ?_⟩) (x_a_s5) ?_
      rotate_left
      · intro wq hSq
        go_simp
        exact rfl
      try simp only [Act.put, List.setIfInBounds_toArray, List.set_cons_zero, List.set_cons_succ]
      refine wpAnyH_ready (rs := [7]) (by kernel_rfl) (by simp) (AllReadyH.cons rfl (fun K hK => ?_) AllReadyH.nil)
      go_simp
      refine (S0 _ _ _ (Ia.out.below K_w1_s5) (IsA.boxes (A := A0) (x := 0) (by rw [L0.out.1]; exact z_g_s5) (by rw [L0.out.2.1]; exact na_h_s5) L0.out.2.2.symm (by rw [L0.out.1]; rfl) (by rw [L0.out.2.1]; rfl) ⟨by decide, by decide⟩ ⟨by decide, by decide⟩)).mono ?_
      rintro e Ws7 ⟨rfl, hbs7⟩
      have x_a_s7 : Box Ws7 (w1.heap.size) ([.slice pa A0.nx.length ca, .slice qa A0.us.length da, .int .i64 A0.fr]) := Box.below x_a_s5 hbs7
      have z_g_s7 : Box Ws7 (g) (([1, 2, -1] : List Int).map (Value.int .i64)) := Box.below z_g_s5 hbs7
      have z_h_s7 : Box Ws7 (h) (mark 3 []) := Box.below na_h_s5 hbs7
      have Bs7 := below_thru Bs5 hbs7
      have K_w1_s7 := below_thru K_w1_s5 hbs7
      clear x_a_s5 z_g_s5 na_h_s5 Bs5 K_w1_s5 hbs7
      refine hK.out _ _ x_a_s7 (fun _ => ?_); clear hK K
      refine takeH 8 26 (v := ?vs8_8) rfl (by rfl) (by kernel_rfl) (by kernel_rfl) (by kernel_rfl) (fun _ _ _ h => h) (Or.inl ⟨by rfl, ?_⟩) (x_a_s7) ?_
      rotate_left
      · intro wq hSq
        go_simp
        exact rfl
      try simp only [Act.put, List.setIfInBounds_toArray, List.set_cons_zero, List.set_cons_succ]
      refine takeH 9 27 (v := ?vs9_9) rfl (by rfl) (by kernel_rfl) (by kernel_rfl) (by kernel_rfl) (fun _ _ _ h => h) (Or.inl ⟨by rfl, ?_⟩) (x_a_s7) ?_
      rotate_left
      · intro wq hSq
        go_simp
        exact rfl
      try simp only [Act.put, List.setIfInBounds_toArray, List.set_cons_zero, List.set_cons_succ]
      refine wpAnyH_done (by kernel_rfl) ?_ _
      go_wp2_with fail
      go_meet
      exact ⟨rfl, x_a_s7, K_w1_s7, Bs7⟩
    · skip
      go_simp
      have ql_h_a := (x_a_s0).lt
      have qs_h := Below.size Bs0
      refine hK.out _ _ (Box.alloc x_a_s0 _) (fun _ => ?_); clear hK K
      refine F_gen (F := fun W => wpAnyH _ _ _ _ _ _ _ _ W) (J := fun W => Box W (Ws0.heap.size) (mark 3 []) ∧ Below Ws0.heap.size Ws0 W) (And.intro (Box.newc (l := mark 3 []) rfl rfl) ((Below.refl _ _).alloc (Nat.le_refl _) _)) ?_
      intro Ws10 ⟨na_h_s10, hbs10⟩
      have x_a_s10 : Box Ws10 (w1.heap.size) ([.slice pa A0.nx.length ca, .slice qa A0.us.length da, .int .i64 A0.fr]) := Box.below x_a_s0 hbs10
      have Bs10 := below_thru Bs0 hbs10
      have K_w1_s10 := below_thru K_w1_s0 hbs10
      clear x_a_s0 Bs0 K_w1_s0 hbs10
      obtain ⟨h, hh⟩ : ∃ b, Ws0.heap.size = b := ⟨_, rfl⟩
      rw [hh] at na_h_s10 ql_h_a qs_h ⊢
      clear hh
      refine wpAnyH_ready (rs := [4]) (by kernel_rfl) (by simp) (AllReadyH.cons rfl (fun K hK => ?_) AllReadyH.nil)
      go_simp
      have ql_g_a := (x_a_s10).lt
      have ql_g_h := (na_h_s10).lt
      have qs_g := Below.size Bs10
      refine hK.out _ _ (Box.alloc x_a_s10 _) (fun _ => ?_); clear hK K
      refine F_gen (F := fun W => wpAnyH _ _ _ _ _ _ _ _ W) (J := fun W => Box W (Ws10.heap.size) (([1, 2, -1] : List Int).map (Value.int .i64)) ∧ Below Ws10.heap.size Ws10 W) (And.intro (Box.newc (l := ([1, 2, -1] : List Int).map (Value.int .i64)) rfl rfl) ((Below.refl _ _).alloc (Nat.le_refl _) _)) ?_
      intro Ws11 ⟨na_g_s11, hbs11⟩
      have x_a_s11 : Box Ws11 (w1.heap.size) ([.slice pa A0.nx.length ca, .slice qa A0.us.length da, .int .i64 A0.fr]) := Box.below x_a_s10 hbs11
      have z_h_s11 : Box Ws11 (h) (mark 3 []) := Box.below na_h_s10 hbs11
      have Bs11 := below_thru Bs10 hbs11
      have K_w1_s11 := below_thru K_w1_s10 hbs11
      clear x_a_s10 na_h_s10 Bs10 K_w1_s10 hbs11
      obtain ⟨g, hg⟩ : ∃ b, Ws10.heap.size = b := ⟨_, rfl⟩
      rw [hg] at na_g_s11 ql_g_a ql_g_h qs_g ⊢
      clear hg
      refine takeH 6 24 (v := ?vs6_12) rfl (by rfl) (by kernel_rfl) (by kernel_rfl) (by kernel_rfl) (fun _ _ _ h => h) (Or.inl ⟨by rfl, ?_⟩) (x_a_s11) ?_
      rotate_left
      · intro wq hSq
        go_simp
        exact rfl
      try simp only [Act.put, List.setIfInBounds_toArray, List.set_cons_zero, List.set_cons_succ]
      refine wpAnyH_ready (rs := [7]) (by kernel_rfl) (by simp) (AllReadyH.cons rfl (fun K hK => ?_) AllReadyH.nil)
      go_simp
      refine (S0 _ _ _ (Ia.out.below K_w1_s11) (IsA.boxes (A := A0) (x := 0) (by rw [L0.out.1]; exact na_g_s11) (by rw [L0.out.2.1]; exact z_h_s11) L0.out.2.2.symm (by rw [L0.out.1]; rfl) (by rw [L0.out.2.1]; rfl) ⟨by decide, by decide⟩ ⟨by decide, by decide⟩)).mono ?_
      rintro e Ws13 ⟨rfl, hbs13⟩
      have x_a_s13 : Box Ws13 (w1.heap.size) ([.slice pa A0.nx.length ca, .slice qa A0.us.length da, .int .i64 A0.fr]) := Box.below x_a_s11 hbs13
      have z_h_s13 : Box Ws13 (h) (mark 3 []) := Box.below z_h_s11 hbs13
      have z_g_s13 : Box Ws13 (g) (([1, 2, -1] : List Int).map (Value.int .i64)) := Box.below na_g_s11 hbs13
      have Bs13 := below_thru Bs11 hbs13
      have K_w1_s13 := below_thru K_w1_s11 hbs13
      clear x_a_s11 z_h_s11 na_g_s11 Bs11 K_w1_s11 hbs13
      refine hK.out _ _ x_a_s13 (fun _ => ?_); clear hK K
      refine takeH 8 26 (v := ?vs8_14) rfl (by rfl) (by kernel_rfl) (by kernel_rfl) (by kernel_rfl) (fun _ _ _ h => h) (Or.inl ⟨by rfl, ?_⟩) (x_a_s13) ?_
      rotate_left
      · intro wq hSq
        go_simp
        exact rfl
      try simp only [Act.put, List.setIfInBounds_toArray, List.set_cons_zero, List.set_cons_succ]
      refine takeH 9 27 (v := ?vs9_15) rfl (by rfl) (by kernel_rfl) (by kernel_rfl) (by kernel_rfl) (fun _ _ _ h => h) (Or.inl ⟨by rfl, ?_⟩) (x_a_s13) ?_
      rotate_left
      · intro wq hSq
        go_simp
        exact rfl
      try simp only [Act.put, List.setIfInBounds_toArray, List.set_cons_zero, List.set_cons_succ]
      refine wpAnyH_done (by kernel_rfl) ?_ _
      go_wp2_with fail
      go_meet
      exact ⟨rfl, x_a_s13, K_w1_s13, Bs13⟩
  case rest =>
    clear x_a2 K_w1_2 hB2 hs2
    obtain ⟨rfl, x_a3, K_w1_3, hB3⟩ := hcut
    obtain ⟨w43, rfl⟩ : ∃ u : World, u = wc := ⟨_, rfl⟩
    have hs3 := hB3.size
    go_wp2_with (refine wpList_load_box9 rfl _ _ rfl x_a3 rfl Try.underlying25 rfl (size_ar _ _ _) ?_)
    refine (TA _ _ (Ia.out.below K_w1_3)).mono ?_
    rintro e w4 ⟨vb, rfl, hI, hF, hb⟩
    obtain ⟨xb, yb, rfl, rx, ry⟩ := id hI; obtain ⟨pb, cb, rfl, hrx⟩ := id rx; obtain ⟨qb, db, rfl, hry⟩ := id ry; clear hrx hry rx ry hF
    have K_w1_4 : Below w1.heap.size w1 w4 := below_thru K_w1_3 hb
    clear K_w1_3
    have hB4 : Below w.heap.size w w4 := below_thru hB3 hb
    have hs4 := hB4.size
    have x_a4 : Box w4 (w1.heap.size) ([.slice pa A0.nx.length ca, .slice qa A0.us.length da, .int .i64 A0.fr]) := Box.below x_a3 hb
    clear hB3 hs3 x_a3
    clear hb
    have K_w4_4 : Below w4.heap.size w4 w4 := Below.refl _ _
    have Ib : Hid (IsA w4 (.agg [.slice pb A1.nx.length cb, .slice qb A1.us.length db, .int .i64 A1.fr].toArray) A1) := Lib.hid hI; clear hI
    have d_b_a := (x_a4).lt
    have d_b_0 := hs4
    go_upto_region 5 with (refine wpList_store_box (cs := [.slice pb A1.nx.length cb, .slice qb A1.us.length db, .int .i64 A1.fr]) rfl _ _ _ rfl (Box.newc (l := ar0) rfl rfl) rfl rfl (size_ar _ _ _) rfl (one_ar _ _ _ _ _ _ _) ?_; intro W4_0 hW4_0)
    have hN : Below w4.heap.size w4 W4_0 := (hW4_0.below _ _ (by omega) ((Below.refl _ w4).alloc (Nat.le_refl _) _))
    have x_b5 : Box W4_0 (w4.heap.size) ([.slice pb A1.nx.length cb, .slice qb A1.us.length db, .int .i64 A1.fr]) := hW4_0.box
    have K_w1_5 : Below w1.heap.size w1 W4_0 := below_thru K_w1_4 hN
    have K_w4_5 : Below w4.heap.size w4 W4_0 := below_thru K_w4_4 hN
    clear K_w1_4 K_w4_4
    have hB5 : Below w.heap.size w W4_0 := below_thru hB4 hN
    have hs5 := hB5.size
    have x_a5 : Box W4_0 (w1.heap.size) ([.slice pa A0.nx.length ca, .slice qa A0.us.length da, .int .i64 A0.fr]) := Box.below x_a4 hN
    clear hB4 hs4 x_a4
    clear hN hW4_0
    clear K_w1_5
    clear x_a5
    go_wp2_with (refine wpList_load_box9 rfl _ _ rfl x_b5 rfl Try.underlying25 rfl (size_ar _ _ _) ?_)
    refine (TB _ _ (Ib.out.below K_w4_5)).mono ?_
    rintro e w6 ⟨vc, rfl, hI, hF, hb⟩
    obtain ⟨xc, yc, rfl, rx, ry⟩ := id hI; obtain ⟨pc, cc, rfl, hrx⟩ := id rx; obtain ⟨qc, dc, rfl, hry⟩ := id ry; clear hrx hry rx ry hF
    have K_w4_6 : Below w4.heap.size w4 w6 := below_thru K_w4_5 hb
    clear K_w4_5
    have hB6 : Below w.heap.size w w6 := below_thru hB5 hb
    have hs6 := hB6.size
    have x_b6 : Box w6 (w4.heap.size) ([.slice pb A1.nx.length cb, .slice qb A1.us.length db, .int .i64 A1.fr]) := Box.below x_b5 hb
    clear hB5 hs5 x_b5
    clear hb
    have K_w6_6 : Below w6.heap.size w6 w6 := Below.refl _ _
    have Ic : Hid (IsA w6 (.agg [.slice pc A2.nx.length cc, .slice qc A2.us.length dc, .int .i64 A2.fr].toArray) A2) := Lib.hid hI; clear hI
    have d_c_b := (x_b6).lt
    have d_c_0 := hs6
    go_upto_region 6 with (refine wpList_store_box (cs := [.slice pc A2.nx.length cc, .slice qc A2.us.length dc, .int .i64 A2.fr]) rfl _ _ _ rfl (Box.newc (l := ar0) rfl rfl) rfl rfl (size_ar _ _ _) rfl (one_ar _ _ _ _ _ _ _) ?_; intro W6_0 hW6_0)
    have hN : Below w6.heap.size w6 W6_0 := (hW6_0.below _ _ (by omega) ((Below.refl _ w6).alloc (Nat.le_refl _) _))
    have x_c7 : Box W6_0 (w6.heap.size) ([.slice pc A2.nx.length cc, .slice qc A2.us.length dc, .int .i64 A2.fr]) := hW6_0.box
    have K_w4_7 : Below w4.heap.size w4 W6_0 := below_thru K_w4_6 hN
    have K_w6_7 : Below w6.heap.size w6 W6_0 := below_thru K_w6_6 hN
    clear K_w4_6 K_w6_6
    have hB7 : Below w.heap.size w W6_0 := below_thru hB6 hN
    have hs7 := hB7.size
    have x_b7 : Box W6_0 (w4.heap.size) ([.slice pb A1.nx.length cb, .slice qb A1.us.length db, .int .i64 A1.fr]) := Box.below x_b6 hN
    clear hB6 hs6 x_b6
    clear hN hW6_0
    clear K_w4_7
    clear x_b7
    go_wp2_with (refine wpList_load_box9 rfl _ _ rfl x_c7 rfl Try.underlying25 rfl (size_ar _ _ _) ?_)
    refine (GC _ _ (Ic.out.below K_w6_7)).mono ?_
    rintro e w8 ⟨vd, rfl, hI, hF, hb⟩
    obtain ⟨xd, yd, rfl, rx, ry⟩ := id hI; obtain ⟨pd, cd, rfl, hrx⟩ := id rx; obtain ⟨qd, dd, rfl, hry⟩ := id ry; clear hrx hry rx ry hF
    have K_w6_8 : Below w6.heap.size w6 w8 := below_thru K_w6_7 hb
    clear K_w6_7
    have hB8 : Below w.heap.size w w8 := below_thru hB7 hb
    have hs8 := hB8.size
    have x_c8 : Box w8 (w6.heap.size) ([.slice pc A2.nx.length cc, .slice qc A2.us.length dc, .int .i64 A2.fr]) := Box.below x_c7 hb
    clear hB7 hs7 x_c7
    clear hb
    have K_w8_8 : Below w8.heap.size w8 w8 := Below.refl _ _
    have Id : Hid (IsA w8 (.agg [.slice pd A3.nx.length cd, .slice qd A3.us.length dd, .int .i64 A3.fr].toArray) A3) := Lib.hid hI; clear hI
    have d_d_c := (x_c8).lt
    have d_d_0 := hs8
    go_upto_region 7 with (refine wpList_store_box (cs := [.slice pd A3.nx.length cd, .slice qd A3.us.length dd, .int .i64 A3.fr]) rfl _ _ _ rfl (Box.newc (l := ar0) rfl rfl) rfl rfl (size_ar _ _ _) rfl (one_ar _ _ _ _ _ _ _) ?_; intro W8_0 hW8_0)
    have hN : Below w8.heap.size w8 W8_0 := (hW8_0.below _ _ (by omega) ((Below.refl _ w8).alloc (Nat.le_refl _) _))
    have x_d9 : Box W8_0 (w8.heap.size) ([.slice pd A3.nx.length cd, .slice qd A3.us.length dd, .int .i64 A3.fr]) := hW8_0.box
    have K_w6_9 : Below w6.heap.size w6 W8_0 := below_thru K_w6_8 hN
    have K_w8_9 : Below w8.heap.size w8 W8_0 := below_thru K_w8_8 hN
    clear K_w6_8 K_w8_8
    have hB9 : Below w.heap.size w W8_0 := below_thru hB8 hN
    have hs9 := hB9.size
    have x_c9 : Box W8_0 (w6.heap.size) ([.slice pc A2.nx.length cc, .slice qc A2.us.length dc, .int .i64 A2.fr]) := Box.below x_c8 hN
    clear hB8 hs8 x_c8
    clear hN hW8_0
    clear K_w6_9
    go_wp2_with (refine wpList_load_box9 rfl _ _ rfl x_d9 rfl Try.underlying25 rfl (size_ar _ _ _) ?_)
    refine (TD _ _ (Id.out.below K_w8_9)).mono ?_
    rintro e w10 ⟨ve, rfl, hI, hF, hb⟩
    obtain ⟨xe, ye, rfl, rx, ry⟩ := id hI; obtain ⟨pe, ce, rfl, hrx⟩ := id rx; obtain ⟨qe, de, rfl, hry⟩ := id ry; clear hrx hry rx ry hF
    have K_w8_10 : Below w8.heap.size w8 w10 := below_thru K_w8_9 hb
    clear K_w8_9
    have hB10 : Below w.heap.size w w10 := below_thru hB9 hb
    have hs10 := hB10.size
    have x_c10 : Box w10 (w6.heap.size) ([.slice pc A2.nx.length cc, .slice qc A2.us.length dc, .int .i64 A2.fr]) := Box.below x_c9 hb
    have x_d10 : Box w10 (w8.heap.size) ([.slice pd A3.nx.length cd, .slice qd A3.us.length dd, .int .i64 A3.fr]) := Box.below x_d9 hb
    clear hB9 hs9 x_c9 x_d9
    clear hb
    have K_w10_10 : Below w10.heap.size w10 w10 := Below.refl _ _
    have Ie : Hid (IsA w10 (.agg [.slice pe A4.nx.length ce, .slice qe A4.us.length de, .int .i64 A4.fr].toArray) A4) := Lib.hid hI; clear hI
    have d_e_c := (x_c10).lt
    have d_e_d := (x_d10).lt
    have d_e_0 := hs10
    go_upto_region 8 with (refine wpList_store_box (cs := [.slice pe A4.nx.length ce, .slice qe A4.us.length de, .int .i64 A4.fr]) rfl _ _ _ rfl (Box.newc (l := ar0) rfl rfl) rfl rfl (size_ar _ _ _) rfl (one_ar _ _ _ _ _ _ _) ?_; intro W10_0 hW10_0)
    have hN : Below w10.heap.size w10 W10_0 := (hW10_0.below _ _ (by omega) ((Below.refl _ w10).alloc (Nat.le_refl _) _))
    have x_e11 : Box W10_0 (w10.heap.size) ([.slice pe A4.nx.length ce, .slice qe A4.us.length de, .int .i64 A4.fr]) := hW10_0.box
    have K_w8_11 : Below w8.heap.size w8 W10_0 := below_thru K_w8_10 hN
    have K_w10_11 : Below w10.heap.size w10 W10_0 := below_thru K_w10_10 hN
    clear K_w8_10 K_w10_10
    have hB11 : Below w.heap.size w W10_0 := below_thru hB10 hN
    have hs11 := hB11.size
    have x_c11 : Box W10_0 (w6.heap.size) ([.slice pc A2.nx.length cc, .slice qc A2.us.length dc, .int .i64 A2.fr]) := Box.below x_c10 hN
    have x_d11 : Box W10_0 (w8.heap.size) ([.slice pd A3.nx.length cd, .slice qd A3.us.length dd, .int .i64 A3.fr]) := Box.below x_d10 hN
    clear hB10 hs10 x_c10 x_d10
    clear hN hW10_0
    clear K_w10_11
    clear x_e11
    have cc := (x_c11).c 2 _ rfl
    have zc := (x_c11).lt
    rw [F2.out] at cc
    have kd := Below.size K_w8_11
    go_wp2_with (refine wpList_load_box9 rfl _ _ rfl x_d11 rfl Try.underlying25 rfl (size_ar _ _ _) ?_)
    have hN := ((Below.refl _ W10_0).alloc (Nat.le_refl _) (.cells #[.int .i64 2, .int .i64 (-1), .int .i64 (-1)] 3)).alloc (by simp) (.cells #[.bool false, .bool true, .bool false] 4)
    have hD := Id.out.below (below_thru K_w8_11 hN)
    have hL := IsA.boxes (A := A3) (x := 0) (c := 3) (d := 3) (n := 3) (w := (W10_0.alloc (.cells #[.int .i64 2, .int .i64 (-1), .int .i64 (-1)] 3)).alloc (.cells #[.bool false, .bool true, .bool false] 4)) (g := W10_0.heap.size) (h := W10_0.heap.size + 1) (by rw [L3.out.1]; exact Box.alloc (Box.newc rfl rfl) _) (by rw [L3.out.2.1]; exact Box.newc rfl (by simp)) L3.out.2.2.symm (by rw [L3.out.1]; rfl) (by rw [L3.out.2.1]; rfl) ⟨by decide, by decide⟩ ⟨by decide, by decide⟩
    refine (SC _ _ _ hD hL).mono ?_
    rintro e w9 ⟨rfl, hb⟩
    have hB9 := below_thru (below_thru hB11 hN) hb; clear hD hL hN hb
    go_wp2_with fail
    go_returns
    exact ⟨rfl, hB9⟩


end Go.Proofs.Ytepimljjbmoojaa
