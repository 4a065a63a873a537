/-
  The reference of layer 13, walked: Take, Give, Count.
-/
import Derived.Test.YtepimljjbmoojaaArG
namespace Go.Proofs.Ytepimljjbmoojaa
open Go.RowKit

set_option maxRecDepth 100000 in
set_option maxHeartbeats 6400000 in
theorem rtake_a {v : Value} {A : Ar} (h : ∀ l, ¬ Valid A l) (w : World) (h1 : IsA w v A) : Calls Try.prog 13 #[v] w fun e w' => ∃ v, e = .returned (.tuple #[v, .int .i64 0, .int .i64 8]) ∧ ResA Ar.zero w v w' := by
  have CK := fun (W : World) (u : Value) (hu : IsA W u A) => rchk_is W hu (ChkA.bad h)
  have HA := Lib.hid h1
  obtain ⟨v1, v2, rfl, g1, g2⟩ := id h1
  obtain ⟨a1, c1, rfl, hr1⟩ := id g1; obtain ⟨a2, c2, rfl, hr2⟩ := id g2
  have m1 := hr1.most; have r1 := hr1.room; have m2 := hr2.most; have r2 := hr2.room; have H1 := Lib.hid g1; have H2 := Lib.hid g2
  clear hr1 hr2 g1 g2 h1
  have BI := fun W => build_ar0 W; have SA := Lib.hid (size_ar (.slice a1 A.nx.length c1) (.slice a2 A.us.length c2) (.int .i64 A.fr))
  go_enter Try.func13, Try.ntmps13
  go_upto_region 1 with fail
  refine F_gen (F := fun W => Code.wp _ _ _ _ W) (J := fun W => Box W (w.heap.size) ([.slice a1 A.nx.length c1, .slice a2 A.us.length c2, .int .i64 A.fr]) ∧ Box W (w.heap.size + 1) (ar0) ∧ Below w.heap.size w W) (And.intro (Box.alloc (Box.newc rfl rfl) _) (And.intro (Box.newc rfl (by simp)) (by go_grown))) ?_
  intro w0 ⟨e_a, e_r, hB0⟩
  have hs0 := hB0.size
  have x_a0 := e_a; clear e_a
  have x_r0 := e_r; clear e_r
  go_wp2_with (refine wpList_load_box9 rfl _ _ rfl x_a0 rfl Try.underlying25 rfl SA.out ?_)
  refine (CK _ _ (HA.out.below hB0)).mono ?_
  rintro e w1 ⟨rfl, hb⟩
  have hB1 : Below w.heap.size w w1 := below_thru hB0 hb
  have hs1 := hB1.size
  have x_a1 : Box w1 (w.heap.size) ([.slice a1 A.nx.length c1, .slice a2 A.us.length c2, .int .i64 A.fr]) := Box.below x_a0 hb
  have x_r1 : Box w1 (w.heap.size + 1) (ar0) := Box.below x_r0 hb
  clear hB0 hs0 x_a0 x_r0
  clear hb
  go_wp2_with (first
    | (refine wpList_load_box9 rfl _ _ rfl x_a1 rfl Try.underlying25 rfl SA.out ?_)
    | (refine wpList_build9 rfl 25 _ rfl (us := #[]) (by rfl) (BI _) ?_))
  refine (CK _ _ (HA.out.below hB1)).mono ?_
  rintro e w2 ⟨rfl, hb⟩
  have hB2 : Below w.heap.size w w2 := below_thru hB1 hb
  have hs2 := hB2.size
  have x_a2 : Box w2 (w.heap.size) ([.slice a1 A.nx.length c1, .slice a2 A.us.length c2, .int .i64 A.fr]) := Box.below x_a1 hb
  have x_r2 : Box w2 (w.heap.size + 1) (ar0) := Box.below x_r1 hb
  clear hB1 hs1 x_a1 x_r1
  clear hb
  have lq := (x_r2).lt
  go_wp2_with (first | (refine wpList_build9 rfl 25 _ rfl (us := #[]) (by rfl) (BI _) ?_) | (refine wpList_store_box (cs := ar0) rfl _ _ _ rfl x_r2 rfl rfl size_ar0 rfl one_ar0 ?_; intro W99 hW99))
  exact bodyPost_ret (results_box3 Try.results13 hW99.box rfl rfl rfl Try.underlying25 rfl size_ar0) rfl ⟨_, rfl, isA_zero _, fresh_zero _, hW99.below _ _ (by omega) hB2⟩

set_option maxRecDepth 100000 in
set_option maxHeartbeats 6400000 in
theorem rtake_b {v : Value} {A : Ar} (hV : Valid A []) (w : World) (h1 : IsA w v A) : Calls Try.prog 13 #[v] w fun e w' => ∃ v, e = .returned (.tuple #[v, .int .i64 0, .int .i64 18]) ∧ ResA Ar.zero w v w' := by
  have CK := fun (W : World) (u : Value) (hu : IsA W u A) => rchk_is W hu (ChkA.good hV)
  have FR := fun (W : World) (u : Value) (hu : IsA W u A) => rfree_is W hu (by have := hV.most; omega) (Or.inl ⟨_, rfl, hV.freeL⟩)
  have HA := Lib.hid h1
  obtain ⟨v1, v2, rfl, g1, g2⟩ := id h1
  obtain ⟨a1, c1, rfl, hr1⟩ := id g1; obtain ⟨a2, c2, rfl, hr2⟩ := id g2
  have m1 := hr1.most; have r1 := hr1.room; have m2 := hr2.most; have r2 := hr2.room; have H1 := Lib.hid g1; have H2 := Lib.hid g2
  clear hr1 hr2 g1 g2 h1
  have BI := fun W => build_ar0 W; have SA := Lib.hid (size_ar (.slice a1 A.nx.length c1) (.slice a2 A.us.length c2) (.int .i64 A.fr))
  go_enter Try.func13, Try.ntmps13
  go_upto_region 1 with fail
  refine F_gen (F := fun W => Code.wp _ _ _ _ W) (J := fun W => Box W (w.heap.size) ([.slice a1 A.nx.length c1, .slice a2 A.us.length c2, .int .i64 A.fr]) ∧ Box W (w.heap.size + 1) (ar0) ∧ Below w.heap.size w W) (And.intro (Box.alloc (Box.newc rfl rfl) _) (And.intro (Box.newc rfl (by simp)) (by go_grown))) ?_
  intro w0 ⟨e_a, e_r, hB0⟩
  have hs0 := hB0.size
  have x_a0 := e_a; clear e_a
  have x_r0 := e_r; clear e_r
  go_wp2_with (refine wpList_load_box9 rfl _ _ rfl x_a0 rfl Try.underlying25 rfl SA.out ?_)
  refine (CK _ _ (HA.out.below hB0)).mono ?_
  rintro e w1 ⟨rfl, hb⟩
  have hB1 : Below w.heap.size w w1 := below_thru hB0 hb
  have hs1 := hB1.size
  have x_a1 : Box w1 (w.heap.size) ([.slice a1 A.nx.length c1, .slice a2 A.us.length c2, .int .i64 A.fr]) := Box.below x_a0 hb
  have x_r1 : Box w1 (w.heap.size + 1) (ar0) := Box.below x_r0 hb
  clear hB0 hs0 x_a0 x_r0
  clear hb
  go_wp2_with (refine wpList_load_box9 rfl _ _ rfl x_a1 rfl Try.underlying25 rfl SA.out ?_)
  refine (FR _ _ (HA.out.below hB1)).mono ?_
  rintro e w2 ⟨u, rfl, hI, hO, hb⟩
  have hB2 : Below w.heap.size w w2 := below_thru hB1 hb
  have hs2 := hB2.size
  have x_a2 : Box w2 (w.heap.size) ([.slice a1 A.nx.length c1, .slice a2 A.us.length c2, .int .i64 A.fr]) := Box.below x_a1 hb
  have x_r2 : Box w2 (w.heap.size + 1) (ar0) := Box.below x_r1 hb
  clear hB1 hs1 x_a1 x_r1
  clear hb
  obtain ⟨ua, uc, rfl, hru⟩ := hI
  clear hru hO
  have e0 : (nums (Option.getD (some []) [])).length = 0 := rfl
  rw [e0]; clear e0
  have lq := (x_r2).lt
  go_wp2_with (first | (refine wpList_build9 rfl 25 _ rfl (us := #[]) (by rfl) (BI _) ?_) | (refine wpList_store_box (cs := ar0) rfl _ _ _ rfl x_r2 rfl rfl size_ar0 rfl one_ar0 ?_; intro W99 hW99))
  exact bodyPost_ret (results_box3 Try.results13 hW99.box rfl rfl rfl Try.underlying25 rfl size_ar0) rfl ⟨_, rfl, isA_zero _, fresh_zero _, hW99.below _ _ (by omega) hB2⟩

set_option maxRecDepth 100000 in
set_option maxHeartbeats 6400000 in
theorem rtake_c {v : Value} {A : Ar} {i : Nat} (hV : Valid A [i]) (hx : A.nx[i]? = some (-1)) (w : World) (h1 : IsA w v A) : Calls Try.prog 13 #[v] w fun e w' => ∃ v, e = .returned (.tuple #[v, .int .i64 (i : Int), .int .i64 0]) ∧ ResA (A.took i (-1)) w v w' := by
  have CK := fun (W : World) (u : Value) (h : IsA W u A) => rchk_is W h (ChkA.good hV); have CP := fun (W : World) (u : Value) (h : IsA W u A) => rtwin_is W h ⟨by have := hV.most; omega, by have := hV.most; have := hV.len; omega⟩
  have FR := fun (W : World) (u : Value) (hu : IsA W u A) => rfree_is W hu (by have := hV.most; omega) (Or.inl ⟨_, rfl, hV.freeL⟩)
  have hf := hV.head.1; have hi := hV.head.2.1; have hp := hV.pos; have hu := hV.len; have hle := hV.le; have hmm := hV.most
  have HA := Lib.hid h1
  obtain ⟨v1, v2, rfl, g1, g2⟩ := id h1
  obtain ⟨a1, c1, rfl, hr1⟩ := id g1; obtain ⟨a2, c2, rfl, hr2⟩ := id g2
  have m1 := hr1.most; have r1 := hr1.room; have m2 := hr2.most; have r2 := hr2.room; have H1 := Lib.hid g1; have H2 := Lib.hid g2
  clear hr1 hr2 g1 g2 h1
  obtain ⟨n, hn⟩ : ∃ n, A.nx.length = n := ⟨_, rfl⟩
  rw [hu] at r2 H2 HA ⊢; rw [hn] at hu hp hi hle hmm r1 r2 H1 H2 HA ⊢; rw [hf] at HA ⊢
  have HN := Lib.hid hn; have HU := Lib.hid hu; have HX := Lib.hid hx; have HF := Lib.hid hf; clear hn hu hf hV hx
  have SA := Lib.hid (size_ar (.slice a1 n c1) (.slice a2 n c2) (.int .i64 (i : Int)))
  have i0 : (0 : Int) ≤ (i : Int) := (by omega); have i1 : (i : Int) < (n : Int) := (by omega)
  have NG := Lib.hid (show i < (A.nx.map (Value.int .i64)).length by rw [List.length_map, HN.out]; exact hi); have NH := Lib.hid (show i < (A.us.map Value.bool).length by rw [List.length_map, HU.out]; exact hi)
  have SG := Lib.hid (set_ints A.nx i (-1)); have SH := Lib.hid (set_bools A.us i true)
  obtain ⟨m, hm⟩ : ∃ m, (nums (Option.getD (some [i]) [])).length = m := ⟨_, rfl⟩
  have hm2 : m = 1 := by rw [← hm]; simp [nums]
  have e1 : ((m : Int) == 0) = false := by rw [beq_eq_false_iff_ne]; omega
  have e2 : decide (1 < (m : Int)) = false := decide_eq_false (by omega)
  have m0 : 0 < m := (by omega)
  have HM := Lib.hid hm; clear hm hm2 hle hmm
  go_enter Try.func13, Try.ntmps13
  go_upto_region 1 with fail
  refine F_gen (F := fun W => Code.wp _ _ _ _ W) (J := fun W => Box W (w.heap.size) ([.slice a1 n c1, .slice a2 n c2, .int .i64 (i : Int)]) ∧ Box W (w.heap.size + 1) (ar0) ∧ Below w.heap.size w W) (And.intro (Box.alloc (Box.newc rfl rfl) _) (And.intro (Box.newc rfl (by simp)) (by go_grown))) ?_
  intro w0 ⟨e_a, e_r, hB0⟩
  have hs0 := hB0.size
  have x_a0 := e_a; clear e_a
  have x_r0 := e_r; clear e_r
  go_wp2_with (refine wpList_load_box9 rfl _ _ rfl x_a0 rfl Try.underlying25 rfl SA.out ?_)
  refine (CK _ _ (HA.out.below hB0)).mono ?_
  rintro e w1 ⟨rfl, hb⟩
  have hB1 : Below w.heap.size w w1 := below_thru hB0 hb
  have hs1 := hB1.size
  have x_a1 : Box w1 (w.heap.size) ([.slice a1 n c1, .slice a2 n c2, .int .i64 (i : Int)]) := Box.below x_a0 hb
  have x_r1 : Box w1 (w.heap.size + 1) (ar0) := Box.below x_r0 hb
  clear hB0 hs0 x_a0 x_r0
  clear hb
  have hX1 := (x_r1).lt
  go_wp2_with (refine wpList_load_box9 rfl _ _ rfl x_a1 rfl Try.underlying25 rfl SA.out ?_)
  refine (FR _ _ (HA.out.below hB1)).mono ?_
  rintro e w2 ⟨u, rfl, hI, hO, hb⟩
  have hB2 : Below w.heap.size w w2 := below_thru hB1 hb
  have hs2 := hB2.size
  have x_a2 : Box w2 (w.heap.size) ([.slice a1 n c1, .slice a2 n c2, .int .i64 (i : Int)]) := Box.below x_a1 hb
  have x_r2 : Box w2 (w.heap.size + 1) (ar0) := Box.below x_r1 hb
  clear hB1 hs1 x_a1 x_r1
  clear hb
  obtain ⟨ua, uc, rfl, hru⟩ := id hI
  rw [HM.out] at hI ⊢
  have mu := hru.most; have mr := hru.room; rw [HM.out] at mr; clear hru
  obtain ⟨b3, o3, rfl, f3⟩ := hI.getI (i := 0) (x := (i : Int)) rfl
  have b3r : b3 ≠ w.heap.size + 1 := (by have := hO b3 rfl; omega)
  clear hO hX1
  have F3 := Lib.hid f3; have l3 := lt_of_cell f3; clear f3 hI
  have K_w2_2 : Below w2.heap.size w2 w2 := Below.refl _ _
  go_upto_region 6 with fail
  go_wp2_with (refine wpList_load_box9 rfl _ _ rfl x_a2 rfl Try.underlying25 rfl SA.out ?_)
  refine (CP _ _ (HA.out.below hB2)).mono ?_
  rintro e w5 ⟨va, vb, rfl, oa, ob, hb⟩
  rw [HF.out]
  obtain ⟨g, c, h, d, rfl, rfl, lg, lh, gh, hc, hd, xg, xh⟩ := own_arena oa ob (by rw [HN.out]; omega) (by rw [HU.out, HN.out])
  have kg : w.heap.size + 2 ≤ g := by have := (x_r2).lt; omega
  have kh : w.heap.size + 2 ≤ h := by have := (x_r2).lt; omega
  have k5 := hb.size
  clear oa ob
  have K_w2_3 : Below w2.heap.size w2 w5 := below_thru K_w2_2 hb
  clear K_w2_2
  have hB3 : Below w.heap.size w w5 := below_thru hB2 hb
  have hs3 := hB3.size
  have x_a3 : Box w5 (w.heap.size) ([.slice a1 n c1, .slice a2 n c2, .int .i64 (i : Int)]) := Box.below x_a2 hb
  have x_r3 : Box w5 (w.heap.size + 1) (ar0) := Box.below x_r2 hb
  clear hB2 hs2 x_a2 x_r2
  clear hb
  rw [HN.out] at hc hd ⊢
  have x_g3 : Box w5 g (A.nx.map (Value.int .i64)) := xg; have x_h3 : Box w5 h (A.us.map Value.bool) := xh; clear xg xh
  have g5 := x_g3.lt; have h5 := x_h3.lt; have kb : w.heap.size + 2 ≤ w5.heap.size := by omega
  have d_b_a := (x_a3).lt
  have d_b_r := (x_r3).lt
  have d_b_g := (x_g3).lt
  have d_b_h := (x_h3).lt
  have d_b_0 := hs3
  go_upto_region 7 with (refine wpList_store_box (cs := [.slice (some ⟨g, 0, none⟩) n c, .slice (some ⟨h, 0, none⟩) n d, .int .i64 (i : Int)]) rfl _ _ _ rfl (Box.newc (l := ar0) rfl rfl) rfl rfl (size_ar _ _ _) rfl (one_ar _ _ _ _ _ _ _) ?_; intro W3_0 hW3_0)
  have hN : Below w5.heap.size w5 W3_0 := (hW3_0.below _ _ (by omega) ((Below.refl _ w5).alloc (Nat.le_refl _) _))
  have x_b4 : Box W3_0 (w5.heap.size) ([.slice (some ⟨g, 0, none⟩) n c, .slice (some ⟨h, 0, none⟩) n d, .int .i64 (i : Int)]) := hW3_0.box
  have K_w2_4 : Below w2.heap.size w2 W3_0 := below_thru K_w2_3 hN
  clear K_w2_3
  have hB4 : Below w.heap.size w W3_0 := below_thru hB3 hN
  have hs4 := hB4.size
  have x_a4 : Box W3_0 (w.heap.size) ([.slice a1 n c1, .slice a2 n c2, .int .i64 (i : Int)]) := Box.below x_a3 hN
  have x_r4 : Box W3_0 (w.heap.size + 1) (ar0) := Box.below x_r3 hN
  have x_g4 : Box W3_0 (g) (A.nx.map (Value.int .i64)) := Box.below x_g3 hN
  have x_h4 : Box W3_0 (h) (A.us.map Value.bool) := Box.below x_h3 hN
  clear hB3 hs3 x_a3 x_r3 x_g3 x_h3
  clear hN hW3_0
  have b3g : b3 ≠ g := by omega
  have b3h : b3 ≠ h := by omega
  clear e1
  have f3 := cell_below K_w2_4 F3.out
  refine wp_region_held_drew (S := fun W => Box W (w.heap.size) ([.slice a1 n c1, .slice a2 n c2, .int .i64 (i : Int)]) ∧ Box W (w.heap.size + 1) (ar0) ∧ Box W (g) (A.nx.map (Value.int .i64)) ∧ Box W (w5.heap.size) ([.slice (some ⟨g, 0, none⟩) n c, .slice (some ⟨h, 0, none⟩) n d, .int .i64 (i : Int)]) ∧ W.cell? ⟨b3, o3, none⟩ = some (.int .i64 (i : Int))) (by kernel_rfl) (And.intro (x_a4).drew (And.intro (x_r4).drew (And.intro (x_g4).drew (And.intro (x_b4).drew f3)))) (fun _ => ?_)
  refine F_drew (F := fun W => wpAnyH _ _ _ _ _ _ _ _ W) ?_
  intro Ws0 hbs0
  clear hs4
  have x_a_s0 : Box Ws0 (w.heap.size) ([.slice a1 n c1, .slice a2 n c2, .int .i64 (i : Int)]) := Box.below x_a4 hbs0
  have x_r_s0 : Box Ws0 (w.heap.size + 1) (ar0) := Box.below x_r4 hbs0
  have x_g_s0 : Box Ws0 (g) (A.nx.map (Value.int .i64)) := Box.below x_g4 hbs0
  have x_b_s0 : Box Ws0 (w5.heap.size) ([.slice (some ⟨g, 0, none⟩) n c, .slice (some ⟨h, 0, none⟩) n d, .int .i64 (i : Int)]) := Box.below x_b4 hbs0
  have c_l_s0 := cell_below hbs0 f3
  have z_h_s0 : Box Ws0 (h) (A.us.map Value.bool) := Box.below x_h4 hbs0
  have Bs0 := below_thru hB4 hbs0
  have K_w2_s0 := below_thru K_w2_4 hbs0
  clear x_a4 x_r4 x_g4 x_b4 f3 x_h4 hB4 K_w2_4 hbs0
  refine takeH 0 25 (v := ?vs0_1) rfl (by rfl) (by kernel_rfl) (by kernel_rfl) (by kernel_rfl) (fun _ _ _ h => h) (Or.inl ⟨by rfl, ?_⟩) ((And.intro x_a_s0 (And.intro x_r_s0 (And.intro x_g_s0 (And.intro x_b_s0 c_l_s0))))) ?_
  rotate_left
  · intro wq hSq
    go_simp
    exact rfl
  try simp only [Act.put, List.setIfInBounds_toArray, List.set_cons_zero, List.set_cons_succ]
  refine takeH 1 26 (v := ?vs1_2) rfl (by rfl) (by kernel_rfl) (by kernel_rfl) (by kernel_rfl) (fun _ _ _ h => h) (Or.inl ⟨by rfl, ?_⟩) ((And.intro x_a_s0 (And.intro x_r_s0 (And.intro x_g_s0 (And.intro x_b_s0 c_l_s0))))) ?_
  rotate_left
  · intro wq hSq
    have cq := (hSq.2.2.2.1).c 1 _ rfl
    have zq := lt_of_cell cq
    go_simp
    exact rfl
  try simp only [Act.put, List.setIfInBounds_toArray, List.set_cons_zero, List.set_cons_succ]
  refine takeH 2 27 (v := ?vs2_3) rfl (by rfl) (by kernel_rfl) (by kernel_rfl) (by kernel_rfl) (fun _ _ _ h => h) (Or.inl ⟨by rfl, ?_⟩) ((And.intro x_a_s0 (And.intro x_r_s0 (And.intro x_g_s0 (And.intro x_b_s0 c_l_s0))))) ?_
  rotate_left
  · intro wq hSq
    go_simp
    exact rfl
  try simp only [Act.put, List.setIfInBounds_toArray, List.set_cons_zero, List.set_cons_succ]
  refine takeH 3 28 (v := ?vs3_4) rfl (by rfl) (by kernel_rfl) (by kernel_rfl) (by kernel_rfl) (fun _ _ _ h => h) (Or.inl ⟨by rfl, ?_⟩) ((And.intro x_a_s0 (And.intro x_r_s0 (And.intro x_g_s0 (And.intro x_b_s0 c_l_s0))))) ?_
  rotate_left
  · intro wq hSq
    go_simp
    exact rfl
  try simp only [Act.put, List.setIfInBounds_toArray, List.set_cons_zero, List.set_cons_succ]
  refine takeH 4 29 (v := ?vs4_5) rfl (by rfl) (by kernel_rfl) (by kernel_rfl) (by kernel_rfl) (fun _ _ _ h => h) (Or.inl ⟨by rfl, ?_⟩) ((And.intro x_a_s0 (And.intro x_r_s0 (And.intro x_g_s0 (And.intro x_b_s0 c_l_s0))))) ?_
  rotate_left
  · intro wq hSq
    have cq := hSq.2.2.2.2
    have zq := lt_of_cell cq
    go_simp
    exact rfl
  try simp only [Act.put, List.setIfInBounds_toArray, List.set_cons_zero, List.set_cons_succ]
  refine takeH 5 30 (v := ?vs5_6) rfl (by rfl) (by kernel_rfl) (by kernel_rfl) (by kernel_rfl) (fun _ _ _ h => h) (Or.inl ⟨by rfl, ?_⟩) ((And.intro x_a_s0 (And.intro x_r_s0 (And.intro x_g_s0 (And.intro x_b_s0 c_l_s0))))) ?_
  rotate_left
  · intro wq hSq
    go_simp
    exact rfl
  try simp only [Act.put, List.setIfInBounds_toArray, List.set_cons_zero, List.set_cons_succ]
  refine wpAnyH_ready (rs := [6]) (by kernel_rfl) (by simp) (AllReadyH.cons rfl (fun K hK => ?_) AllReadyH.nil)
  have mz_h := (z_h_s0).lt
  have nz_a := (x_a_s0).lt
  have nz_r := (x_r_s0).lt
  have nz_g := (x_g_s0).lt
  have nz_b := (x_b_s0).lt
  refine step_store_cell0 (k := i) (ws := (A.us.set i true).map Value.bool) (v := .bool true) rfl rfl _ _ _ rfl z_h_s0 rfl rfl rfl rfl size_bl NH.out SH.out ?_
  intro Ws7 hWs7
  have x_a_s7 : Box Ws7 (w.heap.size) ([.slice a1 n c1, .slice a2 n c2, .int .i64 (i : Int)]) := hWs7.past _ _ (by omega) x_a_s0
  have x_r_s7 : Box Ws7 (w.heap.size + 1) (ar0) := hWs7.past _ _ (by omega) x_r_s0
  have x_g_s7 : Box Ws7 (g) (A.nx.map (Value.int .i64)) := hWs7.past _ _ (by omega) x_g_s0
  have x_b_s7 : Box Ws7 (w5.heap.size) ([.slice (some ⟨g, 0, none⟩) n c, .slice (some ⟨h, 0, none⟩) n d, .int .i64 (i : Int)]) := hWs7.past _ _ (by omega) x_b_s0
  have c_l_s7 := hWs7.cell _ _ _ (by omega) c_l_s0
  have z_h_s7 := hWs7.box
  have Bs7 := hWs7.below _ _ (by omega) Bs0
  have K_w2_s7 := hWs7.below _ _ (by have := Below.size K_w2_s0; omega) K_w2_s0
  clear nz_a nz_r nz_g nz_b x_a_s0 x_r_s0 x_g_s0 x_b_s0 c_l_s0 z_h_s0 Bs0 K_w2_s0 hWs7
  refine hK.out _ _ (And.intro x_a_s7 (And.intro x_r_s7 (And.intro x_g_s7 (And.intro x_b_s7 c_l_s7)))) (fun _ => ?_); clear hK K
  refine wpAnyH_done (by kernel_rfl) ?_ _
  have hB5 := Bs7; have hs5 := hB5.size
  have x_a5 := x_a_s7
  have x_r5 := x_r_s7
  have x_g5 := x_g_s7
  have x_b5 := x_b_s7
  have x_h5 := z_h_s7
  have K_w2_5 := K_w2_s7
  clear Bs7 x_a_s7 x_r_s7 x_g_s7 x_b_s7 z_h_s7 K_w2_s7
  go_upto_region 8 with fail
  have f3 := cell_below K_w2_5 F3.out
  refine wp_region_held_drew (S := fun W => Box W (w.heap.size) ([.slice a1 n c1, .slice a2 n c2, .int .i64 (i : Int)]) ∧ Box W (w.heap.size + 1) (ar0) ∧ Box W (h) ((A.us.set i true).map Value.bool) ∧ Box W (w5.heap.size) ([.slice (some ⟨g, 0, none⟩) n c, .slice (some ⟨h, 0, none⟩) n d, .int .i64 (i : Int)]) ∧ W.cell? ⟨b3, o3, none⟩ = some (.int .i64 (i : Int))) (by kernel_rfl) (And.intro (x_a5).drew (And.intro (x_r5).drew (And.intro (x_h5).drew (And.intro (x_b5).drew f3)))) (fun _ => ?_)
  refine F_drew (F := fun W => wpAnyH _ _ _ _ _ _ _ _ W) ?_
  intro Wu0 hbu0
  clear hs5
  have x_a_u0 : Box Wu0 (w.heap.size) ([.slice a1 n c1, .slice a2 n c2, .int .i64 (i : Int)]) := Box.below x_a5 hbu0
  have x_r_u0 : Box Wu0 (w.heap.size + 1) (ar0) := Box.below x_r5 hbu0
  have x_h_u0 : Box Wu0 (h) ((A.us.set i true).map Value.bool) := Box.below x_h5 hbu0
  have x_b_u0 : Box Wu0 (w5.heap.size) ([.slice (some ⟨g, 0, none⟩) n c, .slice (some ⟨h, 0, none⟩) n d, .int .i64 (i : Int)]) := Box.below x_b5 hbu0
  have c_l_u0 := cell_below hbu0 f3
  have z_g_u0 : Box Wu0 (g) (A.nx.map (Value.int .i64)) := Box.below x_g5 hbu0
  have Bu0 := below_thru hB5 hbu0
  have K_w2_u0 := below_thru K_w2_5 hbu0
  clear x_a5 x_r5 x_h5 x_b5 f3 x_g5 hB5 K_w2_5 hbu0
  refine takeH 0 31 (v := ?vu0_1) rfl (by rfl) (by kernel_rfl) (by kernel_rfl) (by kernel_rfl) (fun _ _ _ h => h) (Or.inl ⟨by rfl, ?_⟩) ((And.intro x_a_u0 (And.intro x_r_u0 (And.intro x_h_u0 (And.intro x_b_u0 c_l_u0))))) ?_
  rotate_left
  · intro wq hSq
    go_simp
    exact rfl
  try simp only [Act.put, List.setIfInBounds_toArray, List.set_cons_zero, List.set_cons_succ]
  refine takeH 1 32 (v := ?vu1_2) rfl (by rfl) (by kernel_rfl) (by kernel_rfl) (by kernel_rfl) (fun _ _ _ h => h) (Or.inl ⟨by rfl, ?_⟩) ((And.intro x_a_u0 (And.intro x_r_u0 (And.intro x_h_u0 (And.intro x_b_u0 c_l_u0))))) ?_
  rotate_left
  · intro wq hSq
    have cq := (hSq.2.2.2.1).c 0 _ rfl
    have zq := lt_of_cell cq
    go_simp
    exact rfl
  try simp only [Act.put, List.setIfInBounds_toArray, List.set_cons_zero, List.set_cons_succ]
  refine takeH 2 33 (v := ?vu2_3) rfl (by rfl) (by kernel_rfl) (by kernel_rfl) (by kernel_rfl) (fun _ _ _ h => h) (Or.inl ⟨by rfl, ?_⟩) ((And.intro x_a_u0 (And.intro x_r_u0 (And.intro x_h_u0 (And.intro x_b_u0 c_l_u0))))) ?_
  rotate_left
  · intro wq hSq
    go_simp
    exact rfl
  try simp only [Act.put, List.setIfInBounds_toArray, List.set_cons_zero, List.set_cons_succ]
  refine takeH 3 34 (v := ?vu3_4) rfl (by rfl) (by kernel_rfl) (by kernel_rfl) (by kernel_rfl) (fun _ _ _ h => h) (Or.inl ⟨by rfl, ?_⟩) ((And.intro x_a_u0 (And.intro x_r_u0 (And.intro x_h_u0 (And.intro x_b_u0 c_l_u0))))) ?_
  rotate_left
  · intro wq hSq
    go_simp
    exact rfl
  try simp only [Act.put, List.setIfInBounds_toArray, List.set_cons_zero, List.set_cons_succ]
  refine takeH 4 35 (v := ?vu4_5) rfl (by rfl) (by kernel_rfl) (by kernel_rfl) (by kernel_rfl) (fun _ _ _ h => h) (Or.inl ⟨by rfl, ?_⟩) ((And.intro x_a_u0 (And.intro x_r_u0 (And.intro x_h_u0 (And.intro x_b_u0 c_l_u0))))) ?_
  rotate_left
  · intro wq hSq
    have cq := hSq.2.2.2.2
    have zq := lt_of_cell cq
    go_simp
    exact rfl
  try simp only [Act.put, List.setIfInBounds_toArray, List.set_cons_zero, List.set_cons_succ]
  refine takeH 5 36 (v := ?vu5_6) rfl (by rfl) (by kernel_rfl) (by kernel_rfl) (by kernel_rfl) (fun _ _ _ h => h) (Or.inl ⟨by rfl, ?_⟩) ((And.intro x_a_u0 (And.intro x_r_u0 (And.intro x_h_u0 (And.intro x_b_u0 c_l_u0))))) ?_
  rotate_left
  · intro wq hSq
    go_simp
    exact rfl
  try simp only [Act.put, List.setIfInBounds_toArray, List.set_cons_zero, List.set_cons_succ]
  refine wpAnyH_ready (rs := [6]) (by kernel_rfl) (by simp) (AllReadyH.cons rfl (fun K hK => ?_) AllReadyH.nil)
  have mz_g := (z_g_u0).lt
  have nz_a := (x_a_u0).lt
  have nz_r := (x_r_u0).lt
  have nz_h := (x_h_u0).lt
  have nz_b := (x_b_u0).lt
  refine step_store_cell0 (k := i) (ws := (A.nx.set i (-1)).map (Value.int .i64)) (v := .int .i64 (-1)) rfl rfl _ _ _ rfl z_g_u0 rfl rfl rfl rfl size_in NG.out SG.out ?_
  intro Wu7 hWu7
  have x_a_u7 : Box Wu7 (w.heap.size) ([.slice a1 n c1, .slice a2 n c2, .int .i64 (i : Int)]) := hWu7.past _ _ (by omega) x_a_u0
  have x_r_u7 : Box Wu7 (w.heap.size + 1) (ar0) := hWu7.past _ _ (by omega) x_r_u0
  have x_h_u7 : Box Wu7 (h) ((A.us.set i true).map Value.bool) := hWu7.past _ _ (by omega) x_h_u0
  have x_b_u7 : Box Wu7 (w5.heap.size) ([.slice (some ⟨g, 0, none⟩) n c, .slice (some ⟨h, 0, none⟩) n d, .int .i64 (i : Int)]) := hWu7.past _ _ (by omega) x_b_u0
  have c_l_u7 := hWu7.cell _ _ _ (by omega) c_l_u0
  have z_g_u7 := hWu7.box
  have Bu7 := hWu7.below _ _ (by omega) Bu0
  have K_w2_u7 := hWu7.below _ _ (by have := Below.size K_w2_u0; omega) K_w2_u0
  clear nz_a nz_r nz_h nz_b x_a_u0 x_r_u0 x_h_u0 x_b_u0 c_l_u0 z_g_u0 Bu0 K_w2_u0 hWu7
  refine hK.out _ _ (And.intro x_a_u7 (And.intro x_r_u7 (And.intro x_h_u7 (And.intro x_b_u7 c_l_u7)))) (fun _ => ?_); clear hK K
  refine wpAnyH_done (by kernel_rfl) ?_ _
  have hB6 := Bu7; have hs6 := hB6.size
  have x_a6 := x_a_u7
  have x_r6 := x_r_u7
  have x_h6 := x_h_u7
  have x_b6 := x_b_u7
  have x_g6 := z_g_u7
  have K_w2_6 := K_w2_u7
  clear Bu7 x_a_u7 x_r_u7 x_h_u7 x_b_u7 z_g_u7 K_w2_u7
  have lr_a := (x_a6).lt
  have lr_r := (x_r6).lt
  have lr_g := (x_g6).lt
  have lr_h := (x_h6).lt
  have lr_b := (x_b6).lt
  go_upto_region 10 with (refine wpList_store_cell (k := 2) (ws := [.slice (some ⟨g, 0, none⟩) n c, .slice (some ⟨h, 0, none⟩) n d, .int .i64 (-1)]) (v := .int .i64 (-1)) rfl _ _ _ rfl x_b6 rfl rfl rfl rfl size_in (show 2 < 3 by decide) rfl ?_; intro W87 hW87)
  have x_a7 : Box W87 (w.heap.size) ([.slice a1 n c1, .slice a2 n c2, .int .i64 (i : Int)]) := hW87.past _ _ (by omega) x_a6
  have x_r7 : Box W87 (w.heap.size + 1) (ar0) := hW87.past _ _ (by omega) x_r6
  have x_g7 : Box W87 (g) ((A.nx.set i (-1)).map (Value.int .i64)) := hW87.past _ _ (by omega) x_g6
  have x_h7 : Box W87 (h) ((A.us.set i true).map Value.bool) := hW87.past _ _ (by omega) x_h6
  have x_b7 : Box W87 (w5.heap.size) ([.slice (some ⟨g, 0, none⟩) n c, .slice (some ⟨h, 0, none⟩) n d, .int .i64 (-1)]) := hW87.box
  have hB7 : Below w.heap.size w W87 := hW87.below _ _ (by omega) hB6; have hs7 := hB7.size
  have K_w2_7 := hW87.below _ _ (by have := Below.size K_w2_6; omega) K_w2_6
  clear hW87 hB6 hs6 x_a6 x_r6 x_g6 x_h6 x_b6 lr_a lr_r lr_g lr_h lr_b  K_w2_6
  go_upto_region 12 with fail
  have f3 := cell_below K_w2_7 F3.out; clear e2
  clear K_w2_7
  refine wp_region_held_drew (S := fun W => Box W (w.heap.size) ([.slice a1 n c1, .slice a2 n c2, .int .i64 (i : Int)]) ∧ Box W (g) ((A.nx.set i (-1)).map (Value.int .i64)) ∧ Box W (h) ((A.us.set i true).map Value.bool) ∧ Box W (w5.heap.size) ([.slice (some ⟨g, 0, none⟩) n c, .slice (some ⟨h, 0, none⟩) n d, .int .i64 (-1)]) ∧ W.cell? ⟨b3, o3, none⟩ = some (.int .i64 (i : Int))) (by kernel_rfl) (And.intro (x_a7).drew (And.intro (x_g7).drew (And.intro (x_h7).drew (And.intro (x_b7).drew f3)))) (fun _ => ?_)
  refine F_drew (F := fun W => wpAnyH _ _ _ _ _ _ _ _ W) ?_
  intro Wx0 hbx0
  clear hs7
  have x_a_x0 : Box Wx0 (w.heap.size) ([.slice a1 n c1, .slice a2 n c2, .int .i64 (i : Int)]) := Box.below x_a7 hbx0
  have x_g_x0 : Box Wx0 (g) ((A.nx.set i (-1)).map (Value.int .i64)) := Box.below x_g7 hbx0
  have x_h_x0 : Box Wx0 (h) ((A.us.set i true).map Value.bool) := Box.below x_h7 hbx0
  have x_b_x0 : Box Wx0 (w5.heap.size) ([.slice (some ⟨g, 0, none⟩) n c, .slice (some ⟨h, 0, none⟩) n d, .int .i64 (-1)]) := Box.below x_b7 hbx0
  have c_l_x0 := cell_below hbx0 f3
  have z_r_x0 : Box Wx0 (w.heap.size + 1) (ar0) := Box.below x_r7 hbx0
  have Bx0 := below_thru hB7 hbx0
  clear x_a7 x_g7 x_h7 x_b7 f3 x_r7 hB7 hbx0
  refine takeH 1 46 (v := ?vx1_1) rfl (by rfl) (by kernel_rfl) (by kernel_rfl) (by kernel_rfl) (fun _ _ _ h => h) (Or.inl ⟨by rfl, ?_⟩) ((And.intro x_a_x0 (And.intro x_g_x0 (And.intro x_h_x0 (And.intro x_b_x0 c_l_x0))))) ?_
  rotate_left
  · intro wq hSq
    go_simp
    exact rfl
  try simp only [Act.put, List.setIfInBounds_toArray, List.set_cons_zero, List.set_cons_succ]
  refine takeH 2 47 (v := ?vx2_2) rfl (by rfl) (by kernel_rfl) (by kernel_rfl) (by kernel_rfl) (fun _ _ _ h => h) (Or.inl ⟨by rfl, ?_⟩) ((And.intro x_a_x0 (And.intro x_g_x0 (And.intro x_h_x0 (And.intro x_b_x0 c_l_x0))))) ?_
  rotate_left
  · intro wq hSq
    go_simp
    exact rfl
  try simp only [Act.put, List.setIfInBounds_toArray, List.set_cons_zero, List.set_cons_succ]
  refine takeH 3 48 (v := ?vx3_3) rfl (by rfl) (by kernel_rfl) (by kernel_rfl) (by kernel_rfl) (fun _ _ _ h => h) (Or.inl ⟨by rfl, ?_⟩) ((And.intro x_a_x0 (And.intro x_g_x0 (And.intro x_h_x0 (And.intro x_b_x0 c_l_x0))))) ?_
  rotate_left
  · intro wq hSq
    have cq := hSq.2.2.2.2
    have zq := lt_of_cell cq
    go_simp
    exact rfl
  try simp only [Act.put, List.setIfInBounds_toArray, List.set_cons_zero, List.set_cons_succ]
  refine takeH 0 45 (v := .agg ([.slice (some ⟨g, 0, none⟩) n c, .slice (some ⟨h, 0, none⟩) n d, .int .i64 (-1)]).toArray) rfl (by rfl) (by kernel_rfl) (by kernel_rfl) (by kernel_rfl) (fun _ _ _ h => h) (yieldsIf_load_mid (by rfl) _ _ rfl _ _ rfl ([.slice (some ⟨g, 0, none⟩) n c, .slice (some ⟨h, 0, none⟩) n d, .int .i64 (-1)]) _ (fun wq hq => Box.range (hq.2.2.2.1)) Try.underlying25 rfl (size_ar _ _ _)) ((And.intro x_a_x0 (And.intro x_g_x0 (And.intro x_h_x0 (And.intro x_b_x0 c_l_x0))))) ?_
  try simp only [Act.put, List.setIfInBounds_toArray, List.set_cons_zero, List.set_cons_succ]
  refine wpAnyH_ready (rs := [4]) (by kernel_rfl) (by simp) (AllReadyH.cons rfl (fun K hK => ?_) AllReadyH.nil)
  have mz_r := (z_r_x0).lt
  have nz_a := (x_a_x0).lt
  have nz_g := (x_g_x0).lt
  have nz_h := (x_h_x0).lt
  have nz_b := (x_b_x0).lt
  refine step_store_box0 (cs := [.slice (some ⟨g, 0, none⟩) n c, .slice (some ⟨h, 0, none⟩) n d, .int .i64 (-1)]) rfl rfl _ _ _ rfl z_r_x0 rfl rfl (size_ar _ _ _) rfl (one_ar _ _ _ _ _ _ _) ?_
  intro Wx4 hWx4
  have x_a_x4 : Box Wx4 (w.heap.size) ([.slice a1 n c1, .slice a2 n c2, .int .i64 (i : Int)]) := hWx4.past _ _ (by omega) x_a_x0
  have x_g_x4 : Box Wx4 (g) ((A.nx.set i (-1)).map (Value.int .i64)) := hWx4.past _ _ (by omega) x_g_x0
  have x_h_x4 : Box Wx4 (h) ((A.us.set i true).map Value.bool) := hWx4.past _ _ (by omega) x_h_x0
  have x_b_x4 : Box Wx4 (w5.heap.size) ([.slice (some ⟨g, 0, none⟩) n c, .slice (some ⟨h, 0, none⟩) n d, .int .i64 (-1)]) := hWx4.past _ _ (by omega) x_b_x0
  have c_l_x4 := hWx4.cell _ _ _ (by omega) c_l_x0
  have z_r_x4 := hWx4.box
  have Bx4 := hWx4.below _ _ (by omega) Bx0
  clear nz_a nz_g nz_h nz_b x_a_x0 x_g_x0 x_h_x0 x_b_x0 c_l_x0 z_r_x0 Bx0 hWx4
  refine hK.out _ _ (And.intro x_a_x4 (And.intro x_g_x4 (And.intro x_h_x4 (And.intro x_b_x4 c_l_x4)))) (fun _ => ?_); clear hK K
  refine takeH 5 3 (v := ?vx5_5) rfl (by rfl) (by kernel_rfl) (by kernel_rfl) (by kernel_rfl) (fun _ _ _ h => h) (Or.inl ⟨by rfl, ?_⟩) ((And.intro x_a_x4 (And.intro x_g_x4 (And.intro x_h_x4 (And.intro x_b_x4 c_l_x4))))) ?_
  rotate_left
  · intro wq hSq
    go_simp
    exact rfl
  try simp only [Act.put, List.setIfInBounds_toArray, List.set_cons_zero, List.set_cons_succ]
  refine takeH 6 4 (v := ?vx6_6) rfl (by rfl) (by kernel_rfl) (by kernel_rfl) (by kernel_rfl) (fun _ _ _ h => h) (Or.inl ⟨by rfl, ?_⟩) ((And.intro x_a_x4 (And.intro x_g_x4 (And.intro x_h_x4 (And.intro x_b_x4 c_l_x4))))) ?_
  rotate_left
  · intro wq hSq
    go_simp
    exact rfl
  try simp only [Act.put, List.setIfInBounds_toArray, List.set_cons_zero, List.set_cons_succ]
  refine wpAnyH_done (by kernel_rfl) ?_ _
  have yg := x_g_x4; have yh := x_h_x4
  go_wp2_with fail
  exact bodyPost_ret (results_box3 Try.results13 z_r_x4 rfl rfl rfl Try.underlying25 rfl (size_ar _ _ _)) rfl ⟨_, rfl, IsA.boxes (A := A.took i (-1)) yg yh rfl (by simp [Ar.took, HN.out]) (by simp [Ar.took, HU.out]) hc hd, fresh_boxes (by omega) (by omega), Bx4⟩

set_option maxRecDepth 100000 in
set_option maxHeartbeats 6400000 in
theorem rtake_d {v : Value} {A : Ar} {i j : Nat} {r : List Nat} (hV : Valid A (i :: j :: r)) (hx : A.nx[i]? = some (j : Int)) (w : World) (h1 : IsA w v A) : Calls Try.prog 13 #[v] w fun e w' => ∃ v, e = .returned (.tuple #[v, .int .i64 (i : Int), .int .i64 0]) ∧ ResA (A.took i (j : Int)) w v w' := by
  have CK := fun (W : World) (u : Value) (h : IsA W u A) => rchk_is W h (ChkA.good hV); have CP := fun (W : World) (u : Value) (h : IsA W u A) => rtwin_is W h ⟨by have := hV.most; omega, by have := hV.most; have := hV.len; omega⟩
  have FR := fun (W : World) (u : Value) (hu : IsA W u A) => rfree_is W hu (by have := hV.most; omega) (Or.inl ⟨_, rfl, hV.freeL⟩)
  have hf := hV.head.1; have hi := hV.head.2.1; have hp := hV.pos; have hu := hV.len; have hle := hV.le; have hmm := hV.most
  have HA := Lib.hid h1
  obtain ⟨v1, v2, rfl, g1, g2⟩ := id h1
  obtain ⟨a1, c1, rfl, hr1⟩ := id g1; obtain ⟨a2, c2, rfl, hr2⟩ := id g2
  have m1 := hr1.most; have r1 := hr1.room; have m2 := hr2.most; have r2 := hr2.room; have H1 := Lib.hid g1; have H2 := Lib.hid g2
  clear hr1 hr2 g1 g2 h1
  obtain ⟨n, hn⟩ : ∃ n, A.nx.length = n := ⟨_, rfl⟩
  rw [hu] at r2 H2 HA ⊢; rw [hn] at hu hp hi hle hmm r1 r2 H1 H2 HA ⊢; rw [hf] at HA ⊢
  have HN := Lib.hid hn; have HU := Lib.hid hu; have HX := Lib.hid hx; have HF := Lib.hid hf; clear hn hu hf hV hx
  have SA := Lib.hid (size_ar (.slice a1 n c1) (.slice a2 n c2) (.int .i64 (i : Int)))
  have i0 : (0 : Int) ≤ (i : Int) := (by omega); have i1 : (i : Int) < (n : Int) := (by omega)
  have NG := Lib.hid (show i < (A.nx.map (Value.int .i64)).length by rw [List.length_map, HN.out]; exact hi); have NH := Lib.hid (show i < (A.us.map Value.bool).length by rw [List.length_map, HU.out]; exact hi)
  have SG := Lib.hid (set_ints A.nx i (-1)); have SH := Lib.hid (set_bools A.us i true)
  obtain ⟨m, hm⟩ : ∃ m, (nums (Option.getD (some (i :: j :: r)) [])).length = m := ⟨_, rfl⟩
  have hm2 : m = r.length + 2 := by rw [← hm]; simp [nums]
  have e1 : ((m : Int) == 0) = false := by rw [beq_eq_false_iff_ne]; omega
  have e2 : decide (1 < (m : Int)) = true := decide_eq_true (by omega)
  have m0 : 0 < m := (by omega); have m1' : 1 < m := (by omega)
  have HM := Lib.hid hm; clear hm hm2 hle hmm
  go_enter Try.func13, Try.ntmps13
  go_upto_region 1 with fail
  refine F_gen (F := fun W => Code.wp _ _ _ _ W) (J := fun W => Box W (w.heap.size) ([.slice a1 n c1, .slice a2 n c2, .int .i64 (i : Int)]) ∧ Box W (w.heap.size + 1) (ar0) ∧ Below w.heap.size w W) (And.intro (Box.alloc (Box.newc rfl rfl) _) (And.intro (Box.newc rfl (by simp)) (by go_grown))) ?_
  intro w0 ⟨e_a, e_r, hB0⟩
  have hs0 := hB0.size
  have x_a0 := e_a; clear e_a
  have x_r0 := e_r; clear e_r
  go_wp2_with (refine wpList_load_box9 rfl _ _ rfl x_a0 rfl Try.underlying25 rfl SA.out ?_)
  refine (CK _ _ (HA.out.below hB0)).mono ?_
  rintro e w1 ⟨rfl, hb⟩
  have hB1 : Below w.heap.size w w1 := below_thru hB0 hb
  have hs1 := hB1.size
  have x_a1 : Box w1 (w.heap.size) ([.slice a1 n c1, .slice a2 n c2, .int .i64 (i : Int)]) := Box.below x_a0 hb
  have x_r1 : Box w1 (w.heap.size + 1) (ar0) := Box.below x_r0 hb
  clear hB0 hs0 x_a0 x_r0
  clear hb
  have hX1 := (x_r1).lt
  go_wp2_with (refine wpList_load_box9 rfl _ _ rfl x_a1 rfl Try.underlying25 rfl SA.out ?_)
  refine (FR _ _ (HA.out.below hB1)).mono ?_
  rintro e w2 ⟨u, rfl, hI, hO, hb⟩
  have hB2 : Below w.heap.size w w2 := below_thru hB1 hb
  have hs2 := hB2.size
  have x_a2 : Box w2 (w.heap.size) ([.slice a1 n c1, .slice a2 n c2, .int .i64 (i : Int)]) := Box.below x_a1 hb
  have x_r2 : Box w2 (w.heap.size + 1) (ar0) := Box.below x_r1 hb
  clear hB1 hs1 x_a1 x_r1
  clear hb
  obtain ⟨ua, uc, rfl, hru⟩ := id hI
  rw [HM.out] at hI ⊢
  have mu := hru.most; have mr := hru.room; rw [HM.out] at mr; clear hru
  obtain ⟨b3, o3, rfl, f3⟩ := hI.getI (i := 0) (x := (i : Int)) rfl
  have b3r : b3 ≠ w.heap.size + 1 := (by have := hO b3 rfl; omega)
  clear hO hX1
  obtain ⟨b4, o4, eb, f4⟩ := hI.getI (i := 1) (x := (j : Int)) rfl
  cases eb
  have F4 := Lib.hid f4; clear f4
  have F3 := Lib.hid f3; have l3 := lt_of_cell f3; clear f3 hI
  have K_w2_2 : Below w2.heap.size w2 w2 := Below.refl _ _
  go_upto_region 6 with fail
  go_wp2_with (refine wpList_load_box9 rfl _ _ rfl x_a2 rfl Try.underlying25 rfl SA.out ?_)
  refine (CP _ _ (HA.out.below hB2)).mono ?_
  rintro e w5 ⟨va, vb, rfl, oa, ob, hb⟩
  rw [HF.out]
  obtain ⟨g, c, h, d, rfl, rfl, lg, lh, gh, hc, hd, xg, xh⟩ := own_arena oa ob (by rw [HN.out]; omega) (by rw [HU.out, HN.out])
  have kg : w.heap.size + 2 ≤ g := by have := (x_r2).lt; omega
  have kh : w.heap.size + 2 ≤ h := by have := (x_r2).lt; omega
  have k5 := hb.size
  clear oa ob
  have K_w2_3 : Below w2.heap.size w2 w5 := below_thru K_w2_2 hb
  clear K_w2_2
  have hB3 : Below w.heap.size w w5 := below_thru hB2 hb
  have hs3 := hB3.size
  have x_a3 : Box w5 (w.heap.size) ([.slice a1 n c1, .slice a2 n c2, .int .i64 (i : Int)]) := Box.below x_a2 hb
  have x_r3 : Box w5 (w.heap.size + 1) (ar0) := Box.below x_r2 hb
  clear hB2 hs2 x_a2 x_r2
  clear hb
  rw [HN.out] at hc hd ⊢
  have x_g3 : Box w5 g (A.nx.map (Value.int .i64)) := xg; have x_h3 : Box w5 h (A.us.map Value.bool) := xh; clear xg xh
  have g5 := x_g3.lt; have h5 := x_h3.lt; have kb : w.heap.size + 2 ≤ w5.heap.size := by omega
  have d_b_a := (x_a3).lt
  have d_b_r := (x_r3).lt
  have d_b_g := (x_g3).lt
  have d_b_h := (x_h3).lt
  have d_b_0 := hs3
  go_upto_region 7 with (refine wpList_store_box (cs := [.slice (some ⟨g, 0, none⟩) n c, .slice (some ⟨h, 0, none⟩) n d, .int .i64 (i : Int)]) rfl _ _ _ rfl (Box.newc (l := ar0) rfl rfl) rfl rfl (size_ar _ _ _) rfl (one_ar _ _ _ _ _ _ _) ?_; intro W3_0 hW3_0)
  have hN : Below w5.heap.size w5 W3_0 := (hW3_0.below _ _ (by omega) ((Below.refl _ w5).alloc (Nat.le_refl _) _))
  have x_b4 : Box W3_0 (w5.heap.size) ([.slice (some ⟨g, 0, none⟩) n c, .slice (some ⟨h, 0, none⟩) n d, .int .i64 (i : Int)]) := hW3_0.box
  have K_w2_4 : Below w2.heap.size w2 W3_0 := below_thru K_w2_3 hN
  clear K_w2_3
  have hB4 : Below w.heap.size w W3_0 := below_thru hB3 hN
  have hs4 := hB4.size
  have x_a4 : Box W3_0 (w.heap.size) ([.slice a1 n c1, .slice a2 n c2, .int .i64 (i : Int)]) := Box.below x_a3 hN
  have x_r4 : Box W3_0 (w.heap.size + 1) (ar0) := Box.below x_r3 hN
  have x_g4 : Box W3_0 (g) (A.nx.map (Value.int .i64)) := Box.below x_g3 hN
  have x_h4 : Box W3_0 (h) (A.us.map Value.bool) := Box.below x_h3 hN
  clear hB3 hs3 x_a3 x_r3 x_g3 x_h3
  clear hN hW3_0
  have b3g : b3 ≠ g := by omega
  have b3h : b3 ≠ h := by omega
  clear e1
  have f3 := cell_below K_w2_4 F3.out
  refine wp_region_held_drew (S := fun W => Box W (w.heap.size) ([.slice a1 n c1, .slice a2 n c2, .int .i64 (i : Int)]) ∧ Box W (w.heap.size + 1) (ar0) ∧ Box W (g) (A.nx.map (Value.int .i64)) ∧ Box W (w5.heap.size) ([.slice (some ⟨g, 0, none⟩) n c, .slice (some ⟨h, 0, none⟩) n d, .int .i64 (i : Int)]) ∧ W.cell? ⟨b3, o3, none⟩ = some (.int .i64 (i : Int))) (by kernel_rfl) (And.intro (x_a4).drew (And.intro (x_r4).drew (And.intro (x_g4).drew (And.intro (x_b4).drew f3)))) (fun _ => ?_)
  refine F_drew (F := fun W => wpAnyH _ _ _ _ _ _ _ _ W) ?_
  intro Ws0 hbs0
  clear hs4
  have x_a_s0 : Box Ws0 (w.heap.size) ([.slice a1 n c1, .slice a2 n c2, .int .i64 (i : Int)]) := Box.below x_a4 hbs0
  have x_r_s0 : Box Ws0 (w.heap.size + 1) (ar0) := Box.below x_r4 hbs0
  have x_g_s0 : Box Ws0 (g) (A.nx.map (Value.int .i64)) := Box.below x_g4 hbs0
  have x_b_s0 : Box Ws0 (w5.heap.size) ([.slice (some ⟨g, 0, none⟩) n c, .slice (some ⟨h, 0, none⟩) n d, .int .i64 (i : Int)]) := Box.below x_b4 hbs0
  have c_l_s0 := cell_below hbs0 f3
  have z_h_s0 : Box Ws0 (h) (A.us.map Value.bool) := Box.below x_h4 hbs0
  have Bs0 := below_thru hB4 hbs0
  have K_w2_s0 := below_thru K_w2_4 hbs0
  clear x_a4 x_r4 x_g4 x_b4 f3 x_h4 hB4 K_w2_4 hbs0
  refine takeH 0 25 (v := ?vs0_1) rfl (by rfl) (by kernel_rfl) (by kernel_rfl) (by kernel_rfl) (fun _ _ _ h => h) (Or.inl ⟨by rfl, ?_⟩) ((And.intro x_a_s0 (And.intro x_r_s0 (And.intro x_g_s0 (And.intro x_b_s0 c_l_s0))))) ?_
  rotate_left
  · intro wq hSq
    go_simp
    exact rfl
  try simp only [Act.put, List.setIfInBounds_toArray, List.set_cons_zero, List.set_cons_succ]
  refine takeH 1 26 (v := ?vs1_2) rfl (by rfl) (by kernel_rfl) (by kernel_rfl) (by kernel_rfl) (fun _ _ _ h => h) (Or.inl ⟨by rfl, ?_⟩) ((And.intro x_a_s0 (And.intro x_r_s0 (And.intro x_g_s0 (And.intro x_b_s0 c_l_s0))))) ?_
  rotate_left
  · intro wq hSq
    have cq := (hSq.2.2.2.1).c 1 _ rfl
    have zq := lt_of_cell cq
    go_simp
    exact rfl
  try simp only [Act.put, List.setIfInBounds_toArray, List.set_cons_zero, List.set_cons_succ]
  refine takeH 2 27 (v := ?vs2_3) rfl (by rfl) (by kernel_rfl) (by kernel_rfl) (by kernel_rfl) (fun _ _ _ h => h) (Or.inl ⟨by rfl, ?_⟩) ((And.intro x_a_s0 (And.intro x_r_s0 (And.intro x_g_s0 (And.intro x_b_s0 c_l_s0))))) ?_
  rotate_left
  · intro wq hSq
    go_simp
    exact rfl
  try simp only [Act.put, List.setIfInBounds_toArray, List.set_cons_zero, List.set_cons_succ]
  refine takeH 3 28 (v := ?vs3_4) rfl (by rfl) (by kernel_rfl) (by kernel_rfl) (by kernel_rfl) (fun _ _ _ h => h) (Or.inl ⟨by rfl, ?_⟩) ((And.intro x_a_s0 (And.intro x_r_s0 (And.intro x_g_s0 (And.intro x_b_s0 c_l_s0))))) ?_
  rotate_left
  · intro wq hSq
    go_simp
    exact rfl
  try simp only [Act.put, List.setIfInBounds_toArray, List.set_cons_zero, List.set_cons_succ]
  refine takeH 4 29 (v := ?vs4_5) rfl (by rfl) (by kernel_rfl) (by kernel_rfl) (by kernel_rfl) (fun _ _ _ h => h) (Or.inl ⟨by rfl, ?_⟩) ((And.intro x_a_s0 (And.intro x_r_s0 (And.intro x_g_s0 (And.intro x_b_s0 c_l_s0))))) ?_
  rotate_left
  · intro wq hSq
    have cq := hSq.2.2.2.2
    have zq := lt_of_cell cq
    go_simp
    exact rfl
  try simp only [Act.put, List.setIfInBounds_toArray, List.set_cons_zero, List.set_cons_succ]
  refine takeH 5 30 (v := ?vs5_6) rfl (by rfl) (by kernel_rfl) (by kernel_rfl) (by kernel_rfl) (fun _ _ _ h => h) (Or.inl ⟨by rfl, ?_⟩) ((And.intro x_a_s0 (And.intro x_r_s0 (And.intro x_g_s0 (And.intro x_b_s0 c_l_s0))))) ?_
  rotate_left
  · intro wq hSq
    go_simp
    exact rfl
  try simp only [Act.put, List.setIfInBounds_toArray, List.set_cons_zero, List.set_cons_succ]
  refine wpAnyH_ready (rs := [6]) (by kernel_rfl) (by simp) (AllReadyH.cons rfl (fun K hK => ?_) AllReadyH.nil)
  have mz_h := (z_h_s0).lt
  have nz_a := (x_a_s0).lt
  have nz_r := (x_r_s0).lt
  have nz_g := (x_g_s0).lt
  have nz_b := (x_b_s0).lt
  refine step_store_cell0 (k := i) (ws := (A.us.set i true).map Value.bool) (v := .bool true) rfl rfl _ _ _ rfl z_h_s0 rfl rfl rfl rfl size_bl NH.out SH.out ?_
  intro Ws7 hWs7
  have x_a_s7 : Box Ws7 (w.heap.size) ([.slice a1 n c1, .slice a2 n c2, .int .i64 (i : Int)]) := hWs7.past _ _ (by omega) x_a_s0
  have x_r_s7 : Box Ws7 (w.heap.size + 1) (ar0) := hWs7.past _ _ (by omega) x_r_s0
  have x_g_s7 : Box Ws7 (g) (A.nx.map (Value.int .i64)) := hWs7.past _ _ (by omega) x_g_s0
  have x_b_s7 : Box Ws7 (w5.heap.size) ([.slice (some ⟨g, 0, none⟩) n c, .slice (some ⟨h, 0, none⟩) n d, .int .i64 (i : Int)]) := hWs7.past _ _ (by omega) x_b_s0
  have c_l_s7 := hWs7.cell _ _ _ (by omega) c_l_s0
  have z_h_s7 := hWs7.box
  have Bs7 := hWs7.below _ _ (by omega) Bs0
  have K_w2_s7 := hWs7.below _ _ (by have := Below.size K_w2_s0; omega) K_w2_s0
  clear nz_a nz_r nz_g nz_b x_a_s0 x_r_s0 x_g_s0 x_b_s0 c_l_s0 z_h_s0 Bs0 K_w2_s0 hWs7
  refine hK.out _ _ (And.intro x_a_s7 (And.intro x_r_s7 (And.intro x_g_s7 (And.intro x_b_s7 c_l_s7)))) (fun _ => ?_); clear hK K
  refine wpAnyH_done (by kernel_rfl) ?_ _
  have hB5 := Bs7; have hs5 := hB5.size
  have x_a5 := x_a_s7
  have x_r5 := x_r_s7
  have x_g5 := x_g_s7
  have x_b5 := x_b_s7
  have x_h5 := z_h_s7
  have K_w2_5 := K_w2_s7
  clear Bs7 x_a_s7 x_r_s7 x_g_s7 x_b_s7 z_h_s7 K_w2_s7
  go_upto_region 8 with fail
  have f3 := cell_below K_w2_5 F3.out
  refine wp_region_held_drew (S := fun W => Box W (w.heap.size) ([.slice a1 n c1, .slice a2 n c2, .int .i64 (i : Int)]) ∧ Box W (w.heap.size + 1) (ar0) ∧ Box W (h) ((A.us.set i true).map Value.bool) ∧ Box W (w5.heap.size) ([.slice (some ⟨g, 0, none⟩) n c, .slice (some ⟨h, 0, none⟩) n d, .int .i64 (i : Int)]) ∧ W.cell? ⟨b3, o3, none⟩ = some (.int .i64 (i : Int))) (by kernel_rfl) (And.intro (x_a5).drew (And.intro (x_r5).drew (And.intro (x_h5).drew (And.intro (x_b5).drew f3)))) (fun _ => ?_)
  refine F_drew (F := fun W => wpAnyH _ _ _ _ _ _ _ _ W) ?_
  intro Wu0 hbu0
  clear hs5
  have x_a_u0 : Box Wu0 (w.heap.size) ([.slice a1 n c1, .slice a2 n c2, .int .i64 (i : Int)]) := Box.below x_a5 hbu0
  have x_r_u0 : Box Wu0 (w.heap.size + 1) (ar0) := Box.below x_r5 hbu0
  have x_h_u0 : Box Wu0 (h) ((A.us.set i true).map Value.bool) := Box.below x_h5 hbu0
  have x_b_u0 : Box Wu0 (w5.heap.size) ([.slice (some ⟨g, 0, none⟩) n c, .slice (some ⟨h, 0, none⟩) n d, .int .i64 (i : Int)]) := Box.below x_b5 hbu0
  have c_l_u0 := cell_below hbu0 f3
  have z_g_u0 : Box Wu0 (g) (A.nx.map (Value.int .i64)) := Box.below x_g5 hbu0
  have Bu0 := below_thru hB5 hbu0
  have K_w2_u0 := below_thru K_w2_5 hbu0
  clear x_a5 x_r5 x_h5 x_b5 f3 x_g5 hB5 K_w2_5 hbu0
  refine takeH 0 31 (v := ?vu0_1) rfl (by rfl) (by kernel_rfl) (by kernel_rfl) (by kernel_rfl) (fun _ _ _ h => h) (Or.inl ⟨by rfl, ?_⟩) ((And.intro x_a_u0 (And.intro x_r_u0 (And.intro x_h_u0 (And.intro x_b_u0 c_l_u0))))) ?_
  rotate_left
  · intro wq hSq
    go_simp
    exact rfl
  try simp only [Act.put, List.setIfInBounds_toArray, List.set_cons_zero, List.set_cons_succ]
  refine takeH 1 32 (v := ?vu1_2) rfl (by rfl) (by kernel_rfl) (by kernel_rfl) (by kernel_rfl) (fun _ _ _ h => h) (Or.inl ⟨by rfl, ?_⟩) ((And.intro x_a_u0 (And.intro x_r_u0 (And.intro x_h_u0 (And.intro x_b_u0 c_l_u0))))) ?_
  rotate_left
  · intro wq hSq
    have cq := (hSq.2.2.2.1).c 0 _ rfl
    have zq := lt_of_cell cq
    go_simp
    exact rfl
  try simp only [Act.put, List.setIfInBounds_toArray, List.set_cons_zero, List.set_cons_succ]
  refine takeH 2 33 (v := ?vu2_3) rfl (by rfl) (by kernel_rfl) (by kernel_rfl) (by kernel_rfl) (fun _ _ _ h => h) (Or.inl ⟨by rfl, ?_⟩) ((And.intro x_a_u0 (And.intro x_r_u0 (And.intro x_h_u0 (And.intro x_b_u0 c_l_u0))))) ?_
  rotate_left
  · intro wq hSq
    go_simp
    exact rfl
  try simp only [Act.put, List.setIfInBounds_toArray, List.set_cons_zero, List.set_cons_succ]
  refine takeH 3 34 (v := ?vu3_4) rfl (by rfl) (by kernel_rfl) (by kernel_rfl) (by kernel_rfl) (fun _ _ _ h => h) (Or.inl ⟨by rfl, ?_⟩) ((And.intro x_a_u0 (And.intro x_r_u0 (And.intro x_h_u0 (And.intro x_b_u0 c_l_u0))))) ?_
  rotate_left
  · intro wq hSq
    go_simp
    exact rfl
  try simp only [Act.put, List.setIfInBounds_toArray, List.set_cons_zero, List.set_cons_succ]
  refine takeH 4 35 (v := ?vu4_5) rfl (by rfl) (by kernel_rfl) (by kernel_rfl) (by kernel_rfl) (fun _ _ _ h => h) (Or.inl ⟨by rfl, ?_⟩) ((And.intro x_a_u0 (And.intro x_r_u0 (And.intro x_h_u0 (And.intro x_b_u0 c_l_u0))))) ?_
  rotate_left
  · intro wq hSq
    have cq := hSq.2.2.2.2
    have zq := lt_of_cell cq
    go_simp
    exact rfl
  try simp only [Act.put, List.setIfInBounds_toArray, List.set_cons_zero, List.set_cons_succ]
  refine takeH 5 36 (v := ?vu5_6) rfl (by rfl) (by kernel_rfl) (by kernel_rfl) (by kernel_rfl) (fun _ _ _ h => h) (Or.inl ⟨by rfl, ?_⟩) ((And.intro x_a_u0 (And.intro x_r_u0 (And.intro x_h_u0 (And.intro x_b_u0 c_l_u0))))) ?_
  rotate_left
  · intro wq hSq
    go_simp
    exact rfl
  try simp only [Act.put, List.setIfInBounds_toArray, List.set_cons_zero, List.set_cons_succ]
  refine wpAnyH_ready (rs := [6]) (by kernel_rfl) (by simp) (AllReadyH.cons rfl (fun K hK => ?_) AllReadyH.nil)
  have mz_g := (z_g_u0).lt
  have nz_a := (x_a_u0).lt
  have nz_r := (x_r_u0).lt
  have nz_h := (x_h_u0).lt
  have nz_b := (x_b_u0).lt
  refine step_store_cell0 (k := i) (ws := (A.nx.set i (-1)).map (Value.int .i64)) (v := .int .i64 (-1)) rfl rfl _ _ _ rfl z_g_u0 rfl rfl rfl rfl size_in NG.out SG.out ?_
  intro Wu7 hWu7
  have x_a_u7 : Box Wu7 (w.heap.size) ([.slice a1 n c1, .slice a2 n c2, .int .i64 (i : Int)]) := hWu7.past _ _ (by omega) x_a_u0
  have x_r_u7 : Box Wu7 (w.heap.size + 1) (ar0) := hWu7.past _ _ (by omega) x_r_u0
  have x_h_u7 : Box Wu7 (h) ((A.us.set i true).map Value.bool) := hWu7.past _ _ (by omega) x_h_u0
  have x_b_u7 : Box Wu7 (w5.heap.size) ([.slice (some ⟨g, 0, none⟩) n c, .slice (some ⟨h, 0, none⟩) n d, .int .i64 (i : Int)]) := hWu7.past _ _ (by omega) x_b_u0
  have c_l_u7 := hWu7.cell _ _ _ (by omega) c_l_u0
  have z_g_u7 := hWu7.box
  have Bu7 := hWu7.below _ _ (by omega) Bu0
  have K_w2_u7 := hWu7.below _ _ (by have := Below.size K_w2_u0; omega) K_w2_u0
  clear nz_a nz_r nz_h nz_b x_a_u0 x_r_u0 x_h_u0 x_b_u0 c_l_u0 z_g_u0 Bu0 K_w2_u0 hWu7
  refine hK.out _ _ (And.intro x_a_u7 (And.intro x_r_u7 (And.intro x_h_u7 (And.intro x_b_u7 c_l_u7)))) (fun _ => ?_); clear hK K
  refine wpAnyH_done (by kernel_rfl) ?_ _
  have hB6 := Bu7; have hs6 := hB6.size
  have x_a6 := x_a_u7
  have x_r6 := x_r_u7
  have x_h6 := x_h_u7
  have x_b6 := x_b_u7
  have x_g6 := z_g_u7
  have K_w2_6 := K_w2_u7
  clear Bu7 x_a_u7 x_r_u7 x_h_u7 x_b_u7 z_g_u7 K_w2_u7
  have lr_a := (x_a6).lt
  have lr_r := (x_r6).lt
  have lr_g := (x_g6).lt
  have lr_h := (x_h6).lt
  have lr_b := (x_b6).lt
  go_upto_region 10 with (refine wpList_store_cell (k := 2) (ws := [.slice (some ⟨g, 0, none⟩) n c, .slice (some ⟨h, 0, none⟩) n d, .int .i64 (-1)]) (v := .int .i64 (-1)) rfl _ _ _ rfl x_b6 rfl rfl rfl rfl size_in (show 2 < 3 by decide) rfl ?_; intro W87 hW87)
  have x_a7 : Box W87 (w.heap.size) ([.slice a1 n c1, .slice a2 n c2, .int .i64 (i : Int)]) := hW87.past _ _ (by omega) x_a6
  have x_r7 : Box W87 (w.heap.size + 1) (ar0) := hW87.past _ _ (by omega) x_r6
  have x_g7 : Box W87 (g) ((A.nx.set i (-1)).map (Value.int .i64)) := hW87.past _ _ (by omega) x_g6
  have x_h7 : Box W87 (h) ((A.us.set i true).map Value.bool) := hW87.past _ _ (by omega) x_h6
  have x_b7 : Box W87 (w5.heap.size) ([.slice (some ⟨g, 0, none⟩) n c, .slice (some ⟨h, 0, none⟩) n d, .int .i64 (-1)]) := hW87.box
  have hB7 : Below w.heap.size w W87 := hW87.below _ _ (by omega) hB6; have hs7 := hB7.size
  have K_w2_7 := hW87.below _ _ (by have := Below.size K_w2_6; omega) K_w2_6
  clear hW87 hB6 hs6 x_a6 x_r6 x_g6 x_h6 x_b6 lr_a lr_r lr_g lr_h lr_b  K_w2_6
  skip
  have f4 := cell_below K_w2_7 F4.out; have z4 := lt_of_cell f4
  have lr_a := (x_a7).lt
  have lr_r := (x_r7).lt
  have lr_g := (x_g7).lt
  have lr_h := (x_h7).lt
  have lr_b := (x_b7).lt
  go_upto_region 12 with (refine wpList_store_cell (k := 2) (ws := [.slice (some ⟨g, 0, none⟩) n c, .slice (some ⟨h, 0, none⟩) n d, .int .i64 (j : Int)]) (v := .int .i64 (j : Int)) rfl _ _ _ rfl x_b7 rfl rfl rfl rfl size_in (show 2 < 3 by decide) rfl ?_; intro W88 hW88)
  have x_a8 : Box W88 (w.heap.size) ([.slice a1 n c1, .slice a2 n c2, .int .i64 (i : Int)]) := hW88.past _ _ (by omega) x_a7
  have x_r8 : Box W88 (w.heap.size + 1) (ar0) := hW88.past _ _ (by omega) x_r7
  have x_g8 : Box W88 (g) ((A.nx.set i (-1)).map (Value.int .i64)) := hW88.past _ _ (by omega) x_g7
  have x_h8 : Box W88 (h) ((A.us.set i true).map Value.bool) := hW88.past _ _ (by omega) x_h7
  have x_b8 : Box W88 (w5.heap.size) ([.slice (some ⟨g, 0, none⟩) n c, .slice (some ⟨h, 0, none⟩) n d, .int .i64 (j : Int)]) := hW88.box
  have hB8 : Below w.heap.size w W88 := hW88.below _ _ (by omega) hB7; have hs8 := hB8.size
  have K_w2_8 := hW88.below _ _ (by have := Below.size K_w2_7; omega) K_w2_7
  clear hW88 hB7 hs7 x_a7 x_r7 x_g7 x_h7 x_b7 lr_a lr_r lr_g lr_h lr_b  K_w2_7
  clear f4 z4
  have f3 := cell_below K_w2_8 F3.out; clear e2
  clear K_w2_8
  refine wp_region_held_drew (S := fun W => Box W (w.heap.size) ([.slice a1 n c1, .slice a2 n c2, .int .i64 (i : Int)]) ∧ Box W (g) ((A.nx.set i (-1)).map (Value.int .i64)) ∧ Box W (h) ((A.us.set i true).map Value.bool) ∧ Box W (w5.heap.size) ([.slice (some ⟨g, 0, none⟩) n c, .slice (some ⟨h, 0, none⟩) n d, .int .i64 (j : Int)]) ∧ W.cell? ⟨b3, o3, none⟩ = some (.int .i64 (i : Int))) (by kernel_rfl) (And.intro (x_a8).drew (And.intro (x_g8).drew (And.intro (x_h8).drew (And.intro (x_b8).drew f3)))) (fun _ => ?_)
  refine F_drew (F := fun W => wpAnyH _ _ _ _ _ _ _ _ W) ?_
  intro Wx0 hbx0
  clear hs8
  have x_a_x0 : Box Wx0 (w.heap.size) ([.slice a1 n c1, .slice a2 n c2, .int .i64 (i : Int)]) := Box.below x_a8 hbx0
  have x_g_x0 : Box Wx0 (g) ((A.nx.set i (-1)).map (Value.int .i64)) := Box.below x_g8 hbx0
  have x_h_x0 : Box Wx0 (h) ((A.us.set i true).map Value.bool) := Box.below x_h8 hbx0
  have x_b_x0 : Box Wx0 (w5.heap.size) ([.slice (some ⟨g, 0, none⟩) n c, .slice (some ⟨h, 0, none⟩) n d, .int .i64 (j : Int)]) := Box.below x_b8 hbx0
  have c_l_x0 := cell_below hbx0 f3
  have z_r_x0 : Box Wx0 (w.heap.size + 1) (ar0) := Box.below x_r8 hbx0
  have Bx0 := below_thru hB8 hbx0
  clear x_a8 x_g8 x_h8 x_b8 f3 x_r8 hB8 hbx0
  refine takeH 1 46 (v := ?vx1_1) rfl (by rfl) (by kernel_rfl) (by kernel_rfl) (by kernel_rfl) (fun _ _ _ h => h) (Or.inl ⟨by rfl, ?_⟩) ((And.intro x_a_x0 (And.intro x_g_x0 (And.intro x_h_x0 (And.intro x_b_x0 c_l_x0))))) ?_
  rotate_left
  · intro wq hSq
    go_simp
    exact rfl
  try simp only [Act.put, List.setIfInBounds_toArray, List.set_cons_zero, List.set_cons_succ]
  refine takeH 2 47 (v := ?vx2_2) rfl (by rfl) (by kernel_rfl) (by kernel_rfl) (by kernel_rfl) (fun _ _ _ h => h) (Or.inl ⟨by rfl, ?_⟩) ((And.intro x_a_x0 (And.intro x_g_x0 (And.intro x_h_x0 (And.intro x_b_x0 c_l_x0))))) ?_
  rotate_left
  · intro wq hSq
    go_simp
    exact rfl
  try simp only [Act.put, List.setIfInBounds_toArray, List.set_cons_zero, List.set_cons_succ]
  refine takeH 3 48 (v := ?vx3_3) rfl (by rfl) (by kernel_rfl) (by kernel_rfl) (by kernel_rfl) (fun _ _ _ h => h) (Or.inl ⟨by rfl, ?_⟩) ((And.intro x_a_x0 (And.intro x_g_x0 (And.intro x_h_x0 (And.intro x_b_x0 c_l_x0))))) ?_
  rotate_left
  · intro wq hSq
    have cq := hSq.2.2.2.2
    have zq := lt_of_cell cq
    go_simp
    exact rfl
  try simp only [Act.put, List.setIfInBounds_toArray, List.set_cons_zero, List.set_cons_succ]
  refine takeH 0 45 (v := .agg ([.slice (some ⟨g, 0, none⟩) n c, .slice (some ⟨h, 0, none⟩) n d, .int .i64 (j : Int)]).toArray) rfl (by rfl) (by kernel_rfl) (by kernel_rfl) (by kernel_rfl) (fun _ _ _ h => h) (yieldsIf_load_mid (by rfl) _ _ rfl _ _ rfl ([.slice (some ⟨g, 0, none⟩) n c, .slice (some ⟨h, 0, none⟩) n d, .int .i64 (j : Int)]) _ (fun wq hq => Box.range (hq.2.2.2.1)) Try.underlying25 rfl (size_ar _ _ _)) ((And.intro x_a_x0 (And.intro x_g_x0 (And.intro x_h_x0 (And.intro x_b_x0 c_l_x0))))) ?_
  try simp only [Act.put, List.setIfInBounds_toArray, List.set_cons_zero, List.set_cons_succ]
  refine wpAnyH_ready (rs := [4]) (by kernel_rfl) (by simp) (AllReadyH.cons rfl (fun K hK => ?_) AllReadyH.nil)
  have mz_r := (z_r_x0).lt
  have nz_a := (x_a_x0).lt
  have nz_g := (x_g_x0).lt
  have nz_h := (x_h_x0).lt
  have nz_b := (x_b_x0).lt
  refine step_store_box0 (cs := [.slice (some ⟨g, 0, none⟩) n c, .slice (some ⟨h, 0, none⟩) n d, .int .i64 (j : Int)]) rfl rfl _ _ _ rfl z_r_x0 rfl rfl (size_ar _ _ _) rfl (one_ar _ _ _ _ _ _ _) ?_
  intro Wx4 hWx4
  have x_a_x4 : Box Wx4 (w.heap.size) ([.slice a1 n c1, .slice a2 n c2, .int .i64 (i : Int)]) := hWx4.past _ _ (by omega) x_a_x0
  have x_g_x4 : Box Wx4 (g) ((A.nx.set i (-1)).map (Value.int .i64)) := hWx4.past _ _ (by omega) x_g_x0
  have x_h_x4 : Box Wx4 (h) ((A.us.set i true).map Value.bool) := hWx4.past _ _ (by omega) x_h_x0
  have x_b_x4 : Box Wx4 (w5.heap.size) ([.slice (some ⟨g, 0, none⟩) n c, .slice (some ⟨h, 0, none⟩) n d, .int .i64 (j : Int)]) := hWx4.past _ _ (by omega) x_b_x0
  have c_l_x4 := hWx4.cell _ _ _ (by omega) c_l_x0
  have z_r_x4 := hWx4.box
  have Bx4 := hWx4.below _ _ (by omega) Bx0
  clear nz_a nz_g nz_h nz_b x_a_x0 x_g_x0 x_h_x0 x_b_x0 c_l_x0 z_r_x0 Bx0 hWx4
  refine hK.out _ _ (And.intro x_a_x4 (And.intro x_g_x4 (And.intro x_h_x4 (And.intro x_b_x4 c_l_x4)))) (fun _ => ?_); clear hK K
  refine takeH 5 3 (v := ?vx5_5) rfl (by rfl) (by kernel_rfl) (by kernel_rfl) (by kernel_rfl) (fun _ _ _ h => h) (Or.inl ⟨by rfl, ?_⟩) ((And.intro x_a_x4 (And.intro x_g_x4 (And.intro x_h_x4 (And.intro x_b_x4 c_l_x4))))) ?_
  rotate_left
  · intro wq hSq
    go_simp
    exact rfl
  try simp only [Act.put, List.setIfInBounds_toArray, List.set_cons_zero, List.set_cons_succ]
  refine takeH 6 4 (v := ?vx6_6) rfl (by rfl) (by kernel_rfl) (by kernel_rfl) (by kernel_rfl) (fun _ _ _ h => h) (Or.inl ⟨by rfl, ?_⟩) ((And.intro x_a_x4 (And.intro x_g_x4 (And.intro x_h_x4 (And.intro x_b_x4 c_l_x4))))) ?_
  rotate_left
  · intro wq hSq
    go_simp
    exact rfl
  try simp only [Act.put, List.setIfInBounds_toArray, List.set_cons_zero, List.set_cons_succ]
  refine wpAnyH_done (by kernel_rfl) ?_ _
  have yg := x_g_x4; have yh := x_h_x4
  go_wp2_with fail
  exact bodyPost_ret (results_box3 Try.results13 z_r_x4 rfl rfl rfl Try.underlying25 rfl (size_ar _ _ _)) rfl ⟨_, rfl, IsA.boxes (A := A.took i (j : Int)) yg yh rfl (by simp [Ar.took, HN.out]) (by simp [Ar.took, HU.out]) hc hd, fresh_boxes (by omega) (by omega), Bx4⟩

set_option maxRecDepth 100000 in
set_option maxHeartbeats 6400000 in
theorem rgive_a {v : Value} {A : Ar} {p : Int} (h : ∀ l, ¬ Valid A l) (w : World) (h1 : IsA w v A) : Calls Try.prog 15 #[v, .int .i64 p] w fun e w' => ∃ v, e = .returned (.tuple #[v, .int .i64 8]) ∧ ResA Ar.zero w v w' := by
  have CK := fun (W : World) (u : Value) (hu : IsA W u A) => rchk_is W hu (ChkA.bad h)
  have HA := Lib.hid h1
  obtain ⟨v1, v2, rfl, g1, g2⟩ := id h1
  obtain ⟨a1, c1, rfl, hr1⟩ := id g1; obtain ⟨a2, c2, rfl, hr2⟩ := id g2
  have m1 := hr1.most; have r1 := hr1.room; have m2 := hr2.most; have r2 := hr2.room; have H1 := Lib.hid g1; have H2 := Lib.hid g2
  clear hr1 hr2 g1 g2 h1
  have BI := fun W => build_ar0 W; have SA := Lib.hid (size_ar (.slice a1 A.nx.length c1) (.slice a2 A.us.length c2) (.int .i64 A.fr))
  go_enter Try.func15, Try.ntmps15
  go_upto_region 1 with fail
  refine F_gen (F := fun W => Code.wp _ _ _ _ W) (J := fun W => Box W (w.heap.size) ([.slice a1 A.nx.length c1, .slice a2 A.us.length c2, .int .i64 A.fr]) ∧ Box W (w.heap.size + 1) (ar0) ∧ Below w.heap.size w W) (And.intro (Box.alloc (Box.newc rfl rfl) _) (And.intro (Box.newc rfl (by simp)) (by go_grown))) ?_
  intro w0 ⟨e_a, e_r, hB0⟩
  have hs0 := hB0.size
  have x_a0 := e_a; clear e_a
  have x_r0 := e_r; clear e_r
  go_wp2_with (refine wpList_load_box9 rfl _ _ rfl x_a0 rfl Try.underlying25 rfl SA.out ?_)
  refine (CK _ _ (HA.out.below hB0)).mono ?_
  rintro e w1 ⟨rfl, hb⟩
  have hB1 : Below w.heap.size w w1 := below_thru hB0 hb
  have hs1 := hB1.size
  have x_a1 : Box w1 (w.heap.size) ([.slice a1 A.nx.length c1, .slice a2 A.us.length c2, .int .i64 A.fr]) := Box.below x_a0 hb
  have x_r1 : Box w1 (w.heap.size + 1) (ar0) := Box.below x_r0 hb
  clear hB0 hs0 x_a0 x_r0
  clear hb
  go_wp2_with (first
    | (refine wpList_load_box9 rfl _ _ rfl x_a1 rfl Try.underlying25 rfl SA.out ?_)
    | (refine wpList_build9 rfl 25 _ rfl (us := #[]) (by rfl) (BI _) ?_))
  refine (CK _ _ (HA.out.below hB1)).mono ?_
  rintro e w2 ⟨rfl, hb⟩
  have hB2 : Below w.heap.size w w2 := below_thru hB1 hb
  have hs2 := hB2.size
  have x_a2 : Box w2 (w.heap.size) ([.slice a1 A.nx.length c1, .slice a2 A.us.length c2, .int .i64 A.fr]) := Box.below x_a1 hb
  have x_r2 : Box w2 (w.heap.size + 1) (ar0) := Box.below x_r1 hb
  clear hB1 hs1 x_a1 x_r1
  clear hb
  have lq := (x_r2).lt
  go_wp2_with (first | (refine wpList_build9 rfl 25 _ rfl (us := #[]) (by rfl) (BI _) ?_) | (refine wpList_store_box (cs := ar0) rfl _ _ _ rfl x_r2 rfl rfl size_ar0 rfl one_ar0 ?_; intro W99 hW99))
  exact bodyPost_ret (results_box2 Try.results15 hW99.box rfl rfl Try.underlying25 rfl size_ar0) rfl ⟨_, rfl, isA_zero _, fresh_zero _, hW99.below _ _ (by omega) hB2⟩

set_option maxRecDepth 100000 in
set_option maxHeartbeats 6400000 in
theorem rgive_b {v : Value} {A : Ar} {p : Int} {l : List Nat} (hV : Valid A l) (hp : p < 0) (w : World) (h1 : IsA w v A) : Calls Try.prog 15 #[v, .int .i64 p] w fun e w' => ∃ v, e = .returned (.tuple #[v, .int .i64 2]) ∧ ResA Ar.zero w v w' := by
  have CK := fun (W : World) (u : Value) (hu : IsA W u A) => rchk_is W hu (ChkA.good hV)
  have d0 : decide (p < 0) = true := decide_eq_true hp
  clear hp
  have HA := Lib.hid h1
  obtain ⟨v1, v2, rfl, g1, g2⟩ := id h1
  obtain ⟨a1, c1, rfl, hr1⟩ := id g1; obtain ⟨a2, c2, rfl, hr2⟩ := id g2
  have m1 := hr1.most; have r1 := hr1.room; have m2 := hr2.most; have r2 := hr2.room; have H1 := Lib.hid g1; have H2 := Lib.hid g2
  clear hr1 hr2 g1 g2 h1
  have BI := fun W => build_ar0 W; have SA := Lib.hid (size_ar (.slice a1 A.nx.length c1) (.slice a2 A.us.length c2) (.int .i64 A.fr))
  go_enter Try.func15, Try.ntmps15
  go_upto_region 1 with fail
  refine F_gen (F := fun W => Code.wp _ _ _ _ W) (J := fun W => Box W (w.heap.size) ([.slice a1 A.nx.length c1, .slice a2 A.us.length c2, .int .i64 A.fr]) ∧ Box W (w.heap.size + 1) (ar0) ∧ Below w.heap.size w W) (And.intro (Box.alloc (Box.newc rfl rfl) _) (And.intro (Box.newc rfl (by simp)) (by go_grown))) ?_
  intro w0 ⟨e_a, e_r, hB0⟩
  have hs0 := hB0.size
  have x_a0 := e_a; clear e_a
  have x_r0 := e_r; clear e_r
  go_wp2_with (refine wpList_load_box9 rfl _ _ rfl x_a0 rfl Try.underlying25 rfl SA.out ?_)
  refine (CK _ _ (HA.out.below hB0)).mono ?_
  rintro e w1 ⟨rfl, hb⟩
  have hB1 : Below w.heap.size w w1 := below_thru hB0 hb
  have hs1 := hB1.size
  have x_a1 : Box w1 (w.heap.size) ([.slice a1 A.nx.length c1, .slice a2 A.us.length c2, .int .i64 A.fr]) := Box.below x_a0 hb
  have x_r1 : Box w1 (w.heap.size + 1) (ar0) := Box.below x_r0 hb
  clear hB0 hs0 x_a0 x_r0
  clear hb
  have lq := (x_r1).lt
  go_wp2_with (first | (refine wpList_build9 rfl 25 _ rfl (us := #[]) (by rfl) (BI _) ?_) | (refine wpList_store_box (cs := ar0) rfl _ _ _ rfl x_r1 rfl rfl size_ar0 rfl one_ar0 ?_; intro W99 hW99))
  exact bodyPost_ret (results_box2 Try.results15 hW99.box rfl rfl Try.underlying25 rfl size_ar0) rfl ⟨_, rfl, isA_zero _, fresh_zero _, hW99.below _ _ (by omega) hB1⟩

set_option maxRecDepth 100000 in
set_option maxHeartbeats 6400000 in
theorem rgive_e {v : Value} {A : Ar} {p : Int} {l : List Nat} (hV : Valid A l) (hp : 0 ≤ p) (hq : (A.nx.length : Int) ≤ p) (w : World) (h1 : IsA w v A) : Calls Try.prog 15 #[v, .int .i64 p] w fun e w' => ∃ v, e = .returned (.tuple #[v, .int .i64 2]) ∧ ResA Ar.zero w v w' := by
  have CK := fun (W : World) (u : Value) (hu : IsA W u A) => rchk_is W hu (ChkA.good hV)
  have d0 : decide (p < 0) = false := decide_eq_false (by omega); have d1 : decide ((A.us.length : Int) ≤ p) = true := decide_eq_true (by rw [hV.len]; exact hq)
  clear hp hq
  have HA := Lib.hid h1
  obtain ⟨v1, v2, rfl, g1, g2⟩ := id h1
  obtain ⟨a1, c1, rfl, hr1⟩ := id g1; obtain ⟨a2, c2, rfl, hr2⟩ := id g2
  have m1 := hr1.most; have r1 := hr1.room; have m2 := hr2.most; have r2 := hr2.room; have H1 := Lib.hid g1; have H2 := Lib.hid g2
  clear hr1 hr2 g1 g2 h1
  have BI := fun W => build_ar0 W; have SA := Lib.hid (size_ar (.slice a1 A.nx.length c1) (.slice a2 A.us.length c2) (.int .i64 A.fr))
  go_enter Try.func15, Try.ntmps15
  go_upto_region 1 with fail
  refine F_gen (F := fun W => Code.wp _ _ _ _ W) (J := fun W => Box W (w.heap.size) ([.slice a1 A.nx.length c1, .slice a2 A.us.length c2, .int .i64 A.fr]) ∧ Box W (w.heap.size + 1) (ar0) ∧ Below w.heap.size w W) (And.intro (Box.alloc (Box.newc rfl rfl) _) (And.intro (Box.newc rfl (by simp)) (by go_grown))) ?_
  intro w0 ⟨e_a, e_r, hB0⟩
  have hs0 := hB0.size
  have x_a0 := e_a; clear e_a
  have x_r0 := e_r; clear e_r
  go_wp2_with (refine wpList_load_box9 rfl _ _ rfl x_a0 rfl Try.underlying25 rfl SA.out ?_)
  refine (CK _ _ (HA.out.below hB0)).mono ?_
  rintro e w1 ⟨rfl, hb⟩
  have hB1 : Below w.heap.size w w1 := below_thru hB0 hb
  have hs1 := hB1.size
  have x_a1 : Box w1 (w.heap.size) ([.slice a1 A.nx.length c1, .slice a2 A.us.length c2, .int .i64 A.fr]) := Box.below x_a0 hb
  have x_r1 : Box w1 (w.heap.size + 1) (ar0) := Box.below x_r0 hb
  clear hB0 hs0 x_a0 x_r0
  clear hb
  have ca := (x_a1).c 1 _ rfl
  have za := (x_a1).lt
  have lq := (x_r1).lt
  go_wp2_with (first | (refine wpList_build9 rfl 25 _ rfl (us := #[]) (by rfl) (BI _) ?_) | (refine wpList_store_box (cs := ar0) rfl _ _ _ rfl x_r1 rfl rfl size_ar0 rfl one_ar0 ?_; intro W99 hW99))
  exact bodyPost_ret (results_box2 Try.results15 hW99.box rfl rfl Try.underlying25 rfl size_ar0) rfl ⟨_, rfl, isA_zero _, fresh_zero _, hW99.below _ _ (by omega) hB1⟩

set_option maxRecDepth 100000 in
set_option maxHeartbeats 6400000 in
theorem rgive_c {v : Value} {A : Ar} {i : Nat} {l : List Nat} (hV : Valid A l) (hi : i < A.nx.length) (hx : A.us[i]? = some false) (w : World) (h1 : IsA w v A) : Calls Try.prog 15 #[v, .int .i64 (i : Int)] w fun e w' => ∃ v, e = .returned (.tuple #[v, .int .i64 36]) ∧ ResA Ar.zero w v w' := by
  have CK := fun (W : World) (u : Value) (hu : IsA W u A) => rchk_is W hu (ChkA.good hV); have CP := fun (W : World) (u : Value) (h : IsA W u A) => rtwin_is W h ⟨by have := hV.most; omega, by have := hV.most; have := hV.len; omega⟩
  have hp := hV.pos; have hu := hV.len
  have BI := fun W => build_ar0 W
  have HA := Lib.hid h1
  obtain ⟨v1, v2, rfl, g1, g2⟩ := id h1
  obtain ⟨a1, c1, rfl, hr1⟩ := id g1; obtain ⟨a2, c2, rfl, hr2⟩ := id g2
  have m1 := hr1.most; have r1 := hr1.room; have m2 := hr2.most; have r2 := hr2.room; have H1 := Lib.hid g1; have H2 := Lib.hid g2
  clear hr1 hr2 g1 g2 h1
  obtain ⟨n, hn⟩ : ∃ n, A.nx.length = n := ⟨_, rfl⟩
  rw [hu] at r2 H2 HA ⊢; rw [hn] at hu hp hi r1 r2 H1 H2 HA ⊢
  have HN := Lib.hid hn; have HU := Lib.hid hu; have HX := Lib.hid hx
  obtain ⟨b2, o2, rfl, e2⟩ := H2.out.getB hx
  have E2 := Lib.hid e2
  obtain ⟨F, hF⟩ : ∃ f, A.fr = f := ⟨_, rfl⟩
  rw [hF] at HA ⊢
  have HF := Lib.hid hF
  clear hn hu hV hx e2 hF
  have SA := Lib.hid (size_ar (.slice a1 n c1) (.slice (some ⟨b2, o2, none⟩) n c2) (.int .i64 F))
  have i0 : (0 : Int) ≤ (i : Int) := (by omega); have i1 : (i : Int) < (n : Int) := (by omega)
  have d0 : decide ((i : Int) < 0) = false := decide_eq_false (by omega); have d1 : decide ((n : Int) ≤ (i : Int)) = false := decide_eq_false (by omega)
  go_enter Try.func15, Try.ntmps15
  go_upto_region 1 with fail
  refine F_gen (F := fun W => Code.wp _ _ _ _ W) (J := fun W => Box W (w.heap.size) ([.slice a1 n c1, .slice (some ⟨b2, o2, none⟩) n c2, .int .i64 F]) ∧ Box W (w.heap.size + 1) (ar0) ∧ Below w.heap.size w W) (And.intro (Box.alloc (Box.newc rfl rfl) _) (And.intro (Box.newc rfl (by simp)) (by go_grown))) ?_
  intro w0 ⟨e_a, e_r, hB0⟩
  have hs0 := hB0.size
  have x_a0 := e_a; clear e_a
  have x_r0 := e_r; clear e_r
  go_wp2_with (refine wpList_load_box9 rfl _ _ rfl x_a0 rfl Try.underlying25 rfl SA.out ?_)
  refine (CK _ _ (HA.out.below hB0)).mono ?_
  rintro e w1 ⟨rfl, hb⟩
  have hB1 : Below w.heap.size w w1 := below_thru hB0 hb
  have hs1 := hB1.size
  have x_a1 : Box w1 (w.heap.size) ([.slice a1 n c1, .slice (some ⟨b2, o2, none⟩) n c2, .int .i64 F]) := Box.below x_a0 hb
  have x_r1 : Box w1 (w.heap.size + 1) (ar0) := Box.below x_r0 hb
  clear hB0 hs0 x_a0 x_r0
  clear hb
  have ca := (x_a1).c 1 _ rfl
  have za := (x_a1).lt
  have f2 := cell_below hB1 E2.out; have z2 := lt_of_cell f2
  have lq := (x_r1).lt
  go_wp2_with (first | (refine wpList_build9 rfl 25 _ rfl (us := #[]) (by rfl) (BI _) ?_) | (refine wpList_store_box (cs := ar0) rfl _ _ _ rfl x_r1 rfl rfl size_ar0 rfl one_ar0 ?_; intro W99 hW99))
  exact bodyPost_ret (results_box2 Try.results15 hW99.box rfl rfl Try.underlying25 rfl size_ar0) rfl ⟨_, rfl, isA_zero _, fresh_zero _, hW99.below _ _ (by omega) hB1⟩

set_option maxRecDepth 100000 in
set_option maxHeartbeats 6400000 in
theorem rgive_d {v : Value} {A : Ar} {i : Nat} {l : List Nat} (hV : Valid A l) (hi : i < A.nx.length) (hx : A.us[i]? = some true) (w : World) (h1 : IsA w v A) : Calls Try.prog 15 #[v, .int .i64 (i : Int)] w fun e w' => ∃ v, e = .returned (.tuple #[v, .int .i64 0]) ∧ ResA (A.gave i) w v w' := by
  have CK := fun (W : World) (u : Value) (hu : IsA W u A) => rchk_is W hu (ChkA.good hV); have CP := fun (W : World) (u : Value) (h : IsA W u A) => rtwin_is W h ⟨by have := hV.most; omega, by have := hV.most; have := hV.len; omega⟩
  have hp := hV.pos; have hu := hV.len
  have BI := fun W => build_ar0 W
  have HA := Lib.hid h1
  obtain ⟨v1, v2, rfl, g1, g2⟩ := id h1
  obtain ⟨a1, c1, rfl, hr1⟩ := id g1; obtain ⟨a2, c2, rfl, hr2⟩ := id g2
  have m1 := hr1.most; have r1 := hr1.room; have m2 := hr2.most; have r2 := hr2.room; have H1 := Lib.hid g1; have H2 := Lib.hid g2
  clear hr1 hr2 g1 g2 h1
  obtain ⟨n, hn⟩ : ∃ n, A.nx.length = n := ⟨_, rfl⟩
  rw [hu] at r2 H2 HA ⊢; rw [hn] at hu hp hi r1 r2 H1 H2 HA ⊢
  have HN := Lib.hid hn; have HU := Lib.hid hu; have HX := Lib.hid hx
  obtain ⟨b2, o2, rfl, e2⟩ := H2.out.getB hx
  have E2 := Lib.hid e2
  obtain ⟨F, hF⟩ : ∃ f, A.fr = f := ⟨_, rfl⟩
  rw [hF] at HA ⊢
  have HF := Lib.hid hF
  clear hn hu hV hx e2 hF
  have SA := Lib.hid (size_ar (.slice a1 n c1) (.slice (some ⟨b2, o2, none⟩) n c2) (.int .i64 F))
  have i0 : (0 : Int) ≤ (i : Int) := (by omega); have i1 : (i : Int) < (n : Int) := (by omega)
  have d0 : decide ((i : Int) < 0) = false := decide_eq_false (by omega); have d1 : decide ((n : Int) ≤ (i : Int)) = false := decide_eq_false (by omega)
  have NG := Lib.hid (show i < (A.nx.map (Value.int .i64)).length by rw [List.length_map, HN.out]; exact hi); have NH := Lib.hid (show i < (A.us.map Value.bool).length by rw [List.length_map, HU.out]; exact hi)
  have SG := Lib.hid (set_ints A.nx i F); have SH := Lib.hid (set_bools A.us i false)
  go_enter Try.func15, Try.ntmps15
  go_upto_region 1 with fail
  refine F_gen (F := fun W => Code.wp _ _ _ _ W) (J := fun W => Box W (w.heap.size) ([.slice a1 n c1, .slice (some ⟨b2, o2, none⟩) n c2, .int .i64 F]) ∧ Box W (w.heap.size + 1) (ar0) ∧ Below w.heap.size w W) (And.intro (Box.alloc (Box.newc rfl rfl) _) (And.intro (Box.newc rfl (by simp)) (by go_grown))) ?_
  intro w0 ⟨e_a, e_r, hB0⟩
  have hs0 := hB0.size
  have x_a0 := e_a; clear e_a
  have x_r0 := e_r; clear e_r
  go_wp2_with (refine wpList_load_box9 rfl _ _ rfl x_a0 rfl Try.underlying25 rfl SA.out ?_)
  refine (CK _ _ (HA.out.below hB0)).mono ?_
  rintro e w1 ⟨rfl, hb⟩
  have hB1 : Below w.heap.size w w1 := below_thru hB0 hb
  have hs1 := hB1.size
  have x_a1 : Box w1 (w.heap.size) ([.slice a1 n c1, .slice (some ⟨b2, o2, none⟩) n c2, .int .i64 F]) := Box.below x_a0 hb
  have x_r1 : Box w1 (w.heap.size + 1) (ar0) := Box.below x_r0 hb
  clear hB0 hs0 x_a0 x_r0
  clear hb
  have ca := (x_a1).c 1 _ rfl
  have za := (x_a1).lt
  have f2 := cell_below hB1 E2.out; have z2 := lt_of_cell f2
  go_upto_region 7 with fail
  clear f2 z2 d0 d1 ca za
  go_wp2_with (refine wpList_load_box9 rfl _ _ rfl x_a1 rfl Try.underlying25 rfl SA.out ?_)
  refine (CP _ _ (HA.out.below hB1)).mono ?_
  rintro e w5 ⟨va, vb, rfl, oa, ob, hb⟩
  rw [HF.out]
  obtain ⟨g, c, h, d, rfl, rfl, lg, lh, gh, hc, hd, xg, xh⟩ := own_arena oa ob (by rw [HN.out]; omega) (by rw [HU.out, HN.out])
  have kg : w.heap.size + 2 ≤ g := by have := (x_r1).lt; omega
  have kh : w.heap.size + 2 ≤ h := by have := (x_r1).lt; omega
  have k5 := hb.size
  clear oa ob
  have hB2 : Below w.heap.size w w5 := below_thru hB1 hb
  have hs2 := hB2.size
  have x_a2 : Box w5 (w.heap.size) ([.slice a1 n c1, .slice (some ⟨b2, o2, none⟩) n c2, .int .i64 F]) := Box.below x_a1 hb
  have x_r2 : Box w5 (w.heap.size + 1) (ar0) := Box.below x_r1 hb
  clear hB1 hs1 x_a1 x_r1
  clear hb
  rw [HN.out] at hc hd ⊢
  have x_g2 : Box w5 g (A.nx.map (Value.int .i64)) := xg; have x_h2 : Box w5 h (A.us.map Value.bool) := xh; clear xg xh
  have g5 := x_g2.lt; have h5 := x_h2.lt; have kb : w.heap.size + 2 ≤ w5.heap.size := by omega
  have d_b_a := (x_a2).lt
  have d_b_r := (x_r2).lt
  have d_b_g := (x_g2).lt
  have d_b_h := (x_h2).lt
  have d_b_0 := hs2
  go_upto_region 8 with (refine wpList_store_box (cs := [.slice (some ⟨g, 0, none⟩) n c, .slice (some ⟨h, 0, none⟩) n d, .int .i64 F]) rfl _ _ _ rfl (Box.newc (l := ar0) rfl rfl) rfl rfl (size_ar _ _ _) rfl (one_ar _ _ _ _ _ _ _) ?_; intro W2_0 hW2_0)
  have hN : Below w5.heap.size w5 W2_0 := (hW2_0.below _ _ (by omega) ((Below.refl _ w5).alloc (Nat.le_refl _) _))
  have x_b3 : Box W2_0 (w5.heap.size) ([.slice (some ⟨g, 0, none⟩) n c, .slice (some ⟨h, 0, none⟩) n d, .int .i64 F]) := hW2_0.box
  have hB3 : Below w.heap.size w W2_0 := below_thru hB2 hN
  have hs3 := hB3.size
  have x_a3 : Box W2_0 (w.heap.size) ([.slice a1 n c1, .slice (some ⟨b2, o2, none⟩) n c2, .int .i64 F]) := Box.below x_a2 hN
  have x_r3 : Box W2_0 (w.heap.size + 1) (ar0) := Box.below x_r2 hN
  have x_g3 : Box W2_0 (g) (A.nx.map (Value.int .i64)) := Box.below x_g2 hN
  have x_h3 : Box W2_0 (h) (A.us.map Value.bool) := Box.below x_h2 hN
  clear hB2 hs2 x_a2 x_r2 x_g2 x_h2
  clear hN hW2_0
  have cb := (x_b3).c 1 _ rfl
  have zb := (x_b3).lt
  have lr_a := (x_a3).lt
  have lr_r := (x_r3).lt
  have lr_g := (x_g3).lt
  have lr_h := (x_h3).lt
  have lr_b := (x_b3).lt
  go_upto_region 9 with (refine wpList_store_cell (k := i) (ws := (A.us.set i false).map Value.bool) (v := .bool false) rfl _ _ _ rfl x_h3 rfl rfl rfl rfl size_bl NH.out SH.out ?_; intro W84 hW84)
  have x_a4 : Box W84 (w.heap.size) ([.slice a1 n c1, .slice (some ⟨b2, o2, none⟩) n c2, .int .i64 F]) := hW84.past _ _ (by omega) x_a3
  have x_r4 : Box W84 (w.heap.size + 1) (ar0) := hW84.past _ _ (by omega) x_r3
  have x_g4 : Box W84 (g) (A.nx.map (Value.int .i64)) := hW84.past _ _ (by omega) x_g3
  have x_b4 : Box W84 (w5.heap.size) ([.slice (some ⟨g, 0, none⟩) n c, .slice (some ⟨h, 0, none⟩) n d, .int .i64 F]) := hW84.past _ _ (by omega) x_b3
  have x_h4 : Box W84 (h) ((A.us.set i false).map Value.bool) := hW84.box
  have hB4 : Below w.heap.size w W84 := hW84.below _ _ (by omega) hB3; have hs4 := hB4.size
  clear hW84 hB3 hs3 x_a3 x_r3 x_g3 x_h3 x_b3 lr_a lr_r lr_g lr_h lr_b  
  clear cb zb
  have cb := (x_b4).c 0 _ rfl
  have zb := (x_b4).lt
  have ca := (x_a4).c 2 _ rfl
  have za := (x_a4).lt
  have lr_a := (x_a4).lt
  have lr_r := (x_r4).lt
  have lr_g := (x_g4).lt
  have lr_h := (x_h4).lt
  have lr_b := (x_b4).lt
  go_upto_region 10 with (refine wpList_store_cell (k := i) (ws := (A.nx.set i F).map (Value.int .i64)) (v := .int .i64 F) rfl _ _ _ rfl x_g4 rfl rfl rfl rfl size_in NG.out SG.out ?_; intro W85 hW85)
  have x_a5 : Box W85 (w.heap.size) ([.slice a1 n c1, .slice (some ⟨b2, o2, none⟩) n c2, .int .i64 F]) := hW85.past _ _ (by omega) x_a4
  have x_r5 : Box W85 (w.heap.size + 1) (ar0) := hW85.past _ _ (by omega) x_r4
  have x_h5 : Box W85 (h) ((A.us.set i false).map Value.bool) := hW85.past _ _ (by omega) x_h4
  have x_b5 : Box W85 (w5.heap.size) ([.slice (some ⟨g, 0, none⟩) n c, .slice (some ⟨h, 0, none⟩) n d, .int .i64 F]) := hW85.past _ _ (by omega) x_b4
  have x_g5 : Box W85 (g) ((A.nx.set i F).map (Value.int .i64)) := hW85.box
  have hB5 : Below w.heap.size w W85 := hW85.below _ _ (by omega) hB4; have hs5 := hB5.size
  clear hW85 hB4 hs4 x_a4 x_r4 x_g4 x_h4 x_b4 lr_a lr_r lr_g lr_h lr_b  
  clear cb zb ca za
  have lr_a := (x_a5).lt
  have lr_r := (x_r5).lt
  have lr_g := (x_g5).lt
  have lr_h := (x_h5).lt
  have lr_b := (x_b5).lt
  go_upto_region 11 with (refine wpList_store_cell (k := 2) (ws := [.slice (some ⟨g, 0, none⟩) n c, .slice (some ⟨h, 0, none⟩) n d, .int .i64 (i : Int)]) (v := .int .i64 (i : Int)) rfl _ _ _ rfl x_b5 rfl rfl rfl rfl size_in (show 2 < 3 by decide) rfl ?_; intro W86 hW86)
  have x_a6 : Box W86 (w.heap.size) ([.slice a1 n c1, .slice (some ⟨b2, o2, none⟩) n c2, .int .i64 F]) := hW86.past _ _ (by omega) x_a5
  have x_r6 : Box W86 (w.heap.size + 1) (ar0) := hW86.past _ _ (by omega) x_r5
  have x_g6 : Box W86 (g) ((A.nx.set i F).map (Value.int .i64)) := hW86.past _ _ (by omega) x_g5
  have x_h6 : Box W86 (h) ((A.us.set i false).map Value.bool) := hW86.past _ _ (by omega) x_h5
  have x_b6 : Box W86 (w5.heap.size) ([.slice (some ⟨g, 0, none⟩) n c, .slice (some ⟨h, 0, none⟩) n d, .int .i64 (i : Int)]) := hW86.box
  have hB6 : Below w.heap.size w W86 := hW86.below _ _ (by omega) hB5; have hs6 := hB6.size
  clear hW86 hB5 hs5 x_a5 x_r5 x_g5 x_h5 x_b5 lr_a lr_r lr_g lr_h lr_b  
  have lq := (x_r6).lt; have lqa := (x_b6).lt
  go_wp2_with (first | (refine wpList_load_box9 rfl _ _ rfl x_b6 rfl Try.underlying25 rfl (size_ar _ _ _) ?_) | (refine wpList_store_box (cs := [.slice (some ⟨g, 0, none⟩) n c, .slice (some ⟨h, 0, none⟩) n d, .int .i64 (i : Int)]) rfl _ _ _ rfl x_r6 rfl rfl (size_ar _ _ _) rfl (one_ar _ _ _ _ _ _ _) ?_; intro W99 hW99))
  have yg := hW99.past _ _ (by omega) x_g6; have yh := hW99.past _ _ (by omega) x_h6
  exact bodyPost_ret (results_box2 Try.results15 hW99.box rfl rfl Try.underlying25 rfl (size_ar _ _ _)) rfl ⟨_, rfl, IsA.boxes (A := A.gave i) (by rw [show (A.gave i).nx = A.nx.set i F by unfold Ar.gave; rw [HF.out]]; exact yg) yh rfl (by simp [Ar.gave, HN.out]) (by simp [Ar.gave, HU.out]) hc hd, fresh_boxes (by omega) (by omega), hW99.below _ _ (by omega) hB6⟩

set_option maxRecDepth 100000 in
set_option maxHeartbeats 6400000 in
theorem rcount_a {v : Value} {A : Ar} (h : ∀ l, ¬ Valid A l) (w : World) (h1 : IsA w v A) : Calls Try.prog 18 #[v] w fun e w' => e = .returned (.tuple #[.int .i64 0, .int .i64 0, .int .i64 8]) ∧ Below w.heap.size w w' := by
  have CK := fun (W : World) (u : Value) (hu : IsA W u A) => rchk_is W hu (ChkA.bad h)
  have HA := Lib.hid h1
  obtain ⟨v1, v2, rfl, g1, g2⟩ := id h1
  obtain ⟨a1, c1, rfl, hr1⟩ := id g1; obtain ⟨a2, c2, rfl, hr2⟩ := id g2
  have m1 := hr1.most; have r1 := hr1.room; have m2 := hr2.most; have r2 := hr2.room; have H1 := Lib.hid g1; have H2 := Lib.hid g2
  clear hr1 hr2 g1 g2 h1
  have SA := Lib.hid (size_ar (.slice a1 A.nx.length c1) (.slice a2 A.us.length c2) (.int .i64 A.fr))
  go_enter Try.func18, Try.ntmps18
  go_upto_region 1 with fail
  refine F_gen (F := fun W => Code.wp _ _ _ _ W) (J := fun W => Box W (w.heap.size) ([.slice a1 A.nx.length c1, .slice a2 A.us.length c2, .int .i64 A.fr]) ∧ Below w.heap.size w W) (And.intro (Box.newc rfl rfl) (by go_grown)) ?_
  intro w0 ⟨e_a, hB0⟩
  have hs0 := hB0.size
  have x_a0 := e_a; clear e_a
  go_wp2_with (refine wpList_load_box9 rfl _ _ rfl x_a0 rfl Try.underlying25 rfl SA.out ?_)
  refine (CK _ _ (HA.out.below hB0)).mono ?_
  rintro e w1 ⟨rfl, hb⟩
  have hB1 : Below w.heap.size w w1 := below_thru hB0 hb
  have hs1 := hB1.size
  have x_a1 : Box w1 (w.heap.size) ([.slice a1 A.nx.length c1, .slice a2 A.us.length c2, .int .i64 A.fr]) := Box.below x_a0 hb
  clear hB0 hs0 x_a0
  clear hb
  go_wp2_with (refine wpList_load_box9 rfl _ _ rfl x_a1 rfl Try.underlying25 rfl SA.out ?_)
  refine (CK _ _ (HA.out.below hB1)).mono ?_
  rintro e w2 ⟨rfl, hb⟩
  have hB2 : Below w.heap.size w w2 := below_thru hB1 hb
  have hs2 := hB2.size
  have x_a2 : Box w2 (w.heap.size) ([.slice a1 A.nx.length c1, .slice a2 A.us.length c2, .int .i64 A.fr]) := Box.below x_a1 hb
  clear hB1 hs1 x_a1
  clear hb
  go_wp2_with fail
  go_returns
  exact ⟨rfl, hB2⟩

set_option maxRecDepth 100000 in
set_option maxHeartbeats 6400000 in
theorem rcount_b {v : Value} {A : Ar} {l : List Nat} (hV : Valid A l) (w : World) (h1 : IsA w v A) : Calls Try.prog 18 #[v] w fun e w' => e = .returned (.tuple #[.int .i64 (A.us.count true : Nat), .int .i64 (l.length : Nat), .int .i64 0]) ∧ Below w.heap.size w w' := by
  have CK := fun (W : World) (u : Value) (hu : IsA W u A) => rchk_is W hu (ChkA.good hV)
  have FR := fun (W : World) (u : Value) (hu : IsA W u A) => rfree_is W hu (by have := hV.most; omega) (Or.inl ⟨_, rfl, hV.freeL⟩)
  have hu := hV.len; have hc := hV.count; have hm := hV.most
  have HA := Lib.hid h1
  obtain ⟨v1, v2, rfl, g1, g2⟩ := id h1
  obtain ⟨a1, c1, rfl, hr1⟩ := id g1; obtain ⟨a2, c2, rfl, hr2⟩ := id g2
  have m1 := hr1.most; have r1 := hr1.room; have m2 := hr2.most; have r2 := hr2.room; have H1 := Lib.hid g1; have H2 := Lib.hid g2
  clear hr1 hr2 g1 g2 h1
  obtain ⟨n, hn⟩ : ∃ n, A.nx.length = n := ⟨_, rfl⟩
  rw [hu] at r2 H2 HA ⊢; rw [hn] at hu hc hm r1 r2 H1 H2 HA ⊢
  have W1 : IntKind.i64.wrap ((n : Int) - (l.length : Int)) = ((A.us.count true : Nat) : Int) := by rw [IntKind.wrap_i64]; omega
  have NL := Lib.hid (show (nums (Option.getD (some l) [])).length = l.length from nums_len l)
  clear hn hu hc hV hm
  have SA := Lib.hid (size_ar (.slice a1 n c1) (.slice a2 n c2) (.int .i64 A.fr))
  go_enter Try.func18, Try.ntmps18
  go_upto_region 1 with fail
  refine F_gen (F := fun W => Code.wp _ _ _ _ W) (J := fun W => Box W (w.heap.size) ([.slice a1 n c1, .slice a2 n c2, .int .i64 A.fr]) ∧ Below w.heap.size w W) (And.intro (Box.newc rfl rfl) (by go_grown)) ?_
  intro w0 ⟨e_a, hB0⟩
  have hs0 := hB0.size
  have x_a0 := e_a; clear e_a
  go_wp2_with (refine wpList_load_box9 rfl _ _ rfl x_a0 rfl Try.underlying25 rfl SA.out ?_)
  refine (CK _ _ (HA.out.below hB0)).mono ?_
  rintro e w1 ⟨rfl, hb⟩
  have hB1 : Below w.heap.size w w1 := below_thru hB0 hb
  have hs1 := hB1.size
  have x_a1 : Box w1 (w.heap.size) ([.slice a1 n c1, .slice a2 n c2, .int .i64 A.fr]) := Box.below x_a0 hb
  clear hB0 hs0 x_a0
  clear hb
  go_wp2_with (refine wpList_load_box9 rfl _ _ rfl x_a1 rfl Try.underlying25 rfl SA.out ?_)
  refine (FR _ _ (HA.out.below hB1)).mono ?_
  rintro e w2 ⟨u, rfl, hI, hO, hb⟩
  have hB2 : Below w.heap.size w w2 := below_thru hB1 hb
  have hs2 := hB2.size
  have x_a2 : Box w2 (w.heap.size) ([.slice a1 n c1, .slice a2 n c2, .int .i64 A.fr]) := Box.below x_a1 hb
  clear hB1 hs1 x_a1
  clear hb
  obtain ⟨ua, uc, rfl, hru⟩ := id hI
  clear hI hO hru
  rw [NL.out]
  have ca := (x_a2).c 1 _ rfl
  have za := (x_a2).lt
  go_wp2_with fail
  go_returns
  exact ⟨rfl, hB2⟩

theorem rcount_is {v : Value} {A : Ar} {m o q : Int} (h : CtA A m o q) (w : World) (h1 : IsA w v A) : Calls Try.prog 18 #[v] w fun e w' => e = .returned (.tuple #[.int .i64 m, .int .i64 o, .int .i64 q]) ∧ Below w.heap.size w w' := by
  rcases h with ⟨rfl, h, rfl, rfl⟩ | ⟨rfl, l, h, rfl, rfl⟩
  · exact rcount_a h w h1
  · exact rcount_b h w h1
theorem rtake_is {v : Value} {A B : Ar} {p q : Int} (h : TkA A B p q) (w : World) (h1 : IsA w v A) : Calls Try.prog 13 #[v] w fun e w' => ∃ v, e = .returned (.tuple #[v, .int .i64 p, .int .i64 q]) ∧ ResA B w v w' := by
  rcases h with ⟨rfl, h, rfl, rfl⟩ | ⟨rfl, h, rfl, rfl⟩ | ⟨rfl, i, r, x, h, hx, rfl, rfl⟩
  · exact rtake_a h w h1
  · exact rtake_b h w h1
  · obtain ⟨y, hy, hp⟩ := h.snd
    rw [hx] at hy
    cases hy
    cases r with
    | nil =>
      have hp : x = -1 := hp
      subst hp
      exact rtake_c h hx w h1
    | cons j r =>
      have hp := hp.1
      subst hp
      exact rtake_d h hx w h1
theorem rgive_is {v : Value} {A B : Ar} {p q : Int} (h : GvA A p B q) (w : World) (h1 : IsA w v A) : Calls Try.prog 15 #[v, .int .i64 p] w fun e w' => ∃ v, e = .returned (.tuple #[v, .int .i64 q]) ∧ ResA B w v w' := by
  rcases h with ⟨rfl, h, rfl⟩ | ⟨l, hl, ⟨rfl, h, rfl⟩ | ⟨i, rfl, hi, ⟨rfl, hu, rfl⟩ | ⟨rfl, hu, rfl⟩⟩⟩
  · exact rgive_a h w h1
  · by_cases hp : p < 0
    · exact rgive_b hl hp w h1
    · exact rgive_e hl (by omega) (by omega) w h1
  · exact rgive_c hl hi hu w h1
  · exact rgive_d hl hi hu w h1

end Go.Proofs.Ytepimljjbmoojaa
