/-
  Package arena, walked: Take, Give, Count.
-/
import Derived.Test.YtepimljjbmoojaaArC
namespace Go.Proofs.Ytepimljjbmoojaa
open Go.RowKit

set_option maxRecDepth 100000 in
set_option maxHeartbeats 6400000 in
theorem ptake_a {v : Value} {A : Ar} (h : ∀ l, ¬ Valid A l) (w : World) (h1 : IsA w v A) : Calls Try.prog 12 #[v] w fun e w' => ∃ v, e = .returned (.tuple #[v, .int .i64 0, .int .i64 8]) ∧ ResA Ar.zero w v w' := by
  have CK := fun (W : World) (u : Value) (hu : IsA W u A) => pchk_is W hu (ChkA.bad h)
  have HA := Lib.hid h1
  obtain ⟨v1, v2, rfl, g1, g2⟩ := id h1
  obtain ⟨a1, c1, rfl, hr1⟩ := id g1; obtain ⟨a2, c2, rfl, hr2⟩ := id g2
  have m1 := hr1.most; have r1 := hr1.room; have m2 := hr2.most; have r2 := hr2.room; have H1 := Lib.hid g1; have H2 := Lib.hid g2
  clear hr1 hr2 g1 g2 h1
  have BI := fun W => build_ar0 W; have SA := Lib.hid (size_ar (.slice a1 A.nx.length c1) (.slice a2 A.us.length c2) (.int .i64 A.fr))
  go_enter Try.func12, Try.ntmps12
  go_upto_region 1 with fail
  refine F_gen (F := fun W => Code.wp _ _ _ _ W) (J := fun W => Box W (w.heap.size) ([.slice a1 A.nx.length c1, .slice a2 A.us.length c2, .int .i64 A.fr]) ∧ Box W (w.heap.size + 1) (ar0) ∧ Below w.heap.size w W) (And.intro (Box.alloc (Box.newc rfl rfl) _) (And.intro (Box.newc rfl (by simp)) (by go_grown))) ?_
  intro w0 ⟨e_a, e_r, hB0⟩
  have hs0 := hB0.size
  have x_a0 := e_a; clear e_a
  have x_r0 := e_r; clear e_r
  go_wp2_with (refine wpList_load_box9 rfl _ _ rfl x_a0 rfl Try.underlying25 rfl SA.out ?_)
  refine (CK _ _ (HA.out.below hB0)).mono ?_
  rintro e w1 ⟨rfl, hb⟩
  have hB1 : Below w.heap.size w w1 := below_thru hB0 hb
  have hs1 := hB1.size
  have x_a1 : Box w1 (w.heap.size) ([.slice a1 A.nx.length c1, .slice a2 A.us.length c2, .int .i64 A.fr]) := Box.below x_a0 hb
  have x_r1 : Box w1 (w.heap.size + 1) (ar0) := Box.below x_r0 hb
  clear hB0 hs0 x_a0 x_r0
  clear hb
  have lq := (x_r1).lt
  go_wp2_with (first | (refine wpList_build9 rfl 25 _ rfl (us := #[]) (by rfl) (BI _) ?_) | (refine wpList_store_box (cs := ar0) rfl _ _ _ rfl x_r1 rfl rfl size_ar0 rfl one_ar0 ?_; intro W99 hW99))
  exact bodyPost_ret (results_box3 Try.results12 hW99.box rfl rfl rfl Try.underlying25 rfl size_ar0) rfl ⟨_, rfl, isA_zero _, fresh_zero _, hW99.below _ _ (by omega) hB1⟩

set_option maxRecDepth 100000 in
set_option maxHeartbeats 6400000 in
theorem ptake_b {v : Value} {A : Ar} (h : Valid A []) (w : World) (h1 : IsA w v A) : Calls Try.prog 12 #[v] w fun e w' => ∃ v, e = .returned (.tuple #[v, .int .i64 0, .int .i64 18]) ∧ ResA Ar.zero w v w' := by
  have CK := fun (W : World) (u : Value) (hu : IsA W u A) => pchk_is W hu (ChkA.good h)
  have HE := Lib.hid (show (A.fr == -1) = true by rw [show A.fr = -1 from h.path]; rfl)
  have HA := Lib.hid h1
  obtain ⟨v1, v2, rfl, g1, g2⟩ := id h1
  obtain ⟨a1, c1, rfl, hr1⟩ := id g1; obtain ⟨a2, c2, rfl, hr2⟩ := id g2
  have m1 := hr1.most; have r1 := hr1.room; have m2 := hr2.most; have r2 := hr2.room; have H1 := Lib.hid g1; have H2 := Lib.hid g2
  clear hr1 hr2 g1 g2 h1
  have BI := fun W => build_ar0 W; have SA := Lib.hid (size_ar (.slice a1 A.nx.length c1) (.slice a2 A.us.length c2) (.int .i64 A.fr))
  go_enter Try.func12, Try.ntmps12
  go_upto_region 1 with fail
  refine F_gen (F := fun W => Code.wp _ _ _ _ W) (J := fun W => Box W (w.heap.size) ([.slice a1 A.nx.length c1, .slice a2 A.us.length c2, .int .i64 A.fr]) ∧ Box W (w.heap.size + 1) (ar0) ∧ Below w.heap.size w W) (And.intro (Box.alloc (Box.newc rfl rfl) _) (And.intro (Box.newc rfl (by simp)) (by go_grown))) ?_
  intro w0 ⟨e_a, e_r, hB0⟩
  have hs0 := hB0.size
  have x_a0 := e_a; clear e_a
  have x_r0 := e_r; clear e_r
  go_wp2_with (refine wpList_load_box9 rfl _ _ rfl x_a0 rfl Try.underlying25 rfl SA.out ?_)
  refine (CK _ _ (HA.out.below hB0)).mono ?_
  rintro e w1 ⟨rfl, hb⟩
  have hB1 : Below w.heap.size w w1 := below_thru hB0 hb
  have hs1 := hB1.size
  have x_a1 : Box w1 (w.heap.size) ([.slice a1 A.nx.length c1, .slice a2 A.us.length c2, .int .i64 A.fr]) := Box.below x_a0 hb
  have x_r1 : Box w1 (w.heap.size + 1) (ar0) := Box.below x_r0 hb
  clear hB0 hs0 x_a0 x_r0
  clear hb
  have e9 := HE.out
  have ca := (x_a1).c 2 _ rfl
  have za := (x_a1).lt
  have lq := (x_r1).lt
  go_wp2_with (first | (refine wpList_build9 rfl 25 _ rfl (us := #[]) (by rfl) (BI _) ?_) | (refine wpList_store_box (cs := ar0) rfl _ _ _ rfl x_r1 rfl rfl size_ar0 rfl one_ar0 ?_; intro W99 hW99))
  exact bodyPost_ret (results_box3 Try.results12 hW99.box rfl rfl rfl Try.underlying25 rfl size_ar0) rfl ⟨_, rfl, isA_zero _, fresh_zero _, hW99.below _ _ (by omega) hB1⟩

set_option maxRecDepth 100000 in
set_option maxHeartbeats 6400000 in
theorem ptake_c {v : Value} {A : Ar} {i : Nat} {r : List Nat} {x : Int} (hV : Valid A (i :: r)) (hx : A.nx[i]? = some x) (w : World) (h1 : IsA w v A) : Calls Try.prog 12 #[v] w fun e w' => ∃ v, e = .returned (.tuple #[v, .int .i64 (i : Int), .int .i64 0]) ∧ ResA (A.took i x) w v w' := by
  have CK := fun (W : World) (u : Value) (h : IsA W u A) => pchk_is W h (ChkA.good hV); have CP := fun (W : World) (u : Value) (h : IsA W u A) => pcop_is W h ⟨by have := hV.most; omega, by have := hV.most; have := hV.len; omega⟩
  have hf := hV.head.1; have hi := hV.head.2.1; have hp := hV.pos; have hu := hV.len
  have HA := Lib.hid h1
  obtain ⟨v1, v2, rfl, g1, g2⟩ := id h1
  obtain ⟨a1, c1, rfl, hr1⟩ := id g1; obtain ⟨a2, c2, rfl, hr2⟩ := id g2
  have m1 := hr1.most; have r1 := hr1.room; have m2 := hr2.most; have r2 := hr2.room; have H1 := Lib.hid g1; have H2 := Lib.hid g2
  clear hr1 hr2 g1 g2 h1
  obtain ⟨n, hn⟩ : ∃ n, A.nx.length = n := ⟨_, rfl⟩
  rw [hu] at r2 H2 HA ⊢; rw [hn] at hu hp hi r1 r2 H1 H2 HA ⊢; rw [hf] at HA ⊢
  have HN := Lib.hid hn; have HU := Lib.hid hu; have HX := Lib.hid hx; have HF := Lib.hid hf; clear hn hu hf hV hx
  have SA := Lib.hid (size_ar (.slice a1 n c1) (.slice a2 n c2) (.int .i64 (i : Int)))
  have i0 : (0 : Int) ≤ (i : Int) := (by omega); have i1 : (i : Int) < (n : Int) := (by omega); have e9 : ((i : Int) == -1) = false := by rw [beq_eq_false_iff_ne]; omega
  have NG := Lib.hid (show i < (A.nx.map (Value.int .i64)).length by rw [List.length_map, HN.out]; exact hi); have NH := Lib.hid (show i < (A.us.map Value.bool).length by rw [List.length_map, HU.out]; exact hi)
  have SG := Lib.hid (set_ints A.nx i (-1)); have SH := Lib.hid (set_bools A.us i true)
  have XG : Hid ((A.nx.map (Value.int .i64))[i]? = some (.int .i64 x)) := Lib.hid (by rw [List.getElem?_map, HX.out]; rfl)
  go_enter Try.func12, Try.ntmps12
  go_upto_region 1 with fail
  refine F_gen (F := fun W => Code.wp _ _ _ _ W) (J := fun W => Box W (w.heap.size) ([.slice a1 n c1, .slice a2 n c2, .int .i64 (i : Int)]) ∧ Box W (w.heap.size + 1) (ar0) ∧ Below w.heap.size w W) (And.intro (Box.alloc (Box.newc rfl rfl) _) (And.intro (Box.newc rfl (by simp)) (by go_grown))) ?_
  intro w0 ⟨e_a, e_r, hB0⟩
  have hs0 := hB0.size
  have x_a0 := e_a; clear e_a
  have x_r0 := e_r; clear e_r
  go_wp2_with (refine wpList_load_box9 rfl _ _ rfl x_a0 rfl Try.underlying25 rfl SA.out ?_)
  refine (CK _ _ (HA.out.below hB0)).mono ?_
  rintro e w1 ⟨rfl, hb⟩
  have hB1 : Below w.heap.size w w1 := below_thru hB0 hb
  have hs1 := hB1.size
  have x_a1 : Box w1 (w.heap.size) ([.slice a1 n c1, .slice a2 n c2, .int .i64 (i : Int)]) := Box.below x_a0 hb
  have x_r1 : Box w1 (w.heap.size + 1) (ar0) := Box.below x_r0 hb
  clear hB0 hs0 x_a0 x_r0
  clear hb
  have ca := (x_a1).c 2 _ rfl
  have za := (x_a1).lt
  go_upto_region 6 with fail
  clear ca za
  go_wp2_with (refine wpList_load_box9 rfl _ _ rfl x_a1 rfl Try.underlying25 rfl SA.out ?_)
  refine (CP _ _ (HA.out.below hB1)).mono ?_
  rintro e w5 ⟨va, vb, rfl, oa, ob, hb⟩
  rw [HF.out]
  obtain ⟨g, c, h, d, rfl, rfl, lg, lh, gh, hc, hd, xg, xh⟩ := own_arena oa ob (by rw [HN.out]; omega) (by rw [HU.out, HN.out])
  have kg : w.heap.size + 2 ≤ g := by have := (x_r1).lt; omega
  have kh : w.heap.size + 2 ≤ h := by have := (x_r1).lt; omega
  clear oa ob
  have hB2 : Below w.heap.size w w5 := below_thru hB1 hb
  have hs2 := hB2.size
  have x_a2 : Box w5 (w.heap.size) ([.slice a1 n c1, .slice a2 n c2, .int .i64 (i : Int)]) := Box.below x_a1 hb
  have x_r2 : Box w5 (w.heap.size + 1) (ar0) := Box.below x_r1 hb
  clear hB1 hs1 x_a1 x_r1
  clear hb lg lh
  rw [HN.out] at hc hd ⊢
  have x_g2 : Box w5 g (A.nx.map (Value.int .i64)) := xg; have x_h2 : Box w5 h (A.us.map Value.bool) := xh; clear xg xh
  have lr_a := (x_a2).lt
  have lr_r := (x_r2).lt
  have lr_g := (x_g2).lt
  have lr_h := (x_h2).lt
  go_upto_region 7 with (refine wpList_store_box (cs := [.slice (some ⟨g, 0, none⟩) n c, .slice (some ⟨h, 0, none⟩) n d, .int .i64 (i : Int)]) rfl _ _ _ rfl x_a2 rfl rfl (size_ar _ _ _) rfl (one_ar _ _ _ _ _ _ _) ?_; intro W83 hW83)
  have x_r3 : Box W83 (w.heap.size + 1) (ar0) := hW83.past _ _ (by omega) x_r2
  have x_g3 : Box W83 (g) (A.nx.map (Value.int .i64)) := hW83.past _ _ (by omega) x_g2
  have x_h3 : Box W83 (h) (A.us.map Value.bool) := hW83.past _ _ (by omega) x_h2
  have x_a3 : Box W83 (w.heap.size) ([.slice (some ⟨g, 0, none⟩) n c, .slice (some ⟨h, 0, none⟩) n d, .int .i64 (i : Int)]) := hW83.box
  have hB3 : Below w.heap.size w W83 := hW83.below _ _ (by omega) hB2; have hs3 := hB3.size
  clear hW83 hB2 hs2 x_a2 x_r2 x_g2 x_h2 lr_a lr_r lr_g lr_h  
  have ca := (x_a3).c 2 _ rfl
  have za := (x_a3).lt
  go_upto_region 8 with fail
  clear ca za
  have ca := (x_a3).c 0 _ rfl
  have za := (x_a3).lt
  have cb := (x_g3).c i _ XG.out
  have zb := (x_g3).lt
  have lr_a := (x_a3).lt
  have lr_r := (x_r3).lt
  have lr_g := (x_g3).lt
  have lr_h := (x_h3).lt
  go_upto_region 9 with (refine wpList_store_cell (k := 2) (ws := [.slice (some ⟨g, 0, none⟩) n c, .slice (some ⟨h, 0, none⟩) n d, .int .i64 x]) (v := .int .i64 x) rfl _ _ _ rfl x_a3 rfl rfl rfl rfl size_in (show 2 < 3 by decide) rfl ?_; intro W84 hW84)
  have x_r4 : Box W84 (w.heap.size + 1) (ar0) := hW84.past _ _ (by omega) x_r3
  have x_g4 : Box W84 (g) (A.nx.map (Value.int .i64)) := hW84.past _ _ (by omega) x_g3
  have x_h4 : Box W84 (h) (A.us.map Value.bool) := hW84.past _ _ (by omega) x_h3
  have x_a4 : Box W84 (w.heap.size) ([.slice (some ⟨g, 0, none⟩) n c, .slice (some ⟨h, 0, none⟩) n d, .int .i64 x]) := hW84.box
  have hB4 : Below w.heap.size w W84 := hW84.below _ _ (by omega) hB3; have hs4 := hB4.size
  clear hW84 hB3 hs3 x_a3 x_r3 x_g3 x_h3 lr_a lr_r lr_g lr_h  
  clear ca za cb zb
  refine wp_region_held_drew (S := fun W => Box W (w.heap.size) ([.slice (some ⟨g, 0, none⟩) n c, .slice (some ⟨h, 0, none⟩) n d, .int .i64 x]) ∧ Box W (w.heap.size + 1) (ar0)) (by kernel_rfl) (And.intro (x_a4).drew (x_r4).drew) (fun _ => ?_)
  refine F_drew (F := fun W => wpAnyH _ _ _ _ _ _ _ _ W) ?_
  intro Ws0 hbs0
  clear hs4
  have x_a_s0 : Box Ws0 (w.heap.size) ([.slice (some ⟨g, 0, none⟩) n c, .slice (some ⟨h, 0, none⟩) n d, .int .i64 x]) := Box.below x_a4 hbs0
  have x_r_s0 : Box Ws0 (w.heap.size + 1) (ar0) := Box.below x_r4 hbs0
  have z_g_s0 : Box Ws0 (g) (A.nx.map (Value.int .i64)) := Box.below x_g4 hbs0
  have z_h_s0 : Box Ws0 (h) (A.us.map Value.bool) := Box.below x_h4 hbs0
  have Bs0 := below_thru hB4 hbs0
  clear x_a4 x_r4 x_g4 x_h4 hB4 hbs0
  refine takeH 0 27 (v := ?vs0_1) rfl (by rfl) (by kernel_rfl) (by kernel_rfl) (by kernel_rfl) (fun _ _ _ h => h) (Or.inl ⟨by rfl, ?_⟩) ((And.intro x_a_s0 x_r_s0)) ?_
  rotate_left
  · intro wq hSq
    go_simp
    exact rfl
  try simp only [Act.put, List.setIfInBounds_toArray, List.set_cons_zero, List.set_cons_succ]
  refine takeH 1 28 (v := ?vs1_2) rfl (by rfl) (by kernel_rfl) (by kernel_rfl) (by kernel_rfl) (fun _ _ _ h => h) (Or.inl ⟨by rfl, ?_⟩) ((And.intro x_a_s0 x_r_s0)) ?_
  rotate_left
  · intro wq hSq
    have cq := (hSq.1).c 0 _ rfl
    have zq := lt_of_cell cq
    go_simp
    exact rfl
  try simp only [Act.put, List.setIfInBounds_toArray, List.set_cons_zero, List.set_cons_succ]
  refine takeH 2 29 (v := ?vs2_3) rfl (by rfl) (by kernel_rfl) (by kernel_rfl) (by kernel_rfl) (fun _ _ _ h => h) (Or.inl ⟨by rfl, ?_⟩) ((And.intro x_a_s0 x_r_s0)) ?_
  rotate_left
  · intro wq hSq
    go_simp
    exact rfl
  try simp only [Act.put, List.setIfInBounds_toArray, List.set_cons_zero, List.set_cons_succ]
  refine takeH 3 30 (v := ?vs3_4) rfl (by rfl) (by kernel_rfl) (by kernel_rfl) (by kernel_rfl) (fun _ _ _ h => h) (Or.inl ⟨by rfl, ?_⟩) ((And.intro x_a_s0 x_r_s0)) ?_
  rotate_left
  · intro wq hSq
    go_simp
    exact rfl
  try simp only [Act.put, List.setIfInBounds_toArray, List.set_cons_zero, List.set_cons_succ]
  refine takeH 4 31 (v := ?vs4_5) rfl (by rfl) (by kernel_rfl) (by kernel_rfl) (by kernel_rfl) (fun _ _ _ h => h) (Or.inl ⟨by rfl, ?_⟩) ((And.intro x_a_s0 x_r_s0)) ?_
  rotate_left
  · intro wq hSq
    have cq := (hSq.1).c 1 _ rfl
    have zq := lt_of_cell cq
    go_simp
    exact rfl
  try simp only [Act.put, List.setIfInBounds_toArray, List.set_cons_zero, List.set_cons_succ]
  refine takeH 5 32 (v := ?vs5_6) rfl (by rfl) (by kernel_rfl) (by kernel_rfl) (by kernel_rfl) (fun _ _ _ h => h) (Or.inl ⟨by rfl, ?_⟩) ((And.intro x_a_s0 x_r_s0)) ?_
  rotate_left
  · intro wq hSq
    go_simp
    exact rfl
  try simp only [Act.put, List.setIfInBounds_toArray, List.set_cons_zero, List.set_cons_succ]
  refine takeH 6 33 (v := ?vs6_7) rfl (by rfl) (by kernel_rfl) (by kernel_rfl) (by kernel_rfl) (fun _ _ _ h => h) (Or.inl ⟨by rfl, ?_⟩) ((And.intro x_a_s0 x_r_s0)) ?_
  rotate_left
  · intro wq hSq
    go_simp
    exact rfl
  try simp only [Act.put, List.setIfInBounds_toArray, List.set_cons_zero, List.set_cons_succ]
  refine wpAnyH_ready (rs := [7]) (by kernel_rfl) (by simp) (AllReadyH.cons rfl (fun K hK => ?_) AllReadyH.nil)
  have mz_g := (z_g_s0).lt
  have mz_h := (z_h_s0).lt
  have nz_a := (x_a_s0).lt
  have nz_r := (x_r_s0).lt
  refine step_store_cell0 (k := i) (ws := (A.nx.set i (-1)).map (Value.int .i64)) (v := .int .i64 (-1)) rfl rfl _ _ _ rfl z_g_s0 rfl rfl rfl rfl size_in NG.out SG.out ?_
  intro Ws8 hWs8
  have x_a_s8 : Box Ws8 (w.heap.size) ([.slice (some ⟨g, 0, none⟩) n c, .slice (some ⟨h, 0, none⟩) n d, .int .i64 x]) := hWs8.past _ _ (by omega) x_a_s0
  have x_r_s8 : Box Ws8 (w.heap.size + 1) (ar0) := hWs8.past _ _ (by omega) x_r_s0
  have z_g_s8 := hWs8.box
  have z_h_s8 : Box Ws8 (h) (A.us.map Value.bool) := hWs8.past _ _ (by omega) z_h_s0
  have Bs8 := hWs8.below _ _ (by omega) Bs0
  clear nz_a nz_r x_a_s0 x_r_s0 z_g_s0 z_h_s0 Bs0 hWs8
  refine hK.out _ _ (And.intro x_a_s8 x_r_s8) (fun _ => ?_); clear hK K
  refine takeH 8 34 (v := ?vs8_9) rfl (by rfl) (by kernel_rfl) (by kernel_rfl) (by kernel_rfl) (fun _ _ _ h => h) (Or.inl ⟨by rfl, ?_⟩) ((And.intro x_a_s8 x_r_s8)) ?_
  rotate_left
  · intro wq hSq
    go_simp
    exact rfl
  try simp only [Act.put, List.setIfInBounds_toArray, List.set_cons_zero, List.set_cons_succ]
  refine wpAnyH_ready (rs := [9]) (by kernel_rfl) (by simp) (AllReadyH.cons rfl (fun K hK => ?_) AllReadyH.nil)
  have mz_g := (z_g_s8).lt
  have mz_h := (z_h_s8).lt
  have nz_a := (x_a_s8).lt
  have nz_r := (x_r_s8).lt
  refine step_store_cell0 (k := i) (ws := (A.us.set i true).map Value.bool) (v := .bool true) rfl rfl _ _ _ rfl z_h_s8 rfl rfl rfl rfl size_bl NH.out SH.out ?_
  intro Ws10 hWs10
  have x_a_s10 : Box Ws10 (w.heap.size) ([.slice (some ⟨g, 0, none⟩) n c, .slice (some ⟨h, 0, none⟩) n d, .int .i64 x]) := hWs10.past _ _ (by omega) x_a_s8
  have x_r_s10 : Box Ws10 (w.heap.size + 1) (ar0) := hWs10.past _ _ (by omega) x_r_s8
  have z_g_s10 : Box Ws10 (g) ((A.nx.set i (-1)).map (Value.int .i64)) := hWs10.past _ _ (by omega) z_g_s8
  have z_h_s10 := hWs10.box
  have Bs10 := hWs10.below _ _ (by omega) Bs8
  clear nz_a nz_r x_a_s8 x_r_s8 z_g_s8 z_h_s8 Bs8 hWs10
  refine hK.out _ _ (And.intro x_a_s10 x_r_s10) (fun _ => ?_); clear hK K
  refine wpAnyH_done (by kernel_rfl) ?_ _
  have lq := (x_r_s10).lt; have lqa := (x_a_s10).lt
  go_wp2_with (first | (refine wpList_load_box9 rfl _ _ rfl x_a_s10 rfl Try.underlying25 rfl (size_ar _ _ _) ?_) | (refine wpList_store_box (cs := [.slice (some ⟨g, 0, none⟩) n c, .slice (some ⟨h, 0, none⟩) n d, .int .i64 x]) rfl _ _ _ rfl x_r_s10 rfl rfl (size_ar _ _ _) rfl (one_ar _ _ _ _ _ _ _) ?_; intro W99 hW99))
  have yg := hW99.past _ _ (by omega) z_g_s10; have yh := hW99.past _ _ (by omega) z_h_s10
  exact bodyPost_ret (results_box3 Try.results12 hW99.box rfl rfl rfl Try.underlying25 rfl (size_ar _ _ _)) rfl ⟨_, rfl, IsA.boxes (A := A.took i x) yg yh rfl (by simp [Ar.took, HN.out]) (by simp [Ar.took, HU.out]) hc hd, fresh_boxes (by omega) (by omega), hW99.below _ _ (by omega) Bs10⟩

set_option maxRecDepth 100000 in
set_option maxHeartbeats 6400000 in
theorem pgive_a {v : Value} {A : Ar} {p : Int} (h : ∀ l, ¬ Valid A l) (w : World) (h1 : IsA w v A) : Calls Try.prog 14 #[v, .int .i64 p] w fun e w' => ∃ v, e = .returned (.tuple #[v, .int .i64 8]) ∧ ResA Ar.zero w v w' := by
  have CK := fun (W : World) (u : Value) (hu : IsA W u A) => pchk_is W hu (ChkA.bad h)
  have HA := Lib.hid h1
  obtain ⟨v1, v2, rfl, g1, g2⟩ := id h1
  obtain ⟨a1, c1, rfl, hr1⟩ := id g1; obtain ⟨a2, c2, rfl, hr2⟩ := id g2
  have m1 := hr1.most; have r1 := hr1.room; have m2 := hr2.most; have r2 := hr2.room; have H1 := Lib.hid g1; have H2 := Lib.hid g2
  clear hr1 hr2 g1 g2 h1
  have BI := fun W => build_ar0 W; have SA := Lib.hid (size_ar (.slice a1 A.nx.length c1) (.slice a2 A.us.length c2) (.int .i64 A.fr))
  go_enter Try.func14, Try.ntmps14
  go_upto_region 1 with fail
  refine F_gen (F := fun W => Code.wp _ _ _ _ W) (J := fun W => Box W (w.heap.size) ([.slice a1 A.nx.length c1, .slice a2 A.us.length c2, .int .i64 A.fr]) ∧ Box W (w.heap.size + 1) (ar0) ∧ Below w.heap.size w W) (And.intro (Box.alloc (Box.newc rfl rfl) _) (And.intro (Box.newc rfl (by simp)) (by go_grown))) ?_
  intro w0 ⟨e_a, e_r, hB0⟩
  have hs0 := hB0.size
  have x_a0 := e_a; clear e_a
  have x_r0 := e_r; clear e_r
  go_wp2_with (refine wpList_load_box9 rfl _ _ rfl x_a0 rfl Try.underlying25 rfl SA.out ?_)
  refine (CK _ _ (HA.out.below hB0)).mono ?_
  rintro e w1 ⟨rfl, hb⟩
  have hB1 : Below w.heap.size w w1 := below_thru hB0 hb
  have hs1 := hB1.size
  have x_a1 : Box w1 (w.heap.size) ([.slice a1 A.nx.length c1, .slice a2 A.us.length c2, .int .i64 A.fr]) := Box.below x_a0 hb
  have x_r1 : Box w1 (w.heap.size + 1) (ar0) := Box.below x_r0 hb
  clear hB0 hs0 x_a0 x_r0
  clear hb
  have lq := (x_r1).lt
  go_wp2_with (first | (refine wpList_build9 rfl 25 _ rfl (us := #[]) (by rfl) (BI _) ?_) | (refine wpList_store_box (cs := ar0) rfl _ _ _ rfl x_r1 rfl rfl size_ar0 rfl one_ar0 ?_; intro W99 hW99))
  exact bodyPost_ret (results_box2 Try.results14 hW99.box rfl rfl Try.underlying25 rfl size_ar0) rfl ⟨_, rfl, isA_zero _, fresh_zero _, hW99.below _ _ (by omega) hB1⟩

set_option maxRecDepth 100000 in
set_option maxHeartbeats 6400000 in
theorem pgive_b {v : Value} {A : Ar} {p : Int} {l : List Nat} (h : Valid A l) (hp : p < 0 ∨ (A.nx.length : Int) ≤ p) (w : World) (h1 : IsA w v A) : Calls Try.prog 14 #[v, .int .i64 p] w fun e w' => ∃ v, e = .returned (.tuple #[v, .int .i64 2]) ∧ ResA Ar.zero w v w' := by
  have CK := fun (W : World) (u : Value) (hu : IsA W u A) => pchk_is W hu (ChkA.good h)
  have PL := fun (W : World) (u : Value) (hu : IsA W u A) => ppl_is (p := p) (b := false) W hu ⟨fun h => (Bool.false_ne_true h).elim, fun h => by omega⟩
  clear hp
  have HA := Lib.hid h1
  obtain ⟨v1, v2, rfl, g1, g2⟩ := id h1
  obtain ⟨a1, c1, rfl, hr1⟩ := id g1; obtain ⟨a2, c2, rfl, hr2⟩ := id g2
  have m1 := hr1.most; have r1 := hr1.room; have m2 := hr2.most; have r2 := hr2.room; have H1 := Lib.hid g1; have H2 := Lib.hid g2
  clear hr1 hr2 g1 g2 h1
  have BI := fun W => build_ar0 W; have SA := Lib.hid (size_ar (.slice a1 A.nx.length c1) (.slice a2 A.us.length c2) (.int .i64 A.fr))
  go_enter Try.func14, Try.ntmps14
  go_upto_region 1 with fail
  refine F_gen (F := fun W => Code.wp _ _ _ _ W) (J := fun W => Box W (w.heap.size) ([.slice a1 A.nx.length c1, .slice a2 A.us.length c2, .int .i64 A.fr]) ∧ Box W (w.heap.size + 1) (ar0) ∧ Below w.heap.size w W) (And.intro (Box.alloc (Box.newc rfl rfl) _) (And.intro (Box.newc rfl (by simp)) (by go_grown))) ?_
  intro w0 ⟨e_a, e_r, hB0⟩
  have hs0 := hB0.size
  have x_a0 := e_a; clear e_a
  have x_r0 := e_r; clear e_r
  go_wp2_with (refine wpList_load_box9 rfl _ _ rfl x_a0 rfl Try.underlying25 rfl SA.out ?_)
  refine (CK _ _ (HA.out.below hB0)).mono ?_
  rintro e w1 ⟨rfl, hb⟩
  have hB1 : Below w.heap.size w w1 := below_thru hB0 hb
  have hs1 := hB1.size
  have x_a1 : Box w1 (w.heap.size) ([.slice a1 A.nx.length c1, .slice a2 A.us.length c2, .int .i64 A.fr]) := Box.below x_a0 hb
  have x_r1 : Box w1 (w.heap.size + 1) (ar0) := Box.below x_r0 hb
  clear hB0 hs0 x_a0 x_r0
  clear hb
  go_wp2_with (refine wpList_load_box9 rfl _ _ rfl x_a1 rfl Try.underlying25 rfl SA.out ?_)
  refine (PL _ _ (HA.out.below hB1)).mono ?_
  rintro e w2 ⟨rfl, hb⟩
  have hB2 : Below w.heap.size w w2 := below_thru hB1 hb
  have hs2 := hB2.size
  have x_a2 : Box w2 (w.heap.size) ([.slice a1 A.nx.length c1, .slice a2 A.us.length c2, .int .i64 A.fr]) := Box.below x_a1 hb
  have x_r2 : Box w2 (w.heap.size + 1) (ar0) := Box.below x_r1 hb
  clear hB1 hs1 x_a1 x_r1
  clear hb
  have lq := (x_r2).lt
  go_wp2_with (first | (refine wpList_build9 rfl 25 _ rfl (us := #[]) (by rfl) (BI _) ?_) | (refine wpList_store_box (cs := ar0) rfl _ _ _ rfl x_r2 rfl rfl size_ar0 rfl one_ar0 ?_; intro W99 hW99))
  exact bodyPost_ret (results_box2 Try.results14 hW99.box rfl rfl Try.underlying25 rfl size_ar0) rfl ⟨_, rfl, isA_zero _, fresh_zero _, hW99.below _ _ (by omega) hB2⟩

set_option maxRecDepth 100000 in
set_option maxHeartbeats 6400000 in
theorem pgive_c {v : Value} {A : Ar} {i : Nat} {l : List Nat} (hV : Valid A l) (hi : i < A.nx.length) (hx : A.us[i]? = some false) (w : World) (h1 : IsA w v A) : Calls Try.prog 14 #[v, .int .i64 (i : Int)] w fun e w' => ∃ v, e = .returned (.tuple #[v, .int .i64 36]) ∧ ResA Ar.zero w v w' := by
  have CK := fun (W : World) (u : Value) (hu : IsA W u A) => pchk_is W hu (ChkA.good hV); have CP := fun (W : World) (u : Value) (h : IsA W u A) => pcop_is W h ⟨by have := hV.most; omega, by have := hV.most; have := hV.len; omega⟩
  have PL := fun (W : World) (u : Value) (hu : IsA W u A) => ppl_is (p := (i : Int)) (b := true) W hu ⟨fun _ => ⟨by omega, by omega⟩, fun _ => rfl⟩
  have hp := hV.pos; have hu := hV.len
  have BI := fun W => build_ar0 W
  have HA := Lib.hid h1
  obtain ⟨v1, v2, rfl, g1, g2⟩ := id h1
  obtain ⟨a1, c1, rfl, hr1⟩ := id g1; obtain ⟨a2, c2, rfl, hr2⟩ := id g2
  have m1 := hr1.most; have r1 := hr1.room; have m2 := hr2.most; have r2 := hr2.room; have H1 := Lib.hid g1; have H2 := Lib.hid g2
  clear hr1 hr2 g1 g2 h1
  obtain ⟨n, hn⟩ : ∃ n, A.nx.length = n := ⟨_, rfl⟩
  rw [hu] at r2 H2 HA ⊢; rw [hn] at hu hp hi r1 r2 H1 H2 HA ⊢
  have HN := Lib.hid hn; have HU := Lib.hid hu; have HX := Lib.hid hx
  obtain ⟨b2, o2, rfl, e2⟩ := H2.out.getB hx
  have E2 := Lib.hid e2
  obtain ⟨F, hF⟩ : ∃ f, A.fr = f := ⟨_, rfl⟩
  rw [hF] at HA ⊢
  have HF := Lib.hid hF
  clear hn hu hV hx e2 hF
  have SA := Lib.hid (size_ar (.slice a1 n c1) (.slice (some ⟨b2, o2, none⟩) n c2) (.int .i64 F))
  have i0 : (0 : Int) ≤ (i : Int) := (by omega); have i1 : (i : Int) < (n : Int) := (by omega)
  go_enter Try.func14, Try.ntmps14
  go_upto_region 1 with fail
  refine F_gen (F := fun W => Code.wp _ _ _ _ W) (J := fun W => Box W (w.heap.size) ([.slice a1 n c1, .slice (some ⟨b2, o2, none⟩) n c2, .int .i64 F]) ∧ Box W (w.heap.size + 1) (ar0) ∧ Below w.heap.size w W) (And.intro (Box.alloc (Box.newc rfl rfl) _) (And.intro (Box.newc rfl (by simp)) (by go_grown))) ?_
  intro w0 ⟨e_a, e_r, hB0⟩
  have hs0 := hB0.size
  have x_a0 := e_a; clear e_a
  have x_r0 := e_r; clear e_r
  go_wp2_with (refine wpList_load_box9 rfl _ _ rfl x_a0 rfl Try.underlying25 rfl SA.out ?_)
  refine (CK _ _ (HA.out.below hB0)).mono ?_
  rintro e w1 ⟨rfl, hb⟩
  have hB1 : Below w.heap.size w w1 := below_thru hB0 hb
  have hs1 := hB1.size
  have x_a1 : Box w1 (w.heap.size) ([.slice a1 n c1, .slice (some ⟨b2, o2, none⟩) n c2, .int .i64 F]) := Box.below x_a0 hb
  have x_r1 : Box w1 (w.heap.size + 1) (ar0) := Box.below x_r0 hb
  clear hB0 hs0 x_a0 x_r0
  clear hb
  go_wp2_with (refine wpList_load_box9 rfl _ _ rfl x_a1 rfl Try.underlying25 rfl SA.out ?_)
  refine (PL _ _ (HA.out.below hB1)).mono ?_
  rintro e w2 ⟨rfl, hb⟩
  have hB2 : Below w.heap.size w w2 := below_thru hB1 hb
  have hs2 := hB2.size
  have x_a2 : Box w2 (w.heap.size) ([.slice a1 n c1, .slice (some ⟨b2, o2, none⟩) n c2, .int .i64 F]) := Box.below x_a1 hb
  have x_r2 : Box w2 (w.heap.size + 1) (ar0) := Box.below x_r1 hb
  clear hB1 hs1 x_a1 x_r1
  clear hb
  have ca := (x_a2).c 1 _ rfl
  have za := (x_a2).lt
  have f2 := cell_below hB2 E2.out; have z2 := lt_of_cell f2
  have lq := (x_r2).lt
  go_wp2_with (first | (refine wpList_build9 rfl 25 _ rfl (us := #[]) (by rfl) (BI _) ?_) | (refine wpList_store_box (cs := ar0) rfl _ _ _ rfl x_r2 rfl rfl size_ar0 rfl one_ar0 ?_; intro W99 hW99))
  exact bodyPost_ret (results_box2 Try.results14 hW99.box rfl rfl Try.underlying25 rfl size_ar0) rfl ⟨_, rfl, isA_zero _, fresh_zero _, hW99.below _ _ (by omega) hB2⟩

set_option maxRecDepth 100000 in
set_option maxHeartbeats 6400000 in
theorem pgive_d {v : Value} {A : Ar} {i : Nat} {l : List Nat} (hV : Valid A l) (hi : i < A.nx.length) (hx : A.us[i]? = some true) (w : World) (h1 : IsA w v A) : Calls Try.prog 14 #[v, .int .i64 (i : Int)] w fun e w' => ∃ v, e = .returned (.tuple #[v, .int .i64 0]) ∧ ResA (A.gave i) w v w' := by
  have CK := fun (W : World) (u : Value) (hu : IsA W u A) => pchk_is W hu (ChkA.good hV); have CP := fun (W : World) (u : Value) (h : IsA W u A) => pcop_is W h ⟨by have := hV.most; omega, by have := hV.most; have := hV.len; omega⟩
  have PL := fun (W : World) (u : Value) (hu : IsA W u A) => ppl_is (p := (i : Int)) (b := true) W hu ⟨fun _ => ⟨by omega, by omega⟩, fun _ => rfl⟩
  have hp := hV.pos; have hu := hV.len
  have BI := fun W => build_ar0 W
  have HA := Lib.hid h1
  obtain ⟨v1, v2, rfl, g1, g2⟩ := id h1
  obtain ⟨a1, c1, rfl, hr1⟩ := id g1; obtain ⟨a2, c2, rfl, hr2⟩ := id g2
  have m1 := hr1.most; have r1 := hr1.room; have m2 := hr2.most; have r2 := hr2.room; have H1 := Lib.hid g1; have H2 := Lib.hid g2
  clear hr1 hr2 g1 g2 h1
  obtain ⟨n, hn⟩ : ∃ n, A.nx.length = n := ⟨_, rfl⟩
  rw [hu] at r2 H2 HA ⊢; rw [hn] at hu hp hi r1 r2 H1 H2 HA ⊢
  have HN := Lib.hid hn; have HU := Lib.hid hu; have HX := Lib.hid hx
  obtain ⟨b2, o2, rfl, e2⟩ := H2.out.getB hx
  have E2 := Lib.hid e2
  obtain ⟨F, hF⟩ : ∃ f, A.fr = f := ⟨_, rfl⟩
  rw [hF] at HA ⊢
  have HF := Lib.hid hF
  clear hn hu hV hx e2 hF
  have SA := Lib.hid (size_ar (.slice a1 n c1) (.slice (some ⟨b2, o2, none⟩) n c2) (.int .i64 F))
  have i0 : (0 : Int) ≤ (i : Int) := (by omega); have i1 : (i : Int) < (n : Int) := (by omega)
  have NG := Lib.hid (show i < (A.nx.map (Value.int .i64)).length by rw [List.length_map, HN.out]; exact hi); have NH := Lib.hid (show i < (A.us.map Value.bool).length by rw [List.length_map, HU.out]; exact hi)
  have SG := Lib.hid (set_ints A.nx i F); have SH := Lib.hid (set_bools A.us i false)
  go_enter Try.func14, Try.ntmps14
  go_upto_region 1 with fail
  refine F_gen (F := fun W => Code.wp _ _ _ _ W) (J := fun W => Box W (w.heap.size) ([.slice a1 n c1, .slice (some ⟨b2, o2, none⟩) n c2, .int .i64 F]) ∧ Box W (w.heap.size + 1) (ar0) ∧ Below w.heap.size w W) (And.intro (Box.alloc (Box.newc rfl rfl) _) (And.intro (Box.newc rfl (by simp)) (by go_grown))) ?_
  intro w0 ⟨e_a, e_r, hB0⟩
  have hs0 := hB0.size
  have x_a0 := e_a; clear e_a
  have x_r0 := e_r; clear e_r
  go_wp2_with (refine wpList_load_box9 rfl _ _ rfl x_a0 rfl Try.underlying25 rfl SA.out ?_)
  refine (CK _ _ (HA.out.below hB0)).mono ?_
  rintro e w1 ⟨rfl, hb⟩
  have hB1 : Below w.heap.size w w1 := below_thru hB0 hb
  have hs1 := hB1.size
  have x_a1 : Box w1 (w.heap.size) ([.slice a1 n c1, .slice (some ⟨b2, o2, none⟩) n c2, .int .i64 F]) := Box.below x_a0 hb
  have x_r1 : Box w1 (w.heap.size + 1) (ar0) := Box.below x_r0 hb
  clear hB0 hs0 x_a0 x_r0
  clear hb
  go_wp2_with (refine wpList_load_box9 rfl _ _ rfl x_a1 rfl Try.underlying25 rfl SA.out ?_)
  refine (PL _ _ (HA.out.below hB1)).mono ?_
  rintro e w2 ⟨rfl, hb⟩
  have hB2 : Below w.heap.size w w2 := below_thru hB1 hb
  have hs2 := hB2.size
  have x_a2 : Box w2 (w.heap.size) ([.slice a1 n c1, .slice (some ⟨b2, o2, none⟩) n c2, .int .i64 F]) := Box.below x_a1 hb
  have x_r2 : Box w2 (w.heap.size + 1) (ar0) := Box.below x_r1 hb
  clear hB1 hs1 x_a1 x_r1
  clear hb
  have ca := (x_a2).c 1 _ rfl
  have za := (x_a2).lt
  have f2 := cell_below hB2 E2.out; have z2 := lt_of_cell f2
  go_upto_region 8 with fail
  clear f2 z2 ca za
  go_wp2_with (refine wpList_load_box9 rfl _ _ rfl x_a2 rfl Try.underlying25 rfl SA.out ?_)
  refine (CP _ _ (HA.out.below hB2)).mono ?_
  rintro e w5 ⟨va, vb, rfl, oa, ob, hb⟩
  rw [HF.out]
  obtain ⟨g, c, h, d, rfl, rfl, lg, lh, gh, hc, hd, xg, xh⟩ := own_arena oa ob (by rw [HN.out]; omega) (by rw [HU.out, HN.out])
  have kg : w.heap.size + 2 ≤ g := by have := (x_r2).lt; omega
  have kh : w.heap.size + 2 ≤ h := by have := (x_r2).lt; omega
  clear oa ob
  have hB3 : Below w.heap.size w w5 := below_thru hB2 hb
  have hs3 := hB3.size
  have x_a3 : Box w5 (w.heap.size) ([.slice a1 n c1, .slice (some ⟨b2, o2, none⟩) n c2, .int .i64 F]) := Box.below x_a2 hb
  have x_r3 : Box w5 (w.heap.size + 1) (ar0) := Box.below x_r2 hb
  clear hB2 hs2 x_a2 x_r2
  clear hb lg lh
  rw [HN.out] at hc hd ⊢
  have x_g3 : Box w5 g (A.nx.map (Value.int .i64)) := xg; have x_h3 : Box w5 h (A.us.map Value.bool) := xh; clear xg xh
  have lr_a := (x_a3).lt
  have lr_r := (x_r3).lt
  have lr_g := (x_g3).lt
  have lr_h := (x_h3).lt
  go_upto_region 9 with (refine wpList_store_box (cs := [.slice (some ⟨g, 0, none⟩) n c, .slice (some ⟨h, 0, none⟩) n d, .int .i64 F]) rfl _ _ _ rfl x_a3 rfl rfl (size_ar _ _ _) rfl (one_ar _ _ _ _ _ _ _) ?_; intro W84 hW84)
  have x_r4 : Box W84 (w.heap.size + 1) (ar0) := hW84.past _ _ (by omega) x_r3
  have x_g4 : Box W84 (g) (A.nx.map (Value.int .i64)) := hW84.past _ _ (by omega) x_g3
  have x_h4 : Box W84 (h) (A.us.map Value.bool) := hW84.past _ _ (by omega) x_h3
  have x_a4 : Box W84 (w.heap.size) ([.slice (some ⟨g, 0, none⟩) n c, .slice (some ⟨h, 0, none⟩) n d, .int .i64 F]) := hW84.box
  have hB4 : Below w.heap.size w W84 := hW84.below _ _ (by omega) hB3; have hs4 := hB4.size
  clear hW84 hB3 hs3 x_a3 x_r3 x_g3 x_h3 lr_a lr_r lr_g lr_h  
  refine wp_region_held_drew (S := fun W => Box W (w.heap.size) ([.slice (some ⟨g, 0, none⟩) n c, .slice (some ⟨h, 0, none⟩) n d, .int .i64 F]) ∧ Box W (w.heap.size + 1) (ar0)) (by kernel_rfl) (And.intro (x_a4).drew (x_r4).drew) (fun _ => ?_)
  refine F_drew (F := fun W => wpAnyH _ _ _ _ _ _ _ _ W) ?_
  intro Ws0 hbs0
  clear hs4
  have x_a_s0 : Box Ws0 (w.heap.size) ([.slice (some ⟨g, 0, none⟩) n c, .slice (some ⟨h, 0, none⟩) n d, .int .i64 F]) := Box.below x_a4 hbs0
  have x_r_s0 : Box Ws0 (w.heap.size + 1) (ar0) := Box.below x_r4 hbs0
  have z_g_s0 : Box Ws0 (g) (A.nx.map (Value.int .i64)) := Box.below x_g4 hbs0
  have z_h_s0 : Box Ws0 (h) (A.us.map Value.bool) := Box.below x_h4 hbs0
  have Bs0 := below_thru hB4 hbs0
  clear x_a4 x_r4 x_g4 x_h4 hB4 hbs0
  refine takeH 0 27 (v := ?vs0_1) rfl (by rfl) (by kernel_rfl) (by kernel_rfl) (by kernel_rfl) (fun _ _ _ h => h) (Or.inl ⟨by rfl, ?_⟩) ((And.intro x_a_s0 x_r_s0)) ?_
  rotate_left
  · intro wq hSq
    go_simp
    exact rfl
  try simp only [Act.put, List.setIfInBounds_toArray, List.set_cons_zero, List.set_cons_succ]
  refine takeH 1 28 (v := ?vs1_2) rfl (by rfl) (by kernel_rfl) (by kernel_rfl) (by kernel_rfl) (fun _ _ _ h => h) (Or.inl ⟨by rfl, ?_⟩) ((And.intro x_a_s0 x_r_s0)) ?_
  rotate_left
  · intro wq hSq
    have cq := (hSq.1).c 0 _ rfl
    have zq := lt_of_cell cq
    go_simp
    exact rfl
  try simp only [Act.put, List.setIfInBounds_toArray, List.set_cons_zero, List.set_cons_succ]
  refine takeH 2 29 (v := ?vs2_3) rfl (by rfl) (by kernel_rfl) (by kernel_rfl) (by kernel_rfl) (fun _ _ _ h => h) (Or.inl ⟨by rfl, ?_⟩) ((And.intro x_a_s0 x_r_s0)) ?_
  rotate_left
  · intro wq hSq
    go_simp
    exact rfl
  try simp only [Act.put, List.setIfInBounds_toArray, List.set_cons_zero, List.set_cons_succ]
  refine takeH 3 30 (v := ?vs3_4) rfl (by rfl) (by kernel_rfl) (by kernel_rfl) (by kernel_rfl) (fun _ _ _ h => h) (Or.inl ⟨by rfl, ?_⟩) ((And.intro x_a_s0 x_r_s0)) ?_
  rotate_left
  · intro wq hSq
    go_simp
    exact rfl
  try simp only [Act.put, List.setIfInBounds_toArray, List.set_cons_zero, List.set_cons_succ]
  refine takeH 4 31 (v := ?vs4_5) rfl (by rfl) (by kernel_rfl) (by kernel_rfl) (by kernel_rfl) (fun _ _ _ h => h) (Or.inl ⟨by rfl, ?_⟩) ((And.intro x_a_s0 x_r_s0)) ?_
  rotate_left
  · intro wq hSq
    have cq := (hSq.1).c 1 _ rfl
    have zq := lt_of_cell cq
    go_simp
    exact rfl
  try simp only [Act.put, List.setIfInBounds_toArray, List.set_cons_zero, List.set_cons_succ]
  refine takeH 5 32 (v := ?vs5_6) rfl (by rfl) (by kernel_rfl) (by kernel_rfl) (by kernel_rfl) (fun _ _ _ h => h) (Or.inl ⟨by rfl, ?_⟩) ((And.intro x_a_s0 x_r_s0)) ?_
  rotate_left
  · intro wq hSq
    go_simp
    exact rfl
  try simp only [Act.put, List.setIfInBounds_toArray, List.set_cons_zero, List.set_cons_succ]
  refine takeH 6 33 (v := ?vs6_7) rfl (by rfl) (by kernel_rfl) (by kernel_rfl) (by kernel_rfl) (fun _ _ _ h => h) (Or.inl ⟨by rfl, ?_⟩) ((And.intro x_a_s0 x_r_s0)) ?_
  rotate_left
  · intro wq hSq
    go_simp
    exact rfl
  try simp only [Act.put, List.setIfInBounds_toArray, List.set_cons_zero, List.set_cons_succ]
  refine takeH 7 34 (v := ?vs7_8) rfl (by rfl) (by kernel_rfl) (by kernel_rfl) (by kernel_rfl) (fun _ _ _ h => h) (Or.inl ⟨by rfl, ?_⟩) ((And.intro x_a_s0 x_r_s0)) ?_
  rotate_left
  · intro wq hSq
    have cq := (hSq.1).c 2 _ rfl
    have zq := lt_of_cell cq
    go_simp
    exact rfl
  try simp only [Act.put, List.setIfInBounds_toArray, List.set_cons_zero, List.set_cons_succ]
  refine takeH 8 35 (v := ?vs8_9) rfl (by rfl) (by kernel_rfl) (by kernel_rfl) (by kernel_rfl) (fun _ _ _ h => h) (Or.inl ⟨by rfl, ?_⟩) ((And.intro x_a_s0 x_r_s0)) ?_
  rotate_left
  · intro wq hSq
    go_simp
    exact rfl
  try simp only [Act.put, List.setIfInBounds_toArray, List.set_cons_zero, List.set_cons_succ]
  refine wpAnyH_ready (rs := [9]) (by kernel_rfl) (by simp) (AllReadyH.cons rfl (fun K hK => ?_) AllReadyH.nil)
  have mz_g := (z_g_s0).lt
  have mz_h := (z_h_s0).lt
  have nz_a := (x_a_s0).lt
  have nz_r := (x_r_s0).lt
  refine step_store_cell0 (k := i) (ws := (A.nx.set i F).map (Value.int .i64)) (v := .int .i64 F) rfl rfl _ _ _ rfl z_g_s0 rfl rfl rfl rfl size_in NG.out SG.out ?_
  intro Ws10 hWs10
  have x_a_s10 : Box Ws10 (w.heap.size) ([.slice (some ⟨g, 0, none⟩) n c, .slice (some ⟨h, 0, none⟩) n d, .int .i64 F]) := hWs10.past _ _ (by omega) x_a_s0
  have x_r_s10 : Box Ws10 (w.heap.size + 1) (ar0) := hWs10.past _ _ (by omega) x_r_s0
  have z_g_s10 := hWs10.box
  have z_h_s10 : Box Ws10 (h) (A.us.map Value.bool) := hWs10.past _ _ (by omega) z_h_s0
  have Bs10 := hWs10.below _ _ (by omega) Bs0
  clear nz_a nz_r x_a_s0 x_r_s0 z_g_s0 z_h_s0 Bs0 hWs10
  refine hK.out _ _ (And.intro x_a_s10 x_r_s10) (fun _ => ?_); clear hK K
  refine takeH 10 36 (v := ?vs10_11) rfl (by rfl) (by kernel_rfl) (by kernel_rfl) (by kernel_rfl) (fun _ _ _ h => h) (Or.inl ⟨by rfl, ?_⟩) ((And.intro x_a_s10 x_r_s10)) ?_
  rotate_left
  · intro wq hSq
    go_simp
    exact rfl
  try simp only [Act.put, List.setIfInBounds_toArray, List.set_cons_zero, List.set_cons_succ]
  refine wpAnyH_ready (rs := [11]) (by kernel_rfl) (by simp) (AllReadyH.cons rfl (fun K hK => ?_) AllReadyH.nil)
  have mz_g := (z_g_s10).lt
  have mz_h := (z_h_s10).lt
  have nz_a := (x_a_s10).lt
  have nz_r := (x_r_s10).lt
  refine step_store_cell0 (k := i) (ws := (A.us.set i false).map Value.bool) (v := .bool false) rfl rfl _ _ _ rfl z_h_s10 rfl rfl rfl rfl size_bl NH.out SH.out ?_
  intro Ws12 hWs12
  have x_a_s12 : Box Ws12 (w.heap.size) ([.slice (some ⟨g, 0, none⟩) n c, .slice (some ⟨h, 0, none⟩) n d, .int .i64 F]) := hWs12.past _ _ (by omega) x_a_s10
  have x_r_s12 : Box Ws12 (w.heap.size + 1) (ar0) := hWs12.past _ _ (by omega) x_r_s10
  have z_g_s12 : Box Ws12 (g) ((A.nx.set i F).map (Value.int .i64)) := hWs12.past _ _ (by omega) z_g_s10
  have z_h_s12 := hWs12.box
  have Bs12 := hWs12.below _ _ (by omega) Bs10
  clear nz_a nz_r x_a_s10 x_r_s10 z_g_s10 z_h_s10 Bs10 hWs12
  refine hK.out _ _ (And.intro x_a_s12 x_r_s12) (fun _ => ?_); clear hK K
  refine wpAnyH_done (by kernel_rfl) ?_ _
  have lq := (x_r_s12).lt; have lqa := (x_a_s12).lt
  go_upto_region 11 with (refine wpList_store_cell (k := 2) (ws := [.slice (some ⟨g, 0, none⟩) n c, .slice (some ⟨h, 0, none⟩) n d, .int .i64 (i : Int)]) (v := .int .i64 (i : Int)) rfl _ _ _ rfl x_a_s12 rfl rfl rfl rfl size_in (show 2 < 3 by decide) rfl ?_; intro W85 hW85)
  have y_a := hW85.box; have y_r := hW85.past _ _ (by omega) x_r_s12; have y_g := hW85.past _ _ (by omega) z_g_s12; have y_h := hW85.past _ _ (by omega) z_h_s12; have y_B := hW85.below _ _ (by omega) Bs12
  have lq2 := y_r.lt; clear hW85 lq lqa
  have lq := (y_r).lt; have lqa := (y_a).lt
  go_wp2_with (first | (refine wpList_load_box9 rfl _ _ rfl y_a rfl Try.underlying25 rfl (size_ar _ _ _) ?_) | (refine wpList_store_box (cs := [.slice (some ⟨g, 0, none⟩) n c, .slice (some ⟨h, 0, none⟩) n d, .int .i64 (i : Int)]) rfl _ _ _ rfl y_r rfl rfl (size_ar _ _ _) rfl (one_ar _ _ _ _ _ _ _) ?_; intro W99 hW99))
  have yg := hW99.past _ _ (by omega) y_g; have yh := hW99.past _ _ (by omega) y_h
  exact bodyPost_ret (results_box2 Try.results14 hW99.box rfl rfl Try.underlying25 rfl (size_ar _ _ _)) rfl ⟨_, rfl, IsA.boxes (A := A.gave i) (by rw [show (A.gave i).nx = A.nx.set i F by unfold Ar.gave; rw [HF.out]]; exact yg) yh rfl (by simp [Ar.gave, HN.out]) (by simp [Ar.gave, HU.out]) hc hd, fresh_boxes (by omega) (by omega), hW99.below _ _ (by omega) y_B⟩

set_option maxRecDepth 100000 in
set_option maxHeartbeats 6400000 in
theorem pcount_a {v : Value} {A : Ar} (h : ∀ l, ¬ Valid A l) (w : World) (h1 : IsA w v A) : Calls Try.prog 17 #[v] w fun e w' => e = .returned (.tuple #[.int .i64 0, .int .i64 0, .int .i64 8]) ∧ Below w.heap.size w w' := by
  have CK := fun (W : World) (u : Value) (hu : IsA W u A) => pchk_is W hu (ChkA.bad h)
  have HA := Lib.hid h1
  obtain ⟨v1, v2, rfl, g1, g2⟩ := id h1
  obtain ⟨a1, c1, rfl, hr1⟩ := id g1; obtain ⟨a2, c2, rfl, hr2⟩ := id g2
  have m1 := hr1.most; have r1 := hr1.room; have m2 := hr2.most; have r2 := hr2.room; have H1 := Lib.hid g1; have H2 := Lib.hid g2
  clear hr1 hr2 g1 g2 h1
  have SA := Lib.hid (size_ar (.slice a1 A.nx.length c1) (.slice a2 A.us.length c2) (.int .i64 A.fr))
  go_enter Try.func17, Try.ntmps17
  go_upto_region 1 with fail
  refine F_gen (F := fun W => Code.wp _ _ _ _ W) (J := fun W => Box W (w.heap.size) ([.slice a1 A.nx.length c1, .slice a2 A.us.length c2, .int .i64 A.fr]) ∧ Below w.heap.size w W) (And.intro (Box.newc rfl rfl) (by go_grown)) ?_
  intro w0 ⟨e_a, hB0⟩
  have hs0 := hB0.size
  have x_a0 := e_a; clear e_a
  go_wp2_with (refine wpList_load_box9 rfl _ _ rfl x_a0 rfl Try.underlying25 rfl SA.out ?_)
  refine (CK _ _ (HA.out.below hB0)).mono ?_
  rintro e w1 ⟨rfl, hb⟩
  have hB1 : Below w.heap.size w w1 := below_thru hB0 hb
  have hs1 := hB1.size
  have x_a1 : Box w1 (w.heap.size) ([.slice a1 A.nx.length c1, .slice a2 A.us.length c2, .int .i64 A.fr]) := Box.below x_a0 hb
  clear hB0 hs0 x_a0
  clear hb
  go_wp2_with fail
  go_returns
  exact ⟨rfl, hB1⟩

set_option maxRecDepth 100000 in
set_option maxHeartbeats 6400000 in
theorem pcount_b {v : Value} {A : Ar} {l : List Nat} (hV : Valid A l) (w : World) (h1 : IsA w v A) : Calls Try.prog 17 #[v] w fun e w' => e = .returned (.tuple #[.int .i64 (A.us.count true : Nat), .int .i64 (l.length : Nat), .int .i64 0]) ∧ Below w.heap.size w w' := by
  have CK := fun (W : World) (u : Value) (hu : IsA W u A) => pchk_is W hu (ChkA.good hV)
  have hu := hV.len; have hc := hV.count; have hm := hV.most
  have HA := Lib.hid h1
  obtain ⟨v1, v2, rfl, g1, g2⟩ := id h1
  obtain ⟨a1, c1, rfl, hr1⟩ := id g1; obtain ⟨a2, c2, rfl, hr2⟩ := id g2
  have m1 := hr1.most; have r1 := hr1.room; have m2 := hr2.most; have r2 := hr2.room; have H1 := Lib.hid g1; have H2 := Lib.hid g2
  clear hr1 hr2 g1 g2 h1
  obtain ⟨n, hn⟩ : ∃ n, A.nx.length = n := ⟨_, rfl⟩
  rw [hu] at r2 H2 HA ⊢; rw [hn] at hu hc hm r1 r2 H1 H2 HA ⊢
  have HN := Lib.hid hn; have HU := Lib.hid hu; have HC := Lib.hid hc; have HM := Lib.hid hm; clear hn hu hc hV
  have SA := Lib.hid (size_ar (.slice a1 n c1) (.slice a2 n c2) (.int .i64 A.fr))
  go_enter Try.func17, Try.ntmps17
  go_upto_region 1 with fail
  refine F_gen (F := fun W => Code.wp _ _ _ _ W) (J := fun W => Box W (w.heap.size) ([.slice a1 n c1, .slice a2 n c2, .int .i64 A.fr]) ∧ Below w.heap.size w W) (And.intro (Box.newc rfl rfl) (by go_grown)) ?_
  intro w0 ⟨e_a, hB0⟩
  have hs0 := hB0.size
  have x_a0 := e_a; clear e_a
  go_wp2_with (refine wpList_load_box9 rfl _ _ rfl x_a0 rfl Try.underlying25 rfl SA.out ?_)
  refine (CK _ _ (HA.out.below hB0)).mono ?_
  rintro e w1 ⟨rfl, hb⟩
  have hB1 : Below w.heap.size w w1 := below_thru hB0 hb
  have hs1 := hB1.size
  have x_a1 : Box w1 (w.heap.size) ([.slice a1 n c1, .slice a2 n c2, .int .i64 A.fr]) := Box.below x_a0 hb
  clear hB0 hs0 x_a0
  clear hb
  have ca := (x_a1).c 1 _ rfl
  have za := (x_a1).lt
  go_wp2_with fail
  clear ca za
  go_loopw [2, 16] (fun c i wr => ∃ k : Nat, k ≤ n ∧ i = .int .i64 k ∧ c = .int .i64 (cntT A.us k : Nat) ∧ Box wr w.heap.size [.slice a1 n c1, .slice a2 n c2, .int .i64 A.fr] ∧ Below w.heap.size w wr) (fun _ i _ => n - (intOf i).toNat)
  case atStart => exact ⟨0, Nat.zero_le _, rfl, by rw [cntT_zero]; rfl, x_a1, hB1⟩
  case round =>
    clear x_a1 hB1 hs1
    obtain ⟨k, hk, rfl, rfl, x_a, hB⟩ := hrel
    have hs := hB.size; have ca := x_a.c 1 _ rfl; have za := x_a.lt
    by_cases hlt : k < n
    case pos =>
      obtain ⟨u, hu⟩ : ∃ u, A.us[k]? = some u := ⟨_, List.getElem?_eq_getElem (by rw [HU.out]; exact hlt)⟩
      obtain ⟨b2, o2, rfl, e2⟩ := H2.out.getB hu
      have f2 := cell_below hB e2; have z2 := lt_of_cell f2
      have i0 : (0 : Int) ≤ (k : Int) := (by omega); have i1 : (k : Int) < (n : Int) := (by omega)
      have hle := cntT_le A.us k
      have HS := Lib.hid (cntT_succ hu)
      have W1 : IntKind.i64.wrap ((cntT A.us k : Int) + 1) = ((cntT A.us k + 1 : Nat) : Int) := by rw [IntKind.wrap_i64]; have := HM.out; omega
      clear e2 hu hle
      cases u with
      | true =>
        go_wp2_with fail
        go_roundw
        case rel => exact ⟨k + 1, by omega, by go_num, by rw [HS.out]; rfl, x_a, hB⟩
        case measure => simp [intOf]; omega
      | false =>
        go_wp2_with fail
        go_roundw
        case rel => exact ⟨k + 1, by omega, by go_num, by rw [HS.out]; rfl, x_a, hB⟩
        case measure => simp [intOf]; omega
    case neg =>
      have hd : decide ((k : Int) < (n : Int)) = false := decide_eq_false (by omega)
      have hc := cntT_all (us := A.us) (k := k) (by rw [HU.out]; omega)
      rw [hc]
      have W1 : IntKind.i64.wrap ((n : Int) - (A.us.count true : Int)) = ((l.length : Nat) : Int) := by rw [IntKind.wrap_i64]; have := HM.out; have := HC.out; omega
      clear hc
      go_upto_region 10 with fail
      clear hd hlt hk ca za
      have x_a7 := x_a; have hB7 := hB; have hs7 := hs; clear x_a hB hs
      refine wp_region_held_drew (S := fun W => Box W (w.heap.size) ([.slice a1 n c1, .slice a2 n c2, .int .i64 A.fr])) (by kernel_rfl) (x_a7).drew (fun _ => ?_)
      refine F_drew (F := fun W => wpAnyH _ _ _ _ _ _ _ _ W) ?_
      intro Ws0 hbs0
      clear hs7
      have x_a_s0 : Box Ws0 (w.heap.size) ([.slice a1 n c1, .slice a2 n c2, .int .i64 A.fr]) := Box.below x_a7 hbs0
      have Bs0 := below_thru hB7 hbs0
      clear x_a7 hB7 hbs0
      refine takeH 0 24 (v := ?vs0_1) rfl (by rfl) (by kernel_rfl) (by kernel_rfl) (by kernel_rfl) (fun _ _ _ h => h) (Or.inl ⟨by rfl, ?_⟩) (x_a_s0) ?_
      rotate_left
      · intro wq hSq
        go_simp
        exact rfl
      try simp only [Act.put, List.setIfInBounds_toArray, List.set_cons_zero, List.set_cons_succ]
      refine takeH 1 25 (v := ?vs1_2) rfl (by rfl) (by kernel_rfl) (by kernel_rfl) (by kernel_rfl) (fun _ _ _ h => h) (Or.inl ⟨by rfl, ?_⟩) (x_a_s0) ?_
      rotate_left
      · intro wq hSq
        go_simp
        exact rfl
      try simp only [Act.put, List.setIfInBounds_toArray, List.set_cons_zero, List.set_cons_succ]
      refine takeH 2 26 (v := ?vs2_3) rfl (by rfl) (by kernel_rfl) (by kernel_rfl) (by kernel_rfl) (fun _ _ _ h => h) (Or.inl ⟨by rfl, ?_⟩) (x_a_s0) ?_
      rotate_left
      · intro wq hSq
        have cq := (hSq).c 1 _ rfl
        have zq := lt_of_cell cq
        go_simp
        exact rfl
      try simp only [Act.put, List.setIfInBounds_toArray, List.set_cons_zero, List.set_cons_succ]
      refine takeH 3 27 (v := ?vs3_4) rfl (by rfl) (by kernel_rfl) (by kernel_rfl) (by kernel_rfl) (fun _ _ _ h => h) (Or.inl ⟨by rfl, ?_⟩) (x_a_s0) ?_
      rotate_left
      · intro wq hSq
        go_simp
        exact rfl
      try simp only [Act.put, List.setIfInBounds_toArray, List.set_cons_zero, List.set_cons_succ]
      refine takeH 4 28 (v := ?vs4_5) rfl (by rfl) (by kernel_rfl) (by kernel_rfl) (by kernel_rfl) (fun _ _ _ h => h) (Or.inl ⟨by rfl, ?_⟩) (x_a_s0) ?_
      rotate_left
      · intro wq hSq
        go_simp
        exact rfl
      try simp only [Act.put, List.setIfInBounds_toArray, List.set_cons_zero, List.set_cons_succ]
      refine takeH 5 29 (v := ?vs5_6) rfl (by rfl) (by kernel_rfl) (by kernel_rfl) (by kernel_rfl) (fun _ _ _ h => h) (Or.inl ⟨by rfl, ?_⟩) (x_a_s0) ?_
      rotate_left
      · intro wq hSq
        go_simp
        exact rfl
      try simp only [Act.put, List.setIfInBounds_toArray, List.set_cons_zero, List.set_cons_succ]
      refine takeH 6 2 (v := ?vs6_7) rfl (by rfl) (by kernel_rfl) (by kernel_rfl) (by kernel_rfl) (fun _ _ _ h => h) (Or.inl ⟨by rfl, ?_⟩) (x_a_s0) ?_
      rotate_left
      · intro wq hSq
        go_simp
        exact rfl
      try simp only [Act.put, List.setIfInBounds_toArray, List.set_cons_zero, List.set_cons_succ]
      refine takeH 7 3 (v := ?vs7_8) rfl (by rfl) (by kernel_rfl) (by kernel_rfl) (by kernel_rfl) (fun _ _ _ h => h) (Or.inl ⟨by rfl, ?_⟩) (x_a_s0) ?_
      rotate_left
      · intro wq hSq
        go_simp
        exact rfl
      try simp only [Act.put, List.setIfInBounds_toArray, List.set_cons_zero, List.set_cons_succ]
      refine takeH 8 4 (v := ?vs8_9) rfl (by rfl) (by kernel_rfl) (by kernel_rfl) (by kernel_rfl) (fun _ _ _ h => h) (Or.inl ⟨by rfl, ?_⟩) (x_a_s0) ?_
      rotate_left
      · intro wq hSq
        go_simp
        exact rfl
      try simp only [Act.put, List.setIfInBounds_toArray, List.set_cons_zero, List.set_cons_succ]
      refine wpAnyH_done (by kernel_rfl) ?_ _
      go_wp2_with fail
      go_returns
      exact ⟨rfl, Bs0⟩

/-- What Count answers. -/
def CtA (A : Ar) (m o q : Int) : Prop := (q = 8 ∧ (∀ l, ¬ Valid A l) ∧ m = 0 ∧ o = 0) ∨ (q = 0 ∧ ∃ l, Valid A l ∧ m = (A.us.count true : Nat) ∧ o = (l.length : Nat))
theorem CtA.ex (A : Ar) : ∃ m o q, CtA A m o q := by
  by_cases h : ∃ l, Valid A l
  · obtain ⟨l, hl⟩ := h
    exact ⟨_, _, _, Or.inr ⟨rfl, l, hl, rfl, rfl⟩⟩
  · exact ⟨_, _, _, Or.inl ⟨rfl, fun l hl => h ⟨l, hl⟩, rfl, rfl⟩⟩
theorem pcount_is {v : Value} {A : Ar} {m o q : Int} (h : CtA A m o q) (w : World) (h1 : IsA w v A) : Calls Try.prog 17 #[v] w fun e w' => e = .returned (.tuple #[.int .i64 m, .int .i64 o, .int .i64 q]) ∧ Below w.heap.size w w' := by
  rcases h with ⟨rfl, h, rfl, rfl⟩ | ⟨rfl, l, h, rfl, rfl⟩
  · exact pcount_a h w h1
  · exact pcount_b h w h1
theorem ptake_is {v : Value} {A B : Ar} {p q : Int} (h : TkA A B p q) (w : World) (h1 : IsA w v A) : Calls Try.prog 12 #[v] w fun e w' => ∃ v, e = .returned (.tuple #[v, .int .i64 p, .int .i64 q]) ∧ ResA B w v w' := by
  rcases h with ⟨rfl, h, rfl, rfl⟩ | ⟨rfl, h, rfl, rfl⟩ | ⟨rfl, i, r, x, h, hx, rfl, rfl⟩
  · exact ptake_a h w h1
  · exact ptake_b h w h1
  · exact ptake_c h hx w h1
theorem pgive_is {v : Value} {A B : Ar} {p q : Int} (h : GvA A p B q) (w : World) (h1 : IsA w v A) : Calls Try.prog 14 #[v, .int .i64 p] w fun e w' => ∃ v, e = .returned (.tuple #[v, .int .i64 q]) ∧ ResA B w v w' := by
  rcases h with ⟨rfl, h, rfl⟩ | ⟨l, hl, ⟨rfl, h, rfl⟩ | ⟨i, rfl, hi, ⟨rfl, hu, rfl⟩ | ⟨rfl, hu, rfl⟩⟩⟩
  · exact pgive_a h w h1
  · exact pgive_b hl h w h1
  · exact pgive_c hl hi hu w h1
  · exact pgive_d hl hi hu w h1

end Go.Proofs.Ytepimljjbmoojaa
