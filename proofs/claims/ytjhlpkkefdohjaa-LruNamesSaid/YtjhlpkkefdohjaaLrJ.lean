/-
  The reference of layer 15, walked: Touch, Remove, Last, List.
-/
import Derived.Test.YtjhlpkkefdohjaaLrI
namespace Go.Proofs.Ytjhlpkkefdohjaa
open Go.RowKit

theorem cons_flat (i : Nat) (m : List Nat) : flatR LI [(i : Int)] ++ flatR LI (nums m) = flatR LI (nums (i :: m)) := by rw [← flatR_app]; rfl
theorem cons_len (i : Nat) (m : List Nat) : 1 + (nums m).length = (i :: m).length := by rw [nums_len, List.length_cons]; omega
theorem nums_last {a : List Nat} {x : Nat} : (nums (a ++ [x]))[a.length]? = some (x : Int) := by
  rw [nums_snoc, List.getElem?_append_right (by rw [nums_len]; omega), nums_len]
  simp
theorem snoc_of {l : List Nat} (h : l ≠ []) : ∃ a x, l = a ++ [x] := ⟨l.dropLast, l.getLast h, (List.dropLast_concat_getLast h).symm⟩

set_option maxRecDepth 100000 in
set_option maxHeartbeats 6400000 in
theorem rltch_a {v : Value} {O : Od} {p q : Int} (h : PlO O p q) (hq : q ≠ 0) (w : World) (h1 : IsO w v O) : Calls Try.prog 13 #[v, .int .i64 p] w fun e w' => ∃ v, e = .returned (.tuple #[v, .int .i64 q]) ∧ ResO Od.zero w v w' := by
  have PL := fun (W : World) (u : Value) (hu9 : IsO W u O) => rlplace_is h W hu9
  have d0 : (q != 0) = true := by rw [bne_iff_ne]; exact hq
  clear h hq
  have HO := Lib.hid h1
  obtain ⟨v1, v2, rfl, g1, g2⟩ := id h1
  obtain ⟨a1, c1, rfl, hr1⟩ := id g1; obtain ⟨a2, c2, rfl, hr2⟩ := id g2
  have m1 := hr1.most; have r1 := hr1.room; have m2 := hr2.most; have r2 := hr2.room; have H1 := Lib.hid g1; have H2 := Lib.hid g2
  clear hr1 hr2 g1 g2 h1
  have SA := Lib.hid (size_od (.slice a1 O.pv.length c1) (.slice a2 O.nx.length c2) (.int .i64 O.hd) (.int .i64 O.tl))
  have BI := fun W => build_od0 W
  go_enter Try.func13, Try.ntmps13
  go_upto_region 1 with fail
  refine F_gen (F := fun W => Code.wp _ _ _ _ W) (J := fun W => Box W (w.heap.size) ([.slice a1 O.pv.length c1, .slice a2 O.nx.length c2, .int .i64 O.hd, .int .i64 O.tl]) ∧ Box W (w.heap.size + 1) (od0) ∧ Below w.heap.size w W) (And.intro (Box.alloc (Box.newc rfl rfl) _) (And.intro (Box.newc rfl (by simp)) (by go_grown))) ?_
  intro w0 ⟨e_a, e_r, hB0⟩
  have hs0 := hB0.size
  have x_a0 := e_a; clear e_a
  have x_r0 := e_r; clear e_r
  go_wp2_with (refine wpList_load_box9 rfl _ _ rfl x_a0 rfl Try.underlying24 rfl SA.out ?_)
  refine (PL _ _ (HO.out.below hB0)).mono ?_
  rintro e w1 ⟨rfl, hb⟩
  have hB1 : Below w.heap.size w w1 := below_thru hB0 hb
  have hs1 := hB1.size
  have x_a1 : Box w1 (w.heap.size) ([.slice a1 O.pv.length c1, .slice a2 O.nx.length c2, .int .i64 O.hd, .int .i64 O.tl]) := Box.below x_a0 hb
  have x_r1 : Box w1 (w.heap.size + 1) (od0) := Box.below x_r0 hb
  clear hB0 hs0 x_a0 x_r0
  clear hb
  go_wp2_with (first | (refine wpList_load_box9 rfl _ _ rfl x_a1 rfl Try.underlying24 rfl SA.out ?_) | (refine wpList_build9 rfl 24 _ rfl (us := #[]) (by rfl) (BI _) ?_))
  refine (PL _ _ (HO.out.below hB1)).mono ?_
  rintro e w2 ⟨rfl, hb⟩
  have hB2 : Below w.heap.size w w2 := below_thru hB1 hb
  have hs2 := hB2.size
  have x_a2 : Box w2 (w.heap.size) ([.slice a1 O.pv.length c1, .slice a2 O.nx.length c2, .int .i64 O.hd, .int .i64 O.tl]) := Box.below x_a1 hb
  have x_r2 : Box w2 (w.heap.size + 1) (od0) := Box.below x_r1 hb
  clear hB1 hs1 x_a1 x_r1
  clear hb
  have lq := (x_r2).lt
  go_wp2_with (first | (refine wpList_build9 rfl 24 _ rfl (us := #[]) (by rfl) (BI _) ?_) | (refine wpList_store_box (cs := od0) rfl _ _ _ rfl x_r2 rfl rfl size_od0 rfl one_od0 ?_; intro W99 hW99))
  exact bodyPost_ret (results_box2 Try.results13 hW99.box rfl rfl Try.underlying24 rfl size_od0) rfl ⟨_, rfl, isO_zero _, freshO_zero _, hW99.below _ _ (by omega) hB2⟩

set_option maxRecDepth 100000 in
set_option maxHeartbeats 6400000 in
theorem rltch_b {v : Value} {O : Od} {l : List Nat} {i : Nat} (hV : VO O l) (hi : i < O.pv.length) (w : World) (h1 : IsO w v O) : Calls Try.prog 13 #[v, .int .i64 (i : Int)] w fun e w' => ∃ v, e = .returned (.tuple #[v, .int .i64 0]) ∧ ResO (ofL O.pv.length (i :: woO l i)) w v w' := by
  have PL := fun (W : World) (u : Value) (hu9 : IsO W u O) => rlplace_is (p := (i : Int)) (q := 0) (Or.inr ⟨l, hV, Or.inr ⟨rfl, by omega, by omega⟩⟩) W hu9
  have AL := fun (W : World) (u : Value) (h : IsO W u O) => rlall_is W h (by have := hV.len; have := hV.most; omega) (Or.inl ⟨l, rfl, hV.freeL⟩); have hle : l.length ≤ 16 := Nat.le_trans hV.le hV.most
  have WO := fun (W : World) (u : Value) (h : IsR LI W u (nums l)) => rlwo_is (i := i) (by omega) W h
  have MD := fun (W : World) (u : Value) (h : IsR LI W u (nums (i :: woO l i))) => rlmade_is (n := O.pv.length) hV.pos (by have := hV.most; omega) (hV.touch hi).nodup (fun j hj => by have h9 := (hV.touch hi).lt j hj; rw [ofL_pv] at h9; exact h9) W h
  obtain ⟨tiLI, hinLI, hz0LI, hz1LI, hz2LI⟩ := info_parts info_in; have hwl : (woO l i).length ≤ 16 := Nat.le_trans (woO_le _ _) hle; have hnl : (nums (woO l i)).length ≤ 16 := by rw [nums_len]; exact hwl
  clear hV hi
  have HO := Lib.hid h1
  obtain ⟨v1, v2, rfl, g1, g2⟩ := id h1
  obtain ⟨a1, c1, rfl, hr1⟩ := id g1; obtain ⟨a2, c2, rfl, hr2⟩ := id g2
  have m1 := hr1.most; have r1 := hr1.room; have m2 := hr2.most; have r2 := hr2.room; have H1 := Lib.hid g1; have H2 := Lib.hid g2
  clear hr1 hr2 g1 g2 h1
  have SA := Lib.hid (size_od (.slice a1 O.pv.length c1) (.slice a2 O.nx.length c2) (.int .i64 O.hd) (.int .i64 O.tl))
  go_enter Try.func13, Try.ntmps13
  go_upto_region 1 with fail
  refine F_gen (F := fun W => Code.wp _ _ _ _ W) (J := fun W => Box W (w.heap.size) ([.slice a1 O.pv.length c1, .slice a2 O.nx.length c2, .int .i64 O.hd, .int .i64 O.tl]) ∧ Box W (w.heap.size + 1) (od0) ∧ Below w.heap.size w W) (And.intro (Box.alloc (Box.newc rfl rfl) _) (And.intro (Box.newc rfl (by simp)) (by go_grown))) ?_
  intro w0 ⟨e_a, e_r, hB0⟩
  have hs0 := hB0.size
  have x_a0 := e_a; clear e_a
  have x_r0 := e_r; clear e_r
  go_wp2_with (refine wpList_load_box9 rfl _ _ rfl x_a0 rfl Try.underlying24 rfl SA.out ?_)
  refine (PL _ _ (HO.out.below hB0)).mono ?_
  rintro e w1 ⟨rfl, hb⟩
  have hB1 : Below w.heap.size w w1 := below_thru hB0 hb
  have hs1 := hB1.size
  have x_a1 : Box w1 (w.heap.size) ([.slice a1 O.pv.length c1, .slice a2 O.nx.length c2, .int .i64 O.hd, .int .i64 O.tl]) := Box.below x_a0 hb
  have x_r1 : Box w1 (w.heap.size + 1) (od0) := Box.below x_r0 hb
  clear hB0 hs0 x_a0 x_r0
  clear hb
  go_wp2_with (refine wpList_load_box9 rfl _ _ rfl x_a1 rfl Try.underlying24 rfl SA.out ?_)
  refine (AL _ _ (HO.out.below hB1)).mono ?_
  rintro e w2 ⟨u, rfl, hI, hO9, hb⟩
  have hB2 : Below w.heap.size w w2 := below_thru hB1 hb
  have hs2 := hB2.size
  have x_a2 : Box w2 (w.heap.size) ([.slice a1 O.pv.length c1, .slice a2 O.nx.length c2, .int .i64 O.hd, .int .i64 O.tl]) := Box.below x_a1 hb
  have x_r2 : Box w2 (w.heap.size + 1) (od0) := Box.below x_r1 hb
  clear hB1 hs1 x_a1 x_r1
  clear hb
  clear hO9; have HI : Hid (IsR LI w2 u (nums l)) := Lib.hid hI; clear hI
  have K_w2_2 : Below w2.heap.size w2 w2 := Below.refl _ _
  go_upto_region 4 with fail
  refine wp_region_held_drew (S := fun W => Box W (w.heap.size) ([.slice a1 O.pv.length c1, .slice a2 O.nx.length c2, .int .i64 O.hd, .int .i64 O.tl])) (by kernel_rfl) (x_a2).drew (fun _ => ?_)
  refine F_drew (F := fun W => wpAnyH _ _ _ _ _ _ _ _ W) ?_
  intro Ws0 hbs0
  clear hs2
  have x_a_s0 : Box Ws0 (w.heap.size) ([.slice a1 O.pv.length c1, .slice a2 O.nx.length c2, .int .i64 O.hd, .int .i64 O.tl]) := Box.below x_a2 hbs0
  have z_r_s0 : Box Ws0 (w.heap.size + 1) (od0) := Box.below x_r2 hbs0
  have Bs0 := below_thru hB2 hbs0
  have K_w2_s0 := below_thru K_w2_2 hbs0
  clear x_a2 x_r2 hB2 K_w2_2 hbs0
  refine takeH 0 21 (v := ?vs0_1) rfl (by rfl) (by kernel_rfl) (by kernel_rfl) (by kernel_rfl) (fun _ _ _ h => h) (Or.inl ⟨by rfl, ?_⟩) (x_a_s0) ?_
  rotate_left
  · intro wq hSq
    go_simp
    exact rfl
  try simp only [Act.put, List.setIfInBounds_toArray, List.set_cons_zero, List.set_cons_succ]
  refine takeH 1 22 (v := ?vs1_2) rfl (by rfl) (by kernel_rfl) (by kernel_rfl) (by kernel_rfl) (fun _ _ _ h => h) (Or.inl ⟨by rfl, ?_⟩) (x_a_s0) ?_
  rotate_left
  · intro wq hSq
    have cq := hSq.c 0 _ rfl
    have zq := lt_of_cell cq
    go_simp
    exact rfl
  try simp only [Act.put, List.setIfInBounds_toArray, List.set_cons_zero, List.set_cons_succ]
  refine takeH 2 23 (v := ?vs2_3) rfl (by rfl) (by kernel_rfl) (by kernel_rfl) (by kernel_rfl) (fun _ _ _ h => h) (Or.inl ⟨by rfl, ?_⟩) (x_a_s0) ?_
  rotate_left
  · intro wq hSq
    go_simp
    exact rfl
  try simp only [Act.put, List.setIfInBounds_toArray, List.set_cons_zero, List.set_cons_succ]
  refine takeH 3 24 (v := ?vs3_4) rfl (by rfl) (by kernel_rfl) (by kernel_rfl) (by kernel_rfl) (fun _ _ _ h => h) (Or.inl ⟨by rfl, ?_⟩) (x_a_s0) ?_
  rotate_left
  · intro wq hSq
    go_simp
    exact rfl
  try simp only [Act.put, List.setIfInBounds_toArray, List.set_cons_zero, List.set_cons_succ]
  refine takeH 5 26 (v := ?vs5_5) rfl (by rfl) (by kernel_rfl) (by kernel_rfl) (by kernel_rfl) (fun _ _ _ h => h) (Or.inl ⟨by rfl, ?_⟩) (x_a_s0) ?_
  rotate_left
  · intro wq hSq
    go_simp
    exact rfl
  try simp only [Act.put, List.setIfInBounds_toArray, List.set_cons_zero, List.set_cons_succ]
  refine takeH 6 27 (v := ?vs6_6) rfl (by rfl) (by kernel_rfl) (by kernel_rfl) (by kernel_rfl) (fun _ _ _ h => h) (Or.inl ⟨by rfl, ?_⟩) (x_a_s0) ?_
  rotate_left
  · intro wq hSq
    go_simp
    exact rfl
  try simp only [Act.put, List.setIfInBounds_toArray, List.set_cons_zero, List.set_cons_succ]
  refine wpAnyH_ready (rs := [4, 7]) (by kernel_rfl) (by simp) (AllReadyH.cons rfl (fun K hK => ?_) (AllReadyH.cons rfl (fun K hK => ?_) AllReadyH.nil))
  · skip
    have zls7 : w.heap.size + 2 ≤ Ws0.heap.size := (by have := (z_r_s0).lt; omega)
    go_simp
    refine hK.out _ _ (Box.alloc x_a_s0 _) (fun _ => ?_); clear hK K
    refine F_gen (F := fun W => wpAnyH _ _ _ _ _ _ _ _ W) (J := fun W => Hid (W.ownsRow (w.heap.size + 2) 3 1 (.slice (some ⟨Ws0.heap.size, 0, none⟩) 1 1) (1) (flatR LI [(i : Int)])) ∧ Below Ws0.heap.size Ws0 W) (And.intro (Lib.hid (ownR_base (ownR_built (L := LI) [(i : Int)] rfl rfl rfl rfl rfl (show 1 ≤ 1000 by decide)) zls7)) ((Below.refl _ _).alloc (Nat.le_refl _) _)) ?_
    intro Ws7 ⟨na_x_s7, hbs7⟩
    have x_a_s7 : Box Ws7 (w.heap.size) ([.slice a1 O.pv.length c1, .slice a2 O.nx.length c2, .int .i64 O.hd, .int .i64 O.tl]) := Box.below x_a_s0 hbs7
    have z_r_s7 : Box Ws7 (w.heap.size + 1) (od0) := Box.below z_r_s0 hbs7
    have Bs7 := below_thru Bs0 hbs7
    have K_w2_s7 := below_thru K_w2_s0 hbs7
    clear x_a_s0 z_r_s0 Bs0 K_w2_s0 hbs7
    clear zls7
    refine wpAnyH_ready (rs := [7]) (by kernel_rfl) (by simp) (AllReadyH.cons rfl (fun K hK => ?_) AllReadyH.nil)
    go_simp
    have low8 := (z_r_s7).lt
    refine (WO _ _ (HI.out.below K_w2_s7)).mono ?_
    rintro e Ws8 ⟨v8, rfl, on8, hbs8⟩
    have ap_x_y8 := apart_of na_x_s7.out on8
    have x_a_s8 : Box Ws8 (w.heap.size) ([.slice a1 O.pv.length c1, .slice a2 O.nx.length c2, .int .i64 O.hd, .int .i64 O.tl]) := Box.below x_a_s7 hbs8
    have z_r_s8 : Box Ws8 (w.heap.size + 1) (od0) := Box.below z_r_s7 hbs8
    have o_x_s8 := Lib.hid (ownR_below na_x_s7.out hbs8)
    have Bs8 := below_thru Bs7 hbs8
    have K_w2_s8 := below_thru K_w2_s7 hbs8
    clear x_a_s7 z_r_s7 na_x_s7 Bs7 K_w2_s7 hbs8
    have oo8 := Lib.hid (ownR_base on8 (show w.heap.size + 2 ≤ _ by have := low8; omega)); clear on8 low8
    obtain ⟨p8, n8, rfl⟩ := own_slR oo8.out
    refine hK.out _ _ x_a_s8 (fun _ => ?_); clear hK K
    refine wpAnyH_ready (rs := [8]) (by kernel_rfl) (by simp) (AllReadyH.cons rfl (fun K hK => ?_) AllReadyH.nil)
    have zz9 : w.heap.size + 2 ≤ Ws8.heap.size := (by have := (z_r_s8).lt; omega)
    refine step_append_rowsA 29 rfl rfl LI _ _ 22 rfl (w.heap.size + 2) 3 tiLI (.int .i64 0) 1 8 rfl Try.underlying22 hinLI hz0LI hz1LI hz2LI rfl _ (1) _ rfl o_x_s8.out _ ((nums (woO l i))) rfl (IsR.own oo8.out rfl (nums_len _).symm) (by unfold maxLen; omega) (by omega) zz9 ?_
    intro vs9 Ws9 hown hgr hat
    have hKB := (Below.refl (w.heap.size + 2) _).grown hgr zz9 (ownR_block o_x_s8.out)
    have x_a_s9 : Box Ws9 (w.heap.size) ([.slice a1 O.pv.length c1, .slice a2 O.nx.length c2, .int .i64 O.hd, .int .i64 O.tl]) := Box.keep12 x_a_s8 hKB (by omega)
    have z_r_s9 : Box Ws9 (w.heap.size + 1) (od0) := Box.keep12 z_r_s8 hKB (by omega)
    have o_y_s9 := Lib.hid (ownR_apartB oo8.out (ap_x_y8).symm hgr)
    have ap_x_y9 := apart_grow ap_x_y8 oo8.out hat
    rw [cons_flat, cons_len i] at hown
    obtain ⟨vas9, vcs9, rfl⟩ := own_slR hown
    have o_x_s9 := Lib.hid hown
    have Bs9 := (Bs8).trans (hKB.mono (by omega))
    clear x_a_s8 z_r_s8 oo8 o_x_s8 Bs8 hown hgr hKB hat zz9
    refine hK.out _ _ x_a_s9 (fun _ => ?_); clear hK K
    refine wpAnyH_ready (rs := [9]) (by kernel_rfl) (by simp) (AllReadyH.cons rfl (fun K hK => ?_) AllReadyH.nil)
    go_simp
    have lz10 := (z_r_s9).lt
    refine (MD _ _ (IsR.own o_x_s9.out rfl (nums_len _).symm)).mono ?_
    rintro e Ws10 ⟨u10, rfl, hI10, hF10, hbs10⟩
    obtain ⟨x1, y1, rfl, rx, ry⟩ := id hI10; obtain ⟨px, cx, rfl, hrx⟩ := id rx; obtain ⟨py, cy, rfl, hry⟩ := id ry; clear hrx hry rx ry
    have HOF := Lib.hid (hF10.off (b := w.heap.size + 1) (by omega)); have HF2 := Lib.hid (hF10.base (m := w.heap.size) (by omega)); have HIR := Lib.hid hI10; clear lz10 hF10 hI10
    have x_a_s10 : Box Ws10 (w.heap.size) ([.slice a1 O.pv.length c1, .slice a2 O.nx.length c2, .int .i64 O.hd, .int .i64 O.tl]) := Box.below x_a_s9 hbs10
    have z_r_s10 : Box Ws10 (w.heap.size + 1) (od0) := Box.below z_r_s9 hbs10
    have o_x_s10 := Lib.hid (ownR_below o_x_s9.out hbs10)
    have Bs10 := below_thru Bs9 hbs10
    clear x_a_s9 z_r_s9 o_x_s9 Bs9 hbs10
    refine hK.out _ _ x_a_s10 (fun _ => ?_); clear hK K
    refine wpAnyH_ready (rs := [10]) (by kernel_rfl) (by simp) (AllReadyH.cons rfl (fun K hK => ?_) AllReadyH.nil)
    have nz_a := (x_a_s10).lt
    refine step_store_box0 (cs := [.slice px (ofL O.pv.length (i :: woO l i)).pv.length cx, .slice py (ofL O.pv.length (i :: woO l i)).nx.length cy, .int .i64 (ofL O.pv.length (i :: woO l i)).hd, .int .i64 (ofL O.pv.length (i :: woO l i)).tl]) rfl rfl _ _ _ rfl z_r_s10 rfl rfl (size_od _ _ _ _) rfl (one_od _ _ _ _ _ _ _ _) ?_
    intro Ws11 hWs11
    have HIS := Lib.hid (IsO.stored hWs11 HIR.out HOF.out); clear HIR HOF
    have x_a_s11 : Box Ws11 (w.heap.size) ([.slice a1 O.pv.length c1, .slice a2 O.nx.length c2, .int .i64 O.hd, .int .i64 O.tl]) := hWs11.past _ _ (by omega) x_a_s10
    have z_r_s11 := hWs11.box
    have o_x_s11 := Lib.hid (ownR_stored hWs11 o_x_s10.out (by omega))
    have Bs11 := hWs11.below _ _ (by omega) Bs10
    clear nz_a x_a_s10 z_r_s10 o_x_s10 Bs10 hWs11
    refine hK.out _ _ x_a_s11 (fun _ => ?_); clear hK K
    refine takeH 11 5 (v := ?vs11_12) rfl (by rfl) (by kernel_rfl) (by kernel_rfl) (by kernel_rfl) (fun _ _ _ h => h) (Or.inl ⟨by rfl, ?_⟩) (x_a_s11) ?_
    rotate_left
    · intro wq hSq
      go_simp
      exact rfl
    try simp only [Act.put, List.setIfInBounds_toArray, List.set_cons_zero, List.set_cons_succ]
    refine wpAnyH_done (by kernel_rfl) ?_ _
    go_wp2_with fail
    exact bodyPost_ret (results_box2 Try.results13 z_r_s11 rfl rfl Try.underlying24 rfl (size_od _ _ _ _)) rfl ⟨_, rfl, HIS.out, HF2.out, Bs11⟩
  · skip
    go_simp
    have low13 := (z_r_s0).lt
    refine (WO _ _ (HI.out.below K_w2_s0)).mono ?_
    rintro e Ws13 ⟨v13, rfl, on13, hbs13⟩
    have x_a_s13 : Box Ws13 (w.heap.size) ([.slice a1 O.pv.length c1, .slice a2 O.nx.length c2, .int .i64 O.hd, .int .i64 O.tl]) := Box.below x_a_s0 hbs13
    have z_r_s13 : Box Ws13 (w.heap.size + 1) (od0) := Box.below z_r_s0 hbs13
    have Bs13 := below_thru Bs0 hbs13
    have K_w2_s13 := below_thru K_w2_s0 hbs13
    clear x_a_s0 z_r_s0 Bs0 K_w2_s0 hbs13
    have oo13 := Lib.hid (ownR_base on13 (show w.heap.size + 2 ≤ _ by have := low13; omega)); clear on13 low13
    obtain ⟨p13, n13, rfl⟩ := own_slR oo13.out
    refine hK.out _ _ x_a_s13 (fun _ => ?_); clear hK K
    refine wpAnyH_ready (rs := [4]) (by kernel_rfl) (by simp) (AllReadyH.cons rfl (fun K hK => ?_) AllReadyH.nil)
    have ap_y_x14 := apart_new (m := 1) (c := 1) oo13.out
    have zls14 : w.heap.size + 2 ≤ Ws13.heap.size := (by have := (z_r_s13).lt; omega)
    go_simp
    refine hK.out _ _ (Box.alloc x_a_s13 _) (fun _ => ?_); clear hK K
    refine F_gen (F := fun W => wpAnyH _ _ _ _ _ _ _ _ W) (J := fun W => Hid (W.ownsRow (w.heap.size + 2) 3 1 (.slice (some ⟨Ws13.heap.size, 0, none⟩) 1 1) (1) (flatR LI [(i : Int)])) ∧ Below Ws13.heap.size Ws13 W) (And.intro (Lib.hid (ownR_base (ownR_built (L := LI) [(i : Int)] rfl rfl rfl rfl rfl (show 1 ≤ 1000 by decide)) zls14)) ((Below.refl _ _).alloc (Nat.le_refl _) _)) ?_
    intro Ws14 ⟨na_x_s14, hbs14⟩
    have x_a_s14 : Box Ws14 (w.heap.size) ([.slice a1 O.pv.length c1, .slice a2 O.nx.length c2, .int .i64 O.hd, .int .i64 O.tl]) := Box.below x_a_s13 hbs14
    have z_r_s14 : Box Ws14 (w.heap.size + 1) (od0) := Box.below z_r_s13 hbs14
    have o_y_s14 := Lib.hid (ownR_below oo13.out hbs14)
    have Bs14 := below_thru Bs13 hbs14
    have K_w2_s14 := below_thru K_w2_s13 hbs14
    clear x_a_s13 z_r_s13 oo13 Bs13 K_w2_s13 hbs14
    clear zls14
    refine wpAnyH_ready (rs := [8]) (by kernel_rfl) (by simp) (AllReadyH.cons rfl (fun K hK => ?_) AllReadyH.nil)
    have zz15 : w.heap.size + 2 ≤ Ws14.heap.size := (by have := (z_r_s14).lt; omega)
    refine step_append_rowsA 29 rfl rfl LI _ _ 22 rfl (w.heap.size + 2) 3 tiLI (.int .i64 0) 1 8 rfl Try.underlying22 hinLI hz0LI hz1LI hz2LI rfl _ (1) _ rfl na_x_s14.out _ ((nums (woO l i))) rfl (IsR.own o_y_s14.out rfl (nums_len _).symm) (by unfold maxLen; omega) (by omega) zz15 ?_
    intro vs15 Ws15 hown hgr hat
    have hKB := (Below.refl (w.heap.size + 2) _).grown hgr zz15 (ownR_block na_x_s14.out)
    have x_a_s15 : Box Ws15 (w.heap.size) ([.slice a1 O.pv.length c1, .slice a2 O.nx.length c2, .int .i64 O.hd, .int .i64 O.tl]) := Box.keep12 x_a_s14 hKB (by omega)
    have z_r_s15 : Box Ws15 (w.heap.size + 1) (od0) := Box.keep12 z_r_s14 hKB (by omega)
    have o_y_s15 := Lib.hid (ownR_apartB o_y_s14.out ap_y_x14 hgr)
    have ap_x_y15 := apart_grow (ap_y_x14).symm o_y_s14.out hat
    rw [cons_flat, cons_len i] at hown
    obtain ⟨vas15, vcs15, rfl⟩ := own_slR hown
    have o_x_s15 := Lib.hid hown
    have Bs15 := (Bs14).trans (hKB.mono (by omega))
    clear x_a_s14 z_r_s14 o_y_s14 na_x_s14 Bs14 hown hgr hKB hat zz15
    refine hK.out _ _ x_a_s15 (fun _ => ?_); clear hK K
    refine wpAnyH_ready (rs := [9]) (by kernel_rfl) (by simp) (AllReadyH.cons rfl (fun K hK => ?_) AllReadyH.nil)
    go_simp
    have lz16 := (z_r_s15).lt
    refine (MD _ _ (IsR.own o_x_s15.out rfl (nums_len _).symm)).mono ?_
    rintro e Ws16 ⟨u16, rfl, hI16, hF16, hbs16⟩
    obtain ⟨x1, y1, rfl, rx, ry⟩ := id hI16; obtain ⟨px, cx, rfl, hrx⟩ := id rx; obtain ⟨py, cy, rfl, hry⟩ := id ry; clear hrx hry rx ry
    have HOF := Lib.hid (hF16.off (b := w.heap.size + 1) (by omega)); have HF2 := Lib.hid (hF16.base (m := w.heap.size) (by omega)); have HIR := Lib.hid hI16; clear lz16 hF16 hI16
    have x_a_s16 : Box Ws16 (w.heap.size) ([.slice a1 O.pv.length c1, .slice a2 O.nx.length c2, .int .i64 O.hd, .int .i64 O.tl]) := Box.below x_a_s15 hbs16
    have z_r_s16 : Box Ws16 (w.heap.size + 1) (od0) := Box.below z_r_s15 hbs16
    have o_x_s16 := Lib.hid (ownR_below o_x_s15.out hbs16)
    have Bs16 := below_thru Bs15 hbs16
    clear x_a_s15 z_r_s15 o_x_s15 Bs15 hbs16
    refine hK.out _ _ x_a_s16 (fun _ => ?_); clear hK K
    refine wpAnyH_ready (rs := [10]) (by kernel_rfl) (by simp) (AllReadyH.cons rfl (fun K hK => ?_) AllReadyH.nil)
    have nz_a := (x_a_s16).lt
    refine step_store_box0 (cs := [.slice px (ofL O.pv.length (i :: woO l i)).pv.length cx, .slice py (ofL O.pv.length (i :: woO l i)).nx.length cy, .int .i64 (ofL O.pv.length (i :: woO l i)).hd, .int .i64 (ofL O.pv.length (i :: woO l i)).tl]) rfl rfl _ _ _ rfl z_r_s16 rfl rfl (size_od _ _ _ _) rfl (one_od _ _ _ _ _ _ _ _) ?_
    intro Ws17 hWs17
    have HIS := Lib.hid (IsO.stored hWs17 HIR.out HOF.out); clear HIR HOF
    have x_a_s17 : Box Ws17 (w.heap.size) ([.slice a1 O.pv.length c1, .slice a2 O.nx.length c2, .int .i64 O.hd, .int .i64 O.tl]) := hWs17.past _ _ (by omega) x_a_s16
    have z_r_s17 := hWs17.box
    have o_x_s17 := Lib.hid (ownR_stored hWs17 o_x_s16.out (by omega))
    have Bs17 := hWs17.below _ _ (by omega) Bs16
    clear nz_a x_a_s16 z_r_s16 o_x_s16 Bs16 hWs17
    refine hK.out _ _ x_a_s17 (fun _ => ?_); clear hK K
    refine takeH 11 5 (v := ?vs11_18) rfl (by rfl) (by kernel_rfl) (by kernel_rfl) (by kernel_rfl) (fun _ _ _ h => h) (Or.inl ⟨by rfl, ?_⟩) (x_a_s17) ?_
    rotate_left
    · intro wq hSq
      go_simp
      exact rfl
    try simp only [Act.put, List.setIfInBounds_toArray, List.set_cons_zero, List.set_cons_succ]
    refine wpAnyH_done (by kernel_rfl) ?_ _
    go_wp2_with fail
    exact bodyPost_ret (results_box2 Try.results13 z_r_s17 rfl rfl Try.underlying24 rfl (size_od _ _ _ _)) rfl ⟨_, rfl, HIS.out, HF2.out, Bs17⟩

theorem rltouch_is {v : Value} {O R : Od} {p q : Int} (h : TcO O p R q) (w : World) (h1 : IsO w v O) : Calls Try.prog 13 #[v, .int .i64 p] w fun e w' => ∃ v, e = .returned (.tuple #[v, .int .i64 q]) ∧ ResO R w v w' := by
  rcases h with ⟨rfl, h, rfl⟩ | ⟨l, hV, ⟨rfl, hp, rfl⟩ | ⟨i, rfl, hi, rfl, rfl⟩⟩
  · exact rltch_a (Or.inl ⟨rfl, h⟩) (by decide) w h1
  · exact rltch_a (Or.inr ⟨l, hV, Or.inl ⟨rfl, hp⟩⟩) (by decide) w h1
  · exact rltch_b hV hi w h1

set_option maxRecDepth 100000 in
set_option maxHeartbeats 6400000 in
theorem rlrm_a {v : Value} {O : Od} {p q : Int} (h : PlO O p q) (hq : q ≠ 0) (w : World) (h1 : IsO w v O) : Calls Try.prog 15 #[v, .int .i64 p] w fun e w' => ∃ v, e = .returned (.tuple #[v, .int .i64 q]) ∧ ResO Od.zero w v w' := by
  have PL := fun (W : World) (u : Value) (hu9 : IsO W u O) => rlplace_is h W hu9
  have d0 : (q != 0) = true := by rw [bne_iff_ne]; exact hq
  clear h hq
  have HO := Lib.hid h1
  obtain ⟨v1, v2, rfl, g1, g2⟩ := id h1
  obtain ⟨a1, c1, rfl, hr1⟩ := id g1; obtain ⟨a2, c2, rfl, hr2⟩ := id g2
  have m1 := hr1.most; have r1 := hr1.room; have m2 := hr2.most; have r2 := hr2.room; have H1 := Lib.hid g1; have H2 := Lib.hid g2
  clear hr1 hr2 g1 g2 h1
  have SA := Lib.hid (size_od (.slice a1 O.pv.length c1) (.slice a2 O.nx.length c2) (.int .i64 O.hd) (.int .i64 O.tl))
  have BI := fun W => build_od0 W
  go_enter Try.func15, Try.ntmps15
  go_upto_region 1 with fail
  refine F_gen (F := fun W => Code.wp _ _ _ _ W) (J := fun W => Box W (w.heap.size) ([.slice a1 O.pv.length c1, .slice a2 O.nx.length c2, .int .i64 O.hd, .int .i64 O.tl]) ∧ Box W (w.heap.size + 1) (od0) ∧ Below w.heap.size w W) (And.intro (Box.alloc (Box.newc rfl rfl) _) (And.intro (Box.newc rfl (by simp)) (by go_grown))) ?_
  intro w0 ⟨e_a, e_r, hB0⟩
  have hs0 := hB0.size
  have x_a0 := e_a; clear e_a
  have x_r0 := e_r; clear e_r
  go_wp2_with (refine wpList_load_box9 rfl _ _ rfl x_a0 rfl Try.underlying24 rfl SA.out ?_)
  refine (PL _ _ (HO.out.below hB0)).mono ?_
  rintro e w1 ⟨rfl, hb⟩
  have hB1 : Below w.heap.size w w1 := below_thru hB0 hb
  have hs1 := hB1.size
  have x_a1 : Box w1 (w.heap.size) ([.slice a1 O.pv.length c1, .slice a2 O.nx.length c2, .int .i64 O.hd, .int .i64 O.tl]) := Box.below x_a0 hb
  have x_r1 : Box w1 (w.heap.size + 1) (od0) := Box.below x_r0 hb
  clear hB0 hs0 x_a0 x_r0
  clear hb
  go_wp2_with (first | (refine wpList_load_box9 rfl _ _ rfl x_a1 rfl Try.underlying24 rfl SA.out ?_) | (refine wpList_build9 rfl 24 _ rfl (us := #[]) (by rfl) (BI _) ?_))
  refine (PL _ _ (HO.out.below hB1)).mono ?_
  rintro e w2 ⟨rfl, hb⟩
  have hB2 : Below w.heap.size w w2 := below_thru hB1 hb
  have hs2 := hB2.size
  have x_a2 : Box w2 (w.heap.size) ([.slice a1 O.pv.length c1, .slice a2 O.nx.length c2, .int .i64 O.hd, .int .i64 O.tl]) := Box.below x_a1 hb
  have x_r2 : Box w2 (w.heap.size + 1) (od0) := Box.below x_r1 hb
  clear hB1 hs1 x_a1 x_r1
  clear hb
  have lq := (x_r2).lt
  go_wp2_with (first | (refine wpList_build9 rfl 24 _ rfl (us := #[]) (by rfl) (BI _) ?_) | (refine wpList_store_box (cs := od0) rfl _ _ _ rfl x_r2 rfl rfl size_od0 rfl one_od0 ?_; intro W99 hW99))
  exact bodyPost_ret (results_box2 Try.results15 hW99.box rfl rfl Try.underlying24 rfl size_od0) rfl ⟨_, rfl, isO_zero _, freshO_zero _, hW99.below _ _ (by omega) hB2⟩

set_option maxRecDepth 100000 in
set_option maxHeartbeats 6400000 in
theorem rlrm_b {v : Value} {O : Od} {l : List Nat} {i : Nat} (hV : VO O l) (hi : i < O.pv.length) (hil : i ∉ l) (w : World) (h1 : IsO w v O) : Calls Try.prog 15 #[v, .int .i64 (i : Int)] w fun e w' => ∃ v, e = .returned (.tuple #[v, .int .i64 6]) ∧ ResO Od.zero w v w' := by
  have PL := fun (W : World) (u : Value) (hu9 : IsO W u O) => rlplace_is (p := (i : Int)) (q := 0) (Or.inr ⟨l, hV, Or.inr ⟨rfl, by omega, by omega⟩⟩) W hu9
  have AL := fun (W : World) (u : Value) (h : IsO W u O) => rlall_is W h (by have := hV.len; have := hV.most; omega) (Or.inl ⟨l, rfl, hV.freeL⟩); have hle : l.length ≤ 16 := Nat.le_trans hV.le hV.most
  have IN := fun (W : World) (u : Value) (h : IsR LI W u (nums l)) => rin_is (x := (i : Int)) (b := false) W h ⟨fun h => (Bool.false_ne_true h).elim, fun h => absurd (nums_mem.1 h) hil⟩
  have BI := fun W => build_od0 W
  clear hV hi hil
  have HO := Lib.hid h1
  obtain ⟨v1, v2, rfl, g1, g2⟩ := id h1
  obtain ⟨a1, c1, rfl, hr1⟩ := id g1; obtain ⟨a2, c2, rfl, hr2⟩ := id g2
  have m1 := hr1.most; have r1 := hr1.room; have m2 := hr2.most; have r2 := hr2.room; have H1 := Lib.hid g1; have H2 := Lib.hid g2
  clear hr1 hr2 g1 g2 h1
  have SA := Lib.hid (size_od (.slice a1 O.pv.length c1) (.slice a2 O.nx.length c2) (.int .i64 O.hd) (.int .i64 O.tl))
  go_enter Try.func15, Try.ntmps15
  go_upto_region 1 with fail
  refine F_gen (F := fun W => Code.wp _ _ _ _ W) (J := fun W => Box W (w.heap.size) ([.slice a1 O.pv.length c1, .slice a2 O.nx.length c2, .int .i64 O.hd, .int .i64 O.tl]) ∧ Box W (w.heap.size + 1) (od0) ∧ Below w.heap.size w W) (And.intro (Box.alloc (Box.newc rfl rfl) _) (And.intro (Box.newc rfl (by simp)) (by go_grown))) ?_
  intro w0 ⟨e_a, e_r, hB0⟩
  have hs0 := hB0.size
  have x_a0 := e_a; clear e_a
  have x_r0 := e_r; clear e_r
  go_wp2_with (refine wpList_load_box9 rfl _ _ rfl x_a0 rfl Try.underlying24 rfl SA.out ?_)
  refine (PL _ _ (HO.out.below hB0)).mono ?_
  rintro e w1 ⟨rfl, hb⟩
  have hB1 : Below w.heap.size w w1 := below_thru hB0 hb
  have hs1 := hB1.size
  have x_a1 : Box w1 (w.heap.size) ([.slice a1 O.pv.length c1, .slice a2 O.nx.length c2, .int .i64 O.hd, .int .i64 O.tl]) := Box.below x_a0 hb
  have x_r1 : Box w1 (w.heap.size + 1) (od0) := Box.below x_r0 hb
  clear hB0 hs0 x_a0 x_r0
  clear hb
  go_wp2_with (refine wpList_load_box9 rfl _ _ rfl x_a1 rfl Try.underlying24 rfl SA.out ?_)
  refine (AL _ _ (HO.out.below hB1)).mono ?_
  rintro e w2 ⟨u, rfl, hI, hO9, hb⟩
  have hB2 : Below w.heap.size w w2 := below_thru hB1 hb
  have hs2 := hB2.size
  have x_a2 : Box w2 (w.heap.size) ([.slice a1 O.pv.length c1, .slice a2 O.nx.length c2, .int .i64 O.hd, .int .i64 O.tl]) := Box.below x_a1 hb
  have x_r2 : Box w2 (w.heap.size + 1) (od0) := Box.below x_r1 hb
  clear hB1 hs1 x_a1 x_r1
  clear hb
  clear hO9; have HI : Hid (IsR LI w2 u (nums l)) := Lib.hid hI; clear hI
  have K_w2_2 : Below w2.heap.size w2 w2 := Below.refl _ _
  go_wp2_with fail
  refine (IN _ _ (HI.out.below K_w2_2)).mono ?_
  rintro e w3 ⟨rfl, hb⟩
  have K_w2_3 : Below w2.heap.size w2 w3 := below_thru K_w2_2 hb
  clear K_w2_2
  have hB3 : Below w.heap.size w w3 := below_thru hB2 hb
  have hs3 := hB3.size
  have x_a3 : Box w3 (w.heap.size) ([.slice a1 O.pv.length c1, .slice a2 O.nx.length c2, .int .i64 O.hd, .int .i64 O.tl]) := Box.below x_a2 hb
  have x_r3 : Box w3 (w.heap.size + 1) (od0) := Box.below x_r2 hb
  clear hB2 hs2 x_a2 x_r2
  clear hb
  clear K_w2_3
  have lq := (x_r3).lt
  go_wp2_with (first | (refine wpList_build9 rfl 24 _ rfl (us := #[]) (by rfl) (BI _) ?_) | (refine wpList_store_box (cs := od0) rfl _ _ _ rfl x_r3 rfl rfl size_od0 rfl one_od0 ?_; intro W99 hW99))
  exact bodyPost_ret (results_box2 Try.results15 hW99.box rfl rfl Try.underlying24 rfl size_od0) rfl ⟨_, rfl, isO_zero _, freshO_zero _, hW99.below _ _ (by omega) hB3⟩

set_option maxRecDepth 100000 in
set_option maxHeartbeats 6400000 in
theorem rlrm_c {v : Value} {O : Od} {l : List Nat} {i : Nat} (hV : VO O l) (hi : i < O.pv.length) (hil : i ∈ l) (w : World) (h1 : IsO w v O) : Calls Try.prog 15 #[v, .int .i64 (i : Int)] w fun e w' => ∃ v, e = .returned (.tuple #[v, .int .i64 0]) ∧ ResO (ofL O.pv.length (woO l i)) w v w' := by
  have PL := fun (W : World) (u : Value) (hu9 : IsO W u O) => rlplace_is (p := (i : Int)) (q := 0) (Or.inr ⟨l, hV, Or.inr ⟨rfl, by omega, by omega⟩⟩) W hu9
  have AL := fun (W : World) (u : Value) (h : IsO W u O) => rlall_is W h (by have := hV.len; have := hV.most; omega) (Or.inl ⟨l, rfl, hV.freeL⟩); have hle : l.length ≤ 16 := Nat.le_trans hV.le hV.most
  have IN := fun (W : World) (u : Value) (h : IsR LI W u (nums l)) => rin_is (x := (i : Int)) (b := true) W h ⟨fun _ => nums_mem.2 hil, fun _ => rfl⟩
  have WO := fun (W : World) (u : Value) (h : IsR LI W u (nums l)) => rlwo_is (i := i) (by omega) W h
  have MD := fun (W : World) (u : Value) (h : IsR LI W u (nums (woO l i))) => rlmade_is (n := O.pv.length) hV.pos (by have := hV.most; omega) (hV.wo i).nodup (fun j hj => by have h9 := (hV.wo i).lt j hj; rw [ofL_pv] at h9; exact h9) W h
  clear hV hi hil
  have HO := Lib.hid h1
  obtain ⟨v1, v2, rfl, g1, g2⟩ := id h1
  obtain ⟨a1, c1, rfl, hr1⟩ := id g1; obtain ⟨a2, c2, rfl, hr2⟩ := id g2
  have m1 := hr1.most; have r1 := hr1.room; have m2 := hr2.most; have r2 := hr2.room; have H1 := Lib.hid g1; have H2 := Lib.hid g2
  clear hr1 hr2 g1 g2 h1
  have SA := Lib.hid (size_od (.slice a1 O.pv.length c1) (.slice a2 O.nx.length c2) (.int .i64 O.hd) (.int .i64 O.tl))
  go_enter Try.func15, Try.ntmps15
  go_upto_region 1 with fail
  refine F_gen (F := fun W => Code.wp _ _ _ _ W) (J := fun W => Box W (w.heap.size) ([.slice a1 O.pv.length c1, .slice a2 O.nx.length c2, .int .i64 O.hd, .int .i64 O.tl]) ∧ Box W (w.heap.size + 1) (od0) ∧ Below w.heap.size w W) (And.intro (Box.alloc (Box.newc rfl rfl) _) (And.intro (Box.newc rfl (by simp)) (by go_grown))) ?_
  intro w0 ⟨e_a, e_r, hB0⟩
  have hs0 := hB0.size
  have x_a0 := e_a; clear e_a
  have x_r0 := e_r; clear e_r
  go_wp2_with (refine wpList_load_box9 rfl _ _ rfl x_a0 rfl Try.underlying24 rfl SA.out ?_)
  refine (PL _ _ (HO.out.below hB0)).mono ?_
  rintro e w1 ⟨rfl, hb⟩
  have hB1 : Below w.heap.size w w1 := below_thru hB0 hb
  have hs1 := hB1.size
  have x_a1 : Box w1 (w.heap.size) ([.slice a1 O.pv.length c1, .slice a2 O.nx.length c2, .int .i64 O.hd, .int .i64 O.tl]) := Box.below x_a0 hb
  have x_r1 : Box w1 (w.heap.size + 1) (od0) := Box.below x_r0 hb
  clear hB0 hs0 x_a0 x_r0
  clear hb
  go_wp2_with (refine wpList_load_box9 rfl _ _ rfl x_a1 rfl Try.underlying24 rfl SA.out ?_)
  refine (AL _ _ (HO.out.below hB1)).mono ?_
  rintro e w2 ⟨u, rfl, hI, hO9, hb⟩
  have hB2 : Below w.heap.size w w2 := below_thru hB1 hb
  have hs2 := hB2.size
  have x_a2 : Box w2 (w.heap.size) ([.slice a1 O.pv.length c1, .slice a2 O.nx.length c2, .int .i64 O.hd, .int .i64 O.tl]) := Box.below x_a1 hb
  have x_r2 : Box w2 (w.heap.size + 1) (od0) := Box.below x_r1 hb
  clear hB1 hs1 x_a1 x_r1
  clear hb
  clear hO9; have HI : Hid (IsR LI w2 u (nums l)) := Lib.hid hI; clear hI
  have K_w2_2 : Below w2.heap.size w2 w2 := Below.refl _ _
  go_wp2_with fail
  refine (IN _ _ (HI.out.below K_w2_2)).mono ?_
  rintro e w3 ⟨rfl, hb⟩
  have K_w2_3 : Below w2.heap.size w2 w3 := below_thru K_w2_2 hb
  clear K_w2_2
  have hB3 : Below w.heap.size w w3 := below_thru hB2 hb
  have hs3 := hB3.size
  have x_a3 : Box w3 (w.heap.size) ([.slice a1 O.pv.length c1, .slice a2 O.nx.length c2, .int .i64 O.hd, .int .i64 O.tl]) := Box.below x_a2 hb
  have x_r3 : Box w3 (w.heap.size + 1) (od0) := Box.below x_r2 hb
  clear hB2 hs2 x_a2 x_r2
  clear hb
  go_upto_region 6 with fail
  refine wp_region_held_drew (S := fun W => Box W (w.heap.size) ([.slice a1 O.pv.length c1, .slice a2 O.nx.length c2, .int .i64 O.hd, .int .i64 O.tl])) (by kernel_rfl) (x_a3).drew (fun _ => ?_)
  refine F_drew (F := fun W => wpAnyH _ _ _ _ _ _ _ _ W) ?_
  intro Ws0 hbs0
  clear hs3
  have x_a_s0 : Box Ws0 (w.heap.size) ([.slice a1 O.pv.length c1, .slice a2 O.nx.length c2, .int .i64 O.hd, .int .i64 O.tl]) := Box.below x_a3 hbs0
  have z_r_s0 : Box Ws0 (w.heap.size + 1) (od0) := Box.below x_r3 hbs0
  have Bs0 := below_thru hB3 hbs0
  have K_w2_s0 := below_thru K_w2_3 hbs0
  clear x_a3 x_r3 hB3 K_w2_3 hbs0
  refine takeH 0 26 (v := ?vs0_1) rfl (by rfl) (by kernel_rfl) (by kernel_rfl) (by kernel_rfl) (fun _ _ _ h => h) (Or.inl ⟨by rfl, ?_⟩) (x_a_s0) ?_
  rotate_left
  · intro wq hSq
    go_simp
    exact rfl
  try simp only [Act.put, List.setIfInBounds_toArray, List.set_cons_zero, List.set_cons_succ]
  refine takeH 1 27 (v := ?vs1_2) rfl (by rfl) (by kernel_rfl) (by kernel_rfl) (by kernel_rfl) (fun _ _ _ h => h) (Or.inl ⟨by rfl, ?_⟩) (x_a_s0) ?_
  rotate_left
  · intro wq hSq
    have cq := hSq.c 0 _ rfl
    have zq := lt_of_cell cq
    go_simp
    exact rfl
  try simp only [Act.put, List.setIfInBounds_toArray, List.set_cons_zero, List.set_cons_succ]
  refine takeH 2 28 (v := ?vs2_3) rfl (by rfl) (by kernel_rfl) (by kernel_rfl) (by kernel_rfl) (fun _ _ _ h => h) (Or.inl ⟨by rfl, ?_⟩) (x_a_s0) ?_
  rotate_left
  · intro wq hSq
    go_simp
    exact rfl
  try simp only [Act.put, List.setIfInBounds_toArray, List.set_cons_zero, List.set_cons_succ]
  refine takeH 3 29 (v := ?vs3_4) rfl (by rfl) (by kernel_rfl) (by kernel_rfl) (by kernel_rfl) (fun _ _ _ h => h) (Or.inl ⟨by rfl, ?_⟩) (x_a_s0) ?_
  rotate_left
  · intro wq hSq
    go_simp
    exact rfl
  try simp only [Act.put, List.setIfInBounds_toArray, List.set_cons_zero, List.set_cons_succ]
  refine takeH 4 30 (v := ?vs4_5) rfl (by rfl) (by kernel_rfl) (by kernel_rfl) (by kernel_rfl) (fun _ _ _ h => h) (Or.inl ⟨by rfl, ?_⟩) (x_a_s0) ?_
  rotate_left
  · intro wq hSq
    go_simp
    exact rfl
  try simp only [Act.put, List.setIfInBounds_toArray, List.set_cons_zero, List.set_cons_succ]
  refine wpAnyH_ready (rs := [5]) (by kernel_rfl) (by simp) (AllReadyH.cons rfl (fun K hK => ?_) AllReadyH.nil)
  go_simp
  have low6 := (z_r_s0).lt
  refine (WO _ _ (HI.out.below K_w2_s0)).mono ?_
  rintro e Ws6 ⟨v6, rfl, on6, hbs6⟩
  have x_a_s6 : Box Ws6 (w.heap.size) ([.slice a1 O.pv.length c1, .slice a2 O.nx.length c2, .int .i64 O.hd, .int .i64 O.tl]) := Box.below x_a_s0 hbs6
  have z_r_s6 : Box Ws6 (w.heap.size + 1) (od0) := Box.below z_r_s0 hbs6
  have Bs6 := below_thru Bs0 hbs6
  have K_w2_s6 := below_thru K_w2_s0 hbs6
  clear x_a_s0 z_r_s0 Bs0 K_w2_s0 hbs6
  have oo6 := Lib.hid (ownR_base on6 (show w.heap.size + 2 ≤ _ by have := low6; omega)); clear on6 low6
  obtain ⟨p6, n6, rfl⟩ := own_slR oo6.out
  refine hK.out _ _ x_a_s6 (fun _ => ?_); clear hK K
  refine wpAnyH_ready (rs := [6]) (by kernel_rfl) (by simp) (AllReadyH.cons rfl (fun K hK => ?_) AllReadyH.nil)
  go_simp
  have lz7 := (z_r_s6).lt
  refine (MD _ _ (IsR.own oo6.out rfl (nums_len _).symm)).mono ?_
  rintro e Ws7 ⟨u7, rfl, hI7, hF7, hbs7⟩
  obtain ⟨x1, y1, rfl, rx, ry⟩ := id hI7; obtain ⟨px, cx, rfl, hrx⟩ := id rx; obtain ⟨py, cy, rfl, hry⟩ := id ry; clear hrx hry rx ry
  have HOF := Lib.hid (hF7.off (b := w.heap.size + 1) (by omega)); have HF2 := Lib.hid (hF7.base (m := w.heap.size) (by omega)); have HIR := Lib.hid hI7; clear lz7 hF7 hI7
  have x_a_s7 : Box Ws7 (w.heap.size) ([.slice a1 O.pv.length c1, .slice a2 O.nx.length c2, .int .i64 O.hd, .int .i64 O.tl]) := Box.below x_a_s6 hbs7
  have z_r_s7 : Box Ws7 (w.heap.size + 1) (od0) := Box.below z_r_s6 hbs7
  have o_y_s7 := Lib.hid (ownR_below oo6.out hbs7)
  have Bs7 := below_thru Bs6 hbs7
  have K_w2_s7 := below_thru K_w2_s6 hbs7
  clear x_a_s6 z_r_s6 oo6 Bs6 K_w2_s6 hbs7
  refine hK.out _ _ x_a_s7 (fun _ => ?_); clear hK K
  refine wpAnyH_ready (rs := [7]) (by kernel_rfl) (by simp) (AllReadyH.cons rfl (fun K hK => ?_) AllReadyH.nil)
  have nz_a := (x_a_s7).lt
  refine step_store_box0 (cs := [.slice px (ofL O.pv.length (woO l i)).pv.length cx, .slice py (ofL O.pv.length (woO l i)).nx.length cy, .int .i64 (ofL O.pv.length (woO l i)).hd, .int .i64 (ofL O.pv.length (woO l i)).tl]) rfl rfl _ _ _ rfl z_r_s7 rfl rfl (size_od _ _ _ _) rfl (one_od _ _ _ _ _ _ _ _) ?_
  intro Ws8 hWs8
  have HIS := Lib.hid (IsO.stored hWs8 HIR.out HOF.out); clear HIR HOF
  have x_a_s8 : Box Ws8 (w.heap.size) ([.slice a1 O.pv.length c1, .slice a2 O.nx.length c2, .int .i64 O.hd, .int .i64 O.tl]) := hWs8.past _ _ (by omega) x_a_s7
  have z_r_s8 := hWs8.box
  have o_y_s8 := Lib.hid (ownR_stored hWs8 o_y_s7.out (by omega))
  have Bs8 := hWs8.below _ _ (by omega) Bs7
  clear nz_a x_a_s7 z_r_s7 o_y_s7 Bs7 hWs8
  refine hK.out _ _ x_a_s8 (fun _ => ?_); clear hK K
  refine takeH 8 5 (v := ?vs8_9) rfl (by rfl) (by kernel_rfl) (by kernel_rfl) (by kernel_rfl) (fun _ _ _ h => h) (Or.inl ⟨by rfl, ?_⟩) (x_a_s8) ?_
  rotate_left
  · intro wq hSq
    go_simp
    exact rfl
  try simp only [Act.put, List.setIfInBounds_toArray, List.set_cons_zero, List.set_cons_succ]
  refine wpAnyH_done (by kernel_rfl) ?_ _
  go_wp2_with fail
  exact bodyPost_ret (results_box2 Try.results15 z_r_s8 rfl rfl Try.underlying24 rfl (size_od _ _ _ _)) rfl ⟨_, rfl, HIS.out, HF2.out, Bs8⟩

theorem rlremove_is {v : Value} {O R : Od} {p q : Int} (h : RmO O p R q) (w : World) (h1 : IsO w v O) : Calls Try.prog 15 #[v, .int .i64 p] w fun e w' => ∃ v, e = .returned (.tuple #[v, .int .i64 q]) ∧ ResO R w v w' := by
  rcases h with ⟨rfl, h, rfl⟩ | ⟨l, hV, ⟨rfl, hp, rfl⟩ | ⟨i, rfl, hi, ⟨rfl, hil, rfl⟩ | ⟨rfl, hil, rfl⟩⟩⟩
  · exact rlrm_a (Or.inl ⟨rfl, h⟩) (by decide) w h1
  · exact rlrm_a (Or.inr ⟨l, hV, Or.inl ⟨rfl, hp⟩⟩) (by decide) w h1
  · exact rlrm_b hV hi hil w h1
  · exact rlrm_c hV hi hil w h1

set_option maxRecDepth 100000 in
set_option maxHeartbeats 6400000 in
theorem rllast_a {v : Value} {O : Od} (h : ∀ l, ¬ VO O l) (w : World) (h1 : IsO w v O) : Calls Try.prog 18 #[v] w fun e w' => e = .returned (.tuple #[.int .i64 0, .int .i64 8]) ∧ Below w.heap.size w w' := by
  have CK := fun (W : World) (u : Value) (hu9 : IsO W u O) => rlchk_is W hu9 (ChkO.bad h)
  have HO := Lib.hid h1
  obtain ⟨v1, v2, rfl, g1, g2⟩ := id h1
  obtain ⟨a1, c1, rfl, hr1⟩ := id g1; obtain ⟨a2, c2, rfl, hr2⟩ := id g2
  have m1 := hr1.most; have r1 := hr1.room; have m2 := hr2.most; have r2 := hr2.room; have H1 := Lib.hid g1; have H2 := Lib.hid g2
  clear hr1 hr2 g1 g2 h1
  have SA := Lib.hid (size_od (.slice a1 O.pv.length c1) (.slice a2 O.nx.length c2) (.int .i64 O.hd) (.int .i64 O.tl))
  go_enter Try.func18, Try.ntmps18
  go_upto_region 1 with fail
  refine F_gen (F := fun W => Code.wp _ _ _ _ W) (J := fun W => Box W (w.heap.size) ([.slice a1 O.pv.length c1, .slice a2 O.nx.length c2, .int .i64 O.hd, .int .i64 O.tl]) ∧ Below w.heap.size w W) (And.intro (Box.newc rfl rfl) (by go_grown)) ?_
  intro w0 ⟨e_a, hB0⟩
  have hs0 := hB0.size
  have x_a0 := e_a; clear e_a
  go_wp2_with (refine wpList_load_box9 rfl _ _ rfl x_a0 rfl Try.underlying24 rfl SA.out ?_)
  refine (CK _ _ (HO.out.below hB0)).mono ?_
  rintro e w1 ⟨rfl, hb⟩
  have hB1 : Below w.heap.size w w1 := below_thru hB0 hb
  have hs1 := hB1.size
  have x_a1 : Box w1 (w.heap.size) ([.slice a1 O.pv.length c1, .slice a2 O.nx.length c2, .int .i64 O.hd, .int .i64 O.tl]) := Box.below x_a0 hb
  clear hB0 hs0 x_a0
  clear hb
  go_wp2_with (refine wpList_load_box9 rfl _ _ rfl x_a1 rfl Try.underlying24 rfl SA.out ?_)
  refine (CK _ _ (HO.out.below hB1)).mono ?_
  rintro e w2 ⟨rfl, hb⟩
  have hB2 : Below w.heap.size w w2 := below_thru hB1 hb
  have hs2 := hB2.size
  have x_a2 : Box w2 (w.heap.size) ([.slice a1 O.pv.length c1, .slice a2 O.nx.length c2, .int .i64 O.hd, .int .i64 O.tl]) := Box.below x_a1 hb
  clear hB1 hs1 x_a1
  clear hb
  go_wp2_with fail
  go_returns
  exact ⟨rfl, hB2⟩

set_option maxRecDepth 100000 in
set_option maxHeartbeats 6400000 in
theorem rllast_b {v : Value} {O : Od} {l : List Nat} (hV : VO O l) (hl : l = []) (w : World) (h1 : IsO w v O) : Calls Try.prog 18 #[v] w fun e w' => e = .returned (.tuple #[.int .i64 0, .int .i64 6]) ∧ Below w.heap.size w w' := by
  subst hl
  have CK := fun (W : World) (u : Value) (hu9 : IsO W u O) => rlchk_is W hu9 (ChkO.good hV)
  have AL := fun (W : World) (u : Value) (h : IsO W u O) => rlall_is W h (by have := hV.len; have := hV.most; omega) (Or.inl ⟨_, rfl, hV.freeL⟩); have hle : ([] : List Nat).length ≤ 16 := Nat.le_trans hV.le hV.most
  clear hV
  have HO := Lib.hid h1
  obtain ⟨v1, v2, rfl, g1, g2⟩ := id h1
  obtain ⟨a1, c1, rfl, hr1⟩ := id g1; obtain ⟨a2, c2, rfl, hr2⟩ := id g2
  have m1 := hr1.most; have r1 := hr1.room; have m2 := hr2.most; have r2 := hr2.room; have H1 := Lib.hid g1; have H2 := Lib.hid g2
  clear hr1 hr2 g1 g2 h1
  have SA := Lib.hid (size_od (.slice a1 O.pv.length c1) (.slice a2 O.nx.length c2) (.int .i64 O.hd) (.int .i64 O.tl))
  go_enter Try.func18, Try.ntmps18
  go_upto_region 1 with fail
  refine F_gen (F := fun W => Code.wp _ _ _ _ W) (J := fun W => Box W (w.heap.size) ([.slice a1 O.pv.length c1, .slice a2 O.nx.length c2, .int .i64 O.hd, .int .i64 O.tl]) ∧ Below w.heap.size w W) (And.intro (Box.newc rfl rfl) (by go_grown)) ?_
  intro w0 ⟨e_a, hB0⟩
  have hs0 := hB0.size
  have x_a0 := e_a; clear e_a
  go_wp2_with (refine wpList_load_box9 rfl _ _ rfl x_a0 rfl Try.underlying24 rfl SA.out ?_)
  refine (CK _ _ (HO.out.below hB0)).mono ?_
  rintro e w1 ⟨rfl, hb⟩
  have hB1 : Below w.heap.size w w1 := below_thru hB0 hb
  have hs1 := hB1.size
  have x_a1 : Box w1 (w.heap.size) ([.slice a1 O.pv.length c1, .slice a2 O.nx.length c2, .int .i64 O.hd, .int .i64 O.tl]) := Box.below x_a0 hb
  clear hB0 hs0 x_a0
  clear hb
  go_wp2_with (refine wpList_load_box9 rfl _ _ rfl x_a1 rfl Try.underlying24 rfl SA.out ?_)
  refine (AL _ _ (HO.out.below hB1)).mono ?_
  rintro e w2 ⟨u, rfl, hI, hO9, hb⟩
  have hB2 : Below w.heap.size w w2 := below_thru hB1 hb
  have hs2 := hB2.size
  have x_a2 : Box w2 (w.heap.size) ([.slice a1 O.pv.length c1, .slice a2 O.nx.length c2, .int .i64 O.hd, .int .i64 O.tl]) := Box.below x_a1 hb
  clear hB1 hs1 x_a1
  clear hb
  clear hO9; obtain ⟨ua, uc, rfl, hru⟩ := hI; clear hru; have e0 : (nums (Option.getD (some []) [])).length = 0 := rfl; rw [e0]; clear e0
  go_wp2_with fail
  go_returns
  exact ⟨rfl, hB2⟩

set_option maxRecDepth 100000 in
set_option maxHeartbeats 6400000 in
theorem rllast_c {v : Value} {O : Od} {l : List Nat} (hV : VO O l) (hl : l ≠ []) (w : World) (h1 : IsO w v O) : Calls Try.prog 18 #[v] w fun e w' => e = .returned (.tuple #[.int .i64 (lstO (-1) l), .int .i64 0]) ∧ Below w.heap.size w w' := by
  obtain ⟨a, x, rfl⟩ := snoc_of hl; clear hl
  have CK := fun (W : World) (u : Value) (hu9 : IsO W u O) => rlchk_is W hu9 (ChkO.good hV)
  have AL := fun (W : World) (u : Value) (h : IsO W u O) => rlall_is W h (by have := hV.len; have := hV.most; omega) (Or.inl ⟨_, rfl, hV.freeL⟩); have hle : (a ++ [x]).length ≤ 16 := Nat.le_trans hV.le hV.most
  clear hV
  have HO := Lib.hid h1
  obtain ⟨v1, v2, rfl, g1, g2⟩ := id h1
  obtain ⟨a1, c1, rfl, hr1⟩ := id g1; obtain ⟨a2, c2, rfl, hr2⟩ := id g2
  have m1 := hr1.most; have r1 := hr1.room; have m2 := hr2.most; have r2 := hr2.room; have H1 := Lib.hid g1; have H2 := Lib.hid g2
  clear hr1 hr2 g1 g2 h1
  have SA := Lib.hid (size_od (.slice a1 O.pv.length c1) (.slice a2 O.nx.length c2) (.int .i64 O.hd) (.int .i64 O.tl))
  rw [lstO_snoc]; have hal : a.length ≤ 16 := by rw [List.length_append] at hle; omega
  have NLn := Lib.hid (show (nums (Option.getD (some (a ++ [x])) [])).length = a.length + 1 by show (nums (a ++ [x])).length = _; rw [nums_len, List.length_append, List.length_singleton]); have W1 : IntKind.i64.wrap (((a.length + 1 : Nat) : Int) - 1) = (a.length : Int) := by rw [IntKind.wrap_i64]; omega
  go_enter Try.func18, Try.ntmps18
  go_upto_region 1 with fail
  refine F_gen (F := fun W => Code.wp _ _ _ _ W) (J := fun W => Box W (w.heap.size) ([.slice a1 O.pv.length c1, .slice a2 O.nx.length c2, .int .i64 O.hd, .int .i64 O.tl]) ∧ Below w.heap.size w W) (And.intro (Box.newc rfl rfl) (by go_grown)) ?_
  intro w0 ⟨e_a, hB0⟩
  have hs0 := hB0.size
  have x_a0 := e_a; clear e_a
  go_wp2_with (refine wpList_load_box9 rfl _ _ rfl x_a0 rfl Try.underlying24 rfl SA.out ?_)
  refine (CK _ _ (HO.out.below hB0)).mono ?_
  rintro e w1 ⟨rfl, hb⟩
  have hB1 : Below w.heap.size w w1 := below_thru hB0 hb
  have hs1 := hB1.size
  have x_a1 : Box w1 (w.heap.size) ([.slice a1 O.pv.length c1, .slice a2 O.nx.length c2, .int .i64 O.hd, .int .i64 O.tl]) := Box.below x_a0 hb
  clear hB0 hs0 x_a0
  clear hb
  go_wp2_with (refine wpList_load_box9 rfl _ _ rfl x_a1 rfl Try.underlying24 rfl SA.out ?_)
  refine (AL _ _ (HO.out.below hB1)).mono ?_
  rintro e w2 ⟨u, rfl, hI, hO9, hb⟩
  have hB2 : Below w.heap.size w w2 := below_thru hB1 hb
  have hs2 := hB2.size
  have x_a2 : Box w2 (w.heap.size) ([.slice a1 O.pv.length c1, .slice a2 O.nx.length c2, .int .i64 O.hd, .int .i64 O.tl]) := Box.below x_a1 hb
  clear hB1 hs1 x_a1
  clear hb
  clear hO9; obtain ⟨ua, uc, rfl, hru⟩ := id hI; have hmu := hru.most; have hro := hru.room; clear hru; rw [NLn.out] at hI hro ⊢
  obtain ⟨b1, o1, rfl, f1⟩ := hI.getI (i := a.length) (x := (x : Int)) nums_last; clear hI; have z1 := lt_of_cell f1; have d0 : (((a.length + 1 : Nat) : Int) == 0) = false := by rw [beq_eq_false_iff_ne]; omega
  obtain ⟨n, hn⟩ : ∃ n, a.length = n := ⟨_, rfl⟩; rw [hn] at f1 d0 W1 hro hal ⊢; clear hn hle NLn; have W2 : IntKind.i64.wrap (n : Int) = (n : Int) := by rw [IntKind.wrap_i64]; omega
  have i0 : (0 : Int) ≤ (n : Int) := (by omega); have i1 : (n : Int) < ((n + 1 : Nat) : Int) := (by omega)
  go_wp2_with fail
  go_returns
  exact ⟨rfl, hB2⟩

set_option maxRecDepth 100000 in
set_option maxHeartbeats 6400000 in
theorem rllist_a {v : Value} {O : Od} (h : ∀ l, ¬ VO O l) (w : World) (h1 : IsO w v O) : Calls Try.prog 20 #[v] w fun e w' => ∃ u, e = .returned (.tuple #[u, .int .i64 8]) ∧ IsR LI w' u (nums []) ∧ (∀ k, u.ownBlock = some k → w.heap.size ≤ k) ∧ Below w.heap.size w w' := by
  have CK := fun (W : World) (u : Value) (hu9 : IsO W u O) => rlchk_is W hu9 (ChkO.bad h)
  have HO := Lib.hid h1
  obtain ⟨v1, v2, rfl, g1, g2⟩ := id h1
  obtain ⟨a1, c1, rfl, hr1⟩ := id g1; obtain ⟨a2, c2, rfl, hr2⟩ := id g2
  have m1 := hr1.most; have r1 := hr1.room; have m2 := hr2.most; have r2 := hr2.room; have H1 := Lib.hid g1; have H2 := Lib.hid g2
  clear hr1 hr2 g1 g2 h1
  have SA := Lib.hid (size_od (.slice a1 O.pv.length c1) (.slice a2 O.nx.length c2) (.int .i64 O.hd) (.int .i64 O.tl))
  go_enter Try.func20, Try.ntmps20
  go_upto_region 1 with fail
  refine F_gen (F := fun W => Code.wp _ _ _ _ W) (J := fun W => Box W (w.heap.size) ([.slice a1 O.pv.length c1, .slice a2 O.nx.length c2, .int .i64 O.hd, .int .i64 O.tl]) ∧ Below w.heap.size w W) (And.intro (Box.newc rfl rfl) (by go_grown)) ?_
  intro w0 ⟨e_a, hB0⟩
  have hs0 := hB0.size
  have x_a0 := e_a; clear e_a
  go_wp2_with (refine wpList_load_box9 rfl _ _ rfl x_a0 rfl Try.underlying24 rfl SA.out ?_)
  refine (CK _ _ (HO.out.below hB0)).mono ?_
  rintro e w1 ⟨rfl, hb⟩
  have hB1 : Below w.heap.size w w1 := below_thru hB0 hb
  have hs1 := hB1.size
  have x_a1 : Box w1 (w.heap.size) ([.slice a1 O.pv.length c1, .slice a2 O.nx.length c2, .int .i64 O.hd, .int .i64 O.tl]) := Box.below x_a0 hb
  clear hB0 hs0 x_a0
  clear hb
  go_wp2_with (refine wpList_load_box9 rfl _ _ rfl x_a1 rfl Try.underlying24 rfl SA.out ?_)
  refine (CK _ _ (HO.out.below hB1)).mono ?_
  rintro e w2 ⟨rfl, hb⟩
  have hB2 : Below w.heap.size w w2 := below_thru hB1 hb
  have hs2 := hB2.size
  have x_a2 : Box w2 (w.heap.size) ([.slice a1 O.pv.length c1, .slice a2 O.nx.length c2, .int .i64 O.hd, .int .i64 O.tl]) := Box.below x_a1 hb
  clear hB1 hs1 x_a1
  clear hb
  go_wp2_with fail
  go_returns
  exact ⟨_, rfl, IsR.none, none_own _, hB2⟩

set_option maxRecDepth 100000 in
set_option maxHeartbeats 6400000 in
theorem rllist_b {v : Value} {O : Od} {l : List Nat} (hV : VO O l) (w : World) (h1 : IsO w v O) : Calls Try.prog 20 #[v] w fun e w' => ∃ u, e = .returned (.tuple #[u, .int .i64 0]) ∧ IsR LI w' u (nums l) ∧ (∀ k, u.ownBlock = some k → w.heap.size ≤ k) ∧ Below w.heap.size w w' := by
  have CK := fun (W : World) (u : Value) (hu9 : IsO W u O) => rlchk_is W hu9 (ChkO.good hV)
  have AL := fun (W : World) (u : Value) (h : IsO W u O) => rlall_is W h (by have := hV.len; have := hV.most; omega) (Or.inl ⟨_, rfl, hV.freeL⟩); have hle : l.length ≤ 16 := Nat.le_trans hV.le hV.most
  clear hV
  have HO := Lib.hid h1
  obtain ⟨v1, v2, rfl, g1, g2⟩ := id h1
  obtain ⟨a1, c1, rfl, hr1⟩ := id g1; obtain ⟨a2, c2, rfl, hr2⟩ := id g2
  have m1 := hr1.most; have r1 := hr1.room; have m2 := hr2.most; have r2 := hr2.room; have H1 := Lib.hid g1; have H2 := Lib.hid g2
  clear hr1 hr2 g1 g2 h1
  have SA := Lib.hid (size_od (.slice a1 O.pv.length c1) (.slice a2 O.nx.length c2) (.int .i64 O.hd) (.int .i64 O.tl))
  go_enter Try.func20, Try.ntmps20
  go_upto_region 1 with fail
  refine F_gen (F := fun W => Code.wp _ _ _ _ W) (J := fun W => Box W (w.heap.size) ([.slice a1 O.pv.length c1, .slice a2 O.nx.length c2, .int .i64 O.hd, .int .i64 O.tl]) ∧ Below w.heap.size w W) (And.intro (Box.newc rfl rfl) (by go_grown)) ?_
  intro w0 ⟨e_a, hB0⟩
  have hs0 := hB0.size
  have x_a0 := e_a; clear e_a
  go_wp2_with (refine wpList_load_box9 rfl _ _ rfl x_a0 rfl Try.underlying24 rfl SA.out ?_)
  refine (CK _ _ (HO.out.below hB0)).mono ?_
  rintro e w1 ⟨rfl, hb⟩
  have hB1 : Below w.heap.size w w1 := below_thru hB0 hb
  have hs1 := hB1.size
  have x_a1 : Box w1 (w.heap.size) ([.slice a1 O.pv.length c1, .slice a2 O.nx.length c2, .int .i64 O.hd, .int .i64 O.tl]) := Box.below x_a0 hb
  clear hB0 hs0 x_a0
  clear hb
  go_wp2_with (refine wpList_load_box9 rfl _ _ rfl x_a1 rfl Try.underlying24 rfl SA.out ?_)
  refine (AL _ _ (HO.out.below hB1)).mono ?_
  have q1 := hs1
  rintro e w2 ⟨u, rfl, hI, hO9, hb⟩
  have hB2 : Below w.heap.size w w2 := below_thru hB1 hb
  have hs2 := hB2.size
  have x_a2 : Box w2 (w.heap.size) ([.slice a1 O.pv.length c1, .slice a2 O.nx.length c2, .int .i64 O.hd, .int .i64 O.tl]) := Box.below x_a1 hb
  clear hB1 hs1 x_a1
  clear hb
  skip
  have HI : Hid (IsR LI w2 u (nums l)) := Lib.hid hI; have HK := Lib.hid hO9; clear hI hO9
  go_wp2_with fail
  go_returns
  exact ⟨_, rfl, HI.out, (fun k e => Nat.le_trans q1 (HK.out k e)), hB2⟩

theorem rllast_is {v : Value} {O : Od} {p q : Int} (h : LaO O p q) (w : World) (h1 : IsO w v O) : Calls Try.prog 18 #[v] w fun e w' => e = .returned (.tuple #[.int .i64 p, .int .i64 q]) ∧ Below w.heap.size w w' := by
  rcases h with ⟨rfl, h, rfl⟩ | ⟨l, hV, ⟨rfl, hl, rfl⟩ | ⟨rfl, hl, rfl⟩⟩
  · exact rllast_a h w h1
  · exact rllast_b hV hl w h1
  · exact rllast_c hV hl w h1
theorem rllist_is {v : Value} {O : Od} {m : List Nat} {q : Int} (h : LiO O m q) (w : World) (h1 : IsO w v O) : Calls Try.prog 20 #[v] w fun e w' => ∃ u, e = .returned (.tuple #[u, .int .i64 q]) ∧ IsR LI w' u (nums m) ∧ (∀ k, u.ownBlock = some k → w.heap.size ≤ k) ∧ Below w.heap.size w w' := by
  rcases h with ⟨rfl, h, rfl⟩ | ⟨rfl, h⟩
  · exact rllist_a h w h1
  · exact rllist_b h w h1


end Go.Proofs.Ytjhlpkkefdohjaa
