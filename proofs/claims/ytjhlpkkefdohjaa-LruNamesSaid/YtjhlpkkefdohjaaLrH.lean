/-
  The reference of layer 15, walked: Made, Without.
-/
import Derived.Test.YtjhlpkkefdohjaaLrG
namespace Go.Proofs.Ytjhlpkkefdohjaa
open Go.RowKit

theorem rep_flat (k : Nat) : flatR LI (List.replicate k (-1)) ++ flatR LI [-1] = flatR LI (List.replicate (k + 1) (-1)) := by rw [← flatR_app, List.replicate_succ']
theorem take_snoc {l : List Nat} {k x : Nat} (h : l[k]? = some x) : l.take (k + 1) = l.take k ++ [x] := by rw [List.take_add_one, h]; rfl
theorem nums_at {l : List Nat} {k x : Nat} (h : l[k]? = some x) : (nums l)[k]? = some (x : Int) := by
  unfold nums
  rw [List.getElem?_map, h]
  rfl
theorem not_take {l : List Nat} {k x : Nat} (hn : l.Nodup) (h : l[k]? = some x) : x ∉ l.take k := fun q => by
  have h1 : (l.take (k + 1)).Nodup := hn.sublist (List.take_sublist _ _)
  rw [take_snoc h, List.nodup_append] at h1
  exact h1.2.2 x q x List.mem_cons_self rfl

set_option maxRecDepth 100000 in
set_option maxHeartbeats 6400000 in
theorem rlmade_is {v : Value} {n : Nat} {l : List Nat} (h1 : 1 ≤ n) (h2 : n ≤ 200) (hn : l.Nodup) (hlt : ∀ j ∈ l, j < n) (w : World) (hv : IsR LI w v (nums l)) : Calls Try.prog 29 #[.int .i64 (n : Int), v] w fun e w' => ∃ u, e = .returned u ∧ ResO (ofL n l) w u w' := by
  obtain ⟨a1, c1, rfl, hr1⟩ := id hv; have m1 := hr1.most; have r1 := hr1.room; have HV := Lib.hid hv; clear hr1 hv; rw [nums_len] at r1 HV ⊢; have HND := Lib.hid hn; have HLT := Lib.hid hlt; clear hn hlt
  obtain ⟨tiLI, hinLI, hz0LI, hz1LI, hz2LI⟩ := info_parts info_in; obtain ⟨m, hm⟩ : ∃ m, l.length = m := ⟨_, rfl⟩; rw [hm] at r1 HV ⊢; have HM := Lib.hid hm; clear hm
  go_enter Try.func29, Try.ntmps29
  go_upto_region 1 with fail
  refine F_gen (F := fun W => Code.wp _ _ _ _ W) (J := fun W => Box W (w.heap.size) (od0) ∧ Below w.heap.size w W) (And.intro (Box.newc rfl rfl) (by go_grown)) ?_
  intro w0 ⟨e_r, hB0⟩
  have hs0 := hB0.size
  have x_r0 := e_r; clear e_r
  have lo0 := (x_r0).lt
  have d_o_r := (x_r0).lt
  have d_o_0 := hs0
  go_upto_region 2 with (first
    | (refine wpList_build9 rfl 24 _ rfl (us := #[(2, .int .i64 (-1)), (3, .int .i64 (-1))]) (by rfl) (build_odN _) ?_)
    | (refine wpList_store_box (cs := [.slice none 0 0, .slice none 0 0, .int .i64 (-1), .int .i64 (-1)]) rfl _ _ _ rfl (Box.newc (l := od0) rfl rfl) rfl rfl (size_od _ _ _ _) rfl (one_od _ _ _ _ _ _ _ _) ?_; intro W0_0 hW0_0))
  have hN : Below w0.heap.size w0 W0_0 := (hW0_0.below _ _ (by omega) ((Below.refl _ w0).alloc (Nat.le_refl _) _))
  have x_o1 : Box W0_0 (w0.heap.size) ([.slice none 0 0, .slice none 0 0, .int .i64 (-1), .int .i64 (-1)]) := hW0_0.box
  have hB1 : Below w.heap.size w W0_0 := below_thru hB0 hN
  have hs1 := hB1.size
  have x_r1 : Box W0_0 (w.heap.size) (od0) := Box.below x_r0 hN
  clear hB0 hs0 x_r0
  clear hN hW0_0
  obtain ⟨bo, hbo⟩ : ∃ b, w0.heap.size = b := ⟨_, rfl⟩; rw [hbo] at x_o1 ⊢; have lbo : w.heap.size + 1 ≤ bo := by omega
  clear hbo lo0
  go_wp2_with fail
  go_loopw [6] (fun i wr => ∃ (k : Nat) (p : Option Addr) (c : Nat) (q : Option Addr) (d : Nat), k ≤ n ∧ i = .int .i64 k ∧ Box wr bo [.slice p k c, .slice q k d, .int .i64 (-1), .int .i64 (-1)] ∧ Box wr w.heap.size od0 ∧ Hid (wr.ownsRow (bo + 1) 3 1 (.slice p k c) k (flatR LI (List.replicate k (-1)))) ∧ Hid (wr.ownsRow (bo + 1) 3 1 (.slice q k d) k (flatR LI (List.replicate k (-1)))) ∧ Hid (ApartB (.slice p k c) (.slice q k d)) ∧ Below w.heap.size w wr) (fun i _ => n - (intOf i).toNat)
  case atStart => exact ⟨0, none, 0, none, 0, Nat.zero_le _, rfl, x_o1, x_r1, Lib.hid ownR_none, Lib.hid ownR_none, Lib.hid (ApartB.none_l _ _ _), hB1⟩
  case round =>
    clear x_o1 x_r1 hB1 hs1
    obtain ⟨k, p, c, q, d, hk, rfl, x_o, x_r, HOA, HOB, HAP, hB⟩ := hrel
    have hs := hB.size
    by_cases hlt : k < n
    case pos =>
      go_upto_region 5 with fail
      have x_r7 := x_r; have x_o7 := x_o; have hB7 := hB; have hs7 := hs; have O_a7 := HOA; have O_b7 := HOB; have apab := HAP.out; clear x_r x_o hB hs HOA HOB HAP
      have cd0 := x_o7.c 0 _ rfl; have cd1 := x_o7.c 1 _ rfl
      refine wp_region_k_drew (S := fun W => W.cell? ⟨bo, 0, none⟩ = some (.slice p k c) ∧ W.cell? ⟨bo, 1, none⟩ = some (.slice q k d)) 9 (by kernel_rfl) ?_
      refine F_drew (F := fun W => wpAnyK _ _ _ _ _ _ _ _ _ W) ?_
      intro Ws0 hbs0
      clear hs7
      have c_o0_s0 := cell_below hbs0 cd0
      have c_o1_s0 := cell_below hbs0 cd1
      have z_o_s0 : Box Ws0 (bo) ([.slice p k c, .slice q k d, .int .i64 (-1), .int .i64 (-1)]) := Box.below x_o7 hbs0
      have z_r_s0 : Box Ws0 (w.heap.size) (od0) := Box.below x_r7 hbs0
      have o_a_s0 := Lib.hid (ownR_below O_a7.out hbs0)
      have o_b_s0 := Lib.hid (ownR_below O_b7.out hbs0)
      have Bs0 := below_thru hB7 hbs0
      clear cd0 cd1 x_o7 x_r7 O_a7 O_b7 hB7 hbs0
      refine takeK (k := 9) 0 14 (v := ?vs0_1) rfl (by rfl) (by kernel_rfl) (by kernel_rfl) (by kernel_rfl) (fun _ _ _ h => h) (by decide) (by kernel_rfl) (by kernel_rfl) (Or.inl ⟨by rfl, ?_⟩) ((And.intro c_o0_s0 c_o1_s0)) ?_
      rotate_left
      · intro wq hSq
        go_simp
        exact rfl
      try simp only [Act.put, List.setIfInBounds_toArray, List.set_cons_zero, List.set_cons_succ]
      refine takeK (k := 9) 1 15 (v := ?vs1_2) rfl (by rfl) (by kernel_rfl) (by kernel_rfl) (by kernel_rfl) (fun _ _ _ h => h) (by decide) (by kernel_rfl) (by kernel_rfl) (Or.inl ⟨by rfl, ?_⟩) ((And.intro c_o0_s0 c_o1_s0)) ?_
      rotate_left
      · intro wq hSq
        have cq := hSq.1
        have zq := lt_of_cell cq
        go_simp
        exact rfl
      try simp only [Act.put, List.setIfInBounds_toArray, List.set_cons_zero, List.set_cons_succ]
      refine takeK (k := 9) 4 18 (v := ?vs4_3) rfl (by rfl) (by kernel_rfl) (by kernel_rfl) (by kernel_rfl) (fun _ _ _ h => h) (by decide) (by kernel_rfl) (by kernel_rfl) (Or.inl ⟨by rfl, ?_⟩) ((And.intro c_o0_s0 c_o1_s0)) ?_
      rotate_left
      · intro wq hSq
        go_simp
        exact rfl
      try simp only [Act.put, List.setIfInBounds_toArray, List.set_cons_zero, List.set_cons_succ]
      refine takeK (k := 9) 5 19 (v := ?vs5_4) rfl (by rfl) (by kernel_rfl) (by kernel_rfl) (by kernel_rfl) (fun _ _ _ h => h) (by decide) (by kernel_rfl) (by kernel_rfl) (Or.inl ⟨by rfl, ?_⟩) ((And.intro c_o0_s0 c_o1_s0)) ?_
      rotate_left
      · intro wq hSq
        have cq := hSq.2
        have zq := lt_of_cell cq
        go_simp
        exact rfl
      try simp only [Act.put, List.setIfInBounds_toArray, List.set_cons_zero, List.set_cons_succ]
      refine wpAnyK_ready (rs := [2, 6]) (by kernel_rfl) (by simp) (AllReadyK.cons rfl (fun K hK => ?_) (AllReadyK.cons rfl (fun K hK => ?_) AllReadyK.nil))
      · skip
        have ap_a_x5 := apart_new (m := 1) (c := 1) o_a_s0.out
        have ap_b_x5 := apart_new (m := 1) (c := 1) o_b_s0.out
        have zls5 : bo + 1 ≤ Ws0.heap.size := (by have := (z_o_s0).lt; omega)
        go_simp
        refine hK.out _ _ (fun _ => (And.intro (cell_alloc c_o0_s0) (cell_alloc c_o1_s0))) (fun _ => ?_); clear hK K
        refine F_gen (F := fun W => wpAnyK _ _ _ _ _ _ _ _ _ W) (J := fun W => Hid (W.ownsRow (bo + 1) 3 1 (.slice (some ⟨Ws0.heap.size, 0, none⟩) 1 1) (1) (flatR LI [-1])) ∧ Below Ws0.heap.size Ws0 W) (And.intro (Lib.hid (ownR_base (ownR_built (L := LI) [-1] rfl rfl rfl rfl rfl (by decide)) zls5)) ((Below.refl _ _).alloc (Nat.le_refl _) _)) ?_
        intro Ws5 ⟨na_x_s5, hbs5⟩
        have c_o0_s5 := cell_below hbs5 c_o0_s0
        have c_o1_s5 := cell_below hbs5 c_o1_s0
        have z_o_s5 : Box Ws5 (bo) ([.slice p k c, .slice q k d, .int .i64 (-1), .int .i64 (-1)]) := Box.below z_o_s0 hbs5
        have z_r_s5 : Box Ws5 (w.heap.size) (od0) := Box.below z_r_s0 hbs5
        have o_a_s5 := Lib.hid (ownR_below o_a_s0.out hbs5)
        have o_b_s5 := Lib.hid (ownR_below o_b_s0.out hbs5)
        have Bs5 := below_thru Bs0 hbs5
        clear c_o0_s0 c_o1_s0 z_o_s0 z_r_s0 o_a_s0 o_b_s0 Bs0 hbs5
        clear zls5
        refine wpAnyK_ready (rs := [3, 6]) (by kernel_rfl) (by simp) (AllReadyK.cons rfl (fun K hK => ?_) (AllReadyK.cons rfl (fun K hK => ?_) AllReadyK.nil))
        · skip
          have zz6 : bo + 1 ≤ Ws5.heap.size := (by have := (z_o_s5).lt; omega)
          refine step_append_rowsA 17 rfl rfl LI _ _ 22 rfl (bo + 1) 3 tiLI (.int .i64 0) 1 8 rfl Try.underlying22 hinLI hz0LI hz1LI hz2LI rfl _ (k) _ rfl o_a_s5.out _ ([-1]) rfl (IsR.own na_x_s5.out rfl rfl) (by unfold maxLen; have : ([(-1 : Int)] : List Int).length = 1 := rfl; omega) (by have : ([(-1 : Int)] : List Int).length = 1 := rfl; omega) zz6 ?_
          intro vs6 Ws6 hown hgr hat
          have hKB := (Below.refl (bo + 1) _).grown hgr zz6 (ownR_block o_a_s5.out)
          have z_o_s6 : Box Ws6 (bo) ([.slice p k c, .slice q k d, .int .i64 (-1), .int .i64 (-1)]) := Box.keep12 z_o_s5 hKB (by omega)
          have z_r_s6 : Box Ws6 (w.heap.size) (od0) := Box.keep12 z_r_s5 hKB (by omega)
          have c_o0_s6 := cell_keepB hKB c_o0_s5 (by omega)
          have c_o1_s6 := cell_keepB hKB c_o1_s5 (by omega)
          have o_b_s6 := Lib.hid (ownR_apartB o_b_s5.out (apab).symm hgr)
          have ap_a_b6 := apart_grow apab o_b_s5.out hat
          have o_x_s6 := Lib.hid (ownR_apartB na_x_s5.out (ap_a_x5).symm hgr)
          have ap_a_x6 := apart_grow ap_a_x5 na_x_s5.out hat
          rw [show [(-1 : Int)].length = 1 from rfl, rep_flat] at hown
          obtain ⟨vas6, vcs6, rfl⟩ := own_slR hown
          have o_a_s6 := Lib.hid hown
          have Bs6 := (Bs5).trans (hKB.mono (by omega))
          clear z_o_s5 z_r_s5 c_o0_s5 c_o1_s5 o_b_s5 na_x_s5 o_a_s5 Bs5 hown hgr hKB hat zz6
          refine hK.out _ _ (fun _ => (And.intro c_o0_s6 c_o1_s6)) (fun _ => ?_); clear hK K
          refine takeK (k := 9) 8 22 (v := ?vs8_7) rfl (by rfl) (by kernel_rfl) (by kernel_rfl) (by kernel_rfl) (fun _ _ _ h => h) (by decide) (by kernel_rfl) (by kernel_rfl) (Or.inl ⟨by rfl, ?_⟩) ((And.intro c_o0_s6 c_o1_s6)) ?_
          rotate_left
          · intro wq hSq
            go_simp
            exact rfl
          try simp only [Act.put, List.setIfInBounds_toArray, List.set_cons_zero, List.set_cons_succ]
          refine wpAnyK_ready (rs := [6]) (by kernel_rfl) (by simp) (AllReadyK.cons rfl (fun K hK => ?_) AllReadyK.nil)
          have ap_b_y8 := apart_new (m := 1) (c := 1) o_b_s6.out
          have ap_a_y8 := apart_new (m := 1) (c := 1) o_a_s6.out
          have zls8 : bo + 1 ≤ Ws6.heap.size := (by have := (z_o_s6).lt; omega)
          go_simp
          refine hK.out _ _ (fun _ => (And.intro (cell_alloc c_o0_s6) (cell_alloc c_o1_s6))) (fun _ => ?_); clear hK K
          refine F_gen (F := fun W => wpAnyK _ _ _ _ _ _ _ _ _ W) (J := fun W => Hid (W.ownsRow (bo + 1) 3 1 (.slice (some ⟨Ws6.heap.size, 0, none⟩) 1 1) (1) (flatR LI [-1])) ∧ Below Ws6.heap.size Ws6 W) (And.intro (Lib.hid (ownR_base (ownR_built (L := LI) [-1] rfl rfl rfl rfl rfl (by decide)) zls8)) ((Below.refl _ _).alloc (Nat.le_refl _) _)) ?_
          intro Ws8 ⟨na_y_s8, hbs8⟩
          have c_o0_s8 := cell_below hbs8 c_o0_s6
          have c_o1_s8 := cell_below hbs8 c_o1_s6
          have z_o_s8 : Box Ws8 (bo) ([.slice p k c, .slice q k d, .int .i64 (-1), .int .i64 (-1)]) := Box.below z_o_s6 hbs8
          have z_r_s8 : Box Ws8 (w.heap.size) (od0) := Box.below z_r_s6 hbs8
          have o_b_s8 := Lib.hid (ownR_below o_b_s6.out hbs8)
          have o_a_s8 := Lib.hid (ownR_below o_a_s6.out hbs8)
          have Bs8 := below_thru Bs6 hbs8
          clear c_o0_s6 c_o1_s6 z_o_s6 z_r_s6 o_b_s6 o_a_s6 Bs6 hbs8
          clear zls8
          refine wpAnyK_ready (rs := [7]) (by kernel_rfl) (by simp) (AllReadyK.cons rfl (fun K hK => ?_) AllReadyK.nil)
          have zz9 : bo + 1 ≤ Ws8.heap.size := (by have := (z_o_s8).lt; omega)
          refine step_append_rowsA 21 rfl rfl LI _ _ 22 rfl (bo + 1) 3 tiLI (.int .i64 0) 1 8 rfl Try.underlying22 hinLI hz0LI hz1LI hz2LI rfl _ (k) _ rfl o_b_s8.out _ ([-1]) rfl (IsR.own na_y_s8.out rfl rfl) (by unfold maxLen; have : ([(-1 : Int)] : List Int).length = 1 := rfl; omega) (by have : ([(-1 : Int)] : List Int).length = 1 := rfl; omega) zz9 ?_
          intro vs9 Ws9 hown hgr hat
          have hKB := (Below.refl (bo + 1) _).grown hgr zz9 (ownR_block o_b_s8.out)
          have z_o_s9 : Box Ws9 (bo) ([.slice p k c, .slice q k d, .int .i64 (-1), .int .i64 (-1)]) := Box.keep12 z_o_s8 hKB (by omega)
          have z_r_s9 : Box Ws9 (w.heap.size) (od0) := Box.keep12 z_r_s8 hKB (by omega)
          have c_o0_s9 := cell_keepB hKB c_o0_s8 (by omega)
          have c_o1_s9 := cell_keepB hKB c_o1_s8 (by omega)
          have o_a_s9 := Lib.hid (ownR_apartB o_a_s8.out ap_a_b6 hgr)
          have ap_b_a9 := apart_grow (ap_a_b6).symm o_a_s8.out hat
          have o_y_s9 := Lib.hid (ownR_apartB na_y_s8.out (ap_b_y8).symm hgr)
          have ap_b_y9 := apart_grow ap_b_y8 na_y_s8.out hat
          rw [show [(-1 : Int)].length = 1 from rfl, rep_flat] at hown
          obtain ⟨vas9, vcs9, rfl⟩ := own_slR hown
          have o_b_s9 := Lib.hid hown
          have Bs9 := (Bs8).trans (hKB.mono (by omega))
          clear z_o_s8 z_r_s8 c_o0_s8 c_o1_s8 o_a_s8 na_y_s8 o_b_s8 Bs8 hown hgr hKB hat zz9
          refine hK.out _ _ (fun _ => (And.intro c_o0_s9 c_o1_s9)) (fun _ => ?_); clear hK K
          refine wpAnyK_ready (rs := [9]) (by kernel_rfl) (by simp) (AllReadyK.cons rfl (fun K hK => ?_) AllReadyK.nil)
          refine step_store_cell0 (k := 0) (ws := [.slice vas6 (k + 1) vcs6, .slice q k d, .int .i64 (-1), .int .i64 (-1)]) (v := .slice vas6 (k + 1) vcs6) rfl rfl _ _ _ rfl z_o_s9 rfl rfl rfl rfl size_sl (by show 0 < 4; decide) rfl ?_
          intro Ws10 hWs10
          have z_o_s10 := hWs10.box
          have z_r_s10 : Box Ws10 (w.heap.size) (od0) := hWs10.past _ _ (by omega) z_r_s9
          have o_a_s10 := Lib.hid (ownR_stored hWs10 o_a_s9.out (by omega))
          have o_b_s10 := Lib.hid (ownR_stored hWs10 o_b_s9.out (by omega))
          have Bs10 := hWs10.below _ _ (by omega) Bs9
          clear z_o_s9 z_r_s9 o_a_s9 o_b_s9 Bs9 hWs10
          refine hK.out _ _ (fun h => (Bool.false_ne_true (h.symm.trans (by kernel_rfl))).elim) (fun _ => ?_); clear hK K
          refine takeY (k := 9) 10 23 (v := ?vs10_11) rfl (by rfl) (by kernel_rfl) (by kernel_rfl) (by kernel_rfl) (fun _ _ _ h => h) (by decide) (Or.inl ⟨by rfl, ?_⟩) (fun h => (Bool.false_ne_true (h.symm.trans (by kernel_rfl))).elim) ?_
          rotate_left
          · intro wq hSq
            go_simp
            exact rfl
          try simp only [Act.put, List.setIfInBounds_toArray, List.set_cons_zero, List.set_cons_succ]
          refine wpAnyK_ready (rs := [11]) (by kernel_rfl) (by simp) (AllReadyK.cons rfl (fun K hK => ?_) AllReadyK.nil)
          refine step_store_cell0 (k := 1) (ws := [.slice vas6 (k + 1) vcs6, .slice vas9 (k + 1) vcs9, .int .i64 (-1), .int .i64 (-1)]) (v := .slice vas9 (k + 1) vcs9) rfl rfl _ _ _ rfl z_o_s10 rfl rfl rfl rfl size_sl (by show 1 < 4; decide) rfl ?_
          intro Ws12 hWs12
          have z_o_s12 := hWs12.box
          have z_r_s12 : Box Ws12 (w.heap.size) (od0) := hWs12.past _ _ (by omega) z_r_s10
          have o_a_s12 := Lib.hid (ownR_stored hWs12 o_a_s10.out (by omega))
          have o_b_s12 := Lib.hid (ownR_stored hWs12 o_b_s10.out (by omega))
          have Bs12 := hWs12.below _ _ (by omega) Bs10
          clear z_o_s10 z_r_s10 o_a_s10 o_b_s10 Bs10 hWs12
          refine hK.out _ _ (fun h => (Bool.false_ne_true (h.symm.trans (by kernel_rfl))).elim) (fun _ => ?_); clear hK K
          refine wpAnyK_done (by kernel_rfl) ?_ _
          go_wp2_with fail
          go_roundw
          case rel => exact ⟨k + 1, vas6, vcs6, vas9, vcs9, by omega, by go_num, z_o_s12, z_r_s12, o_a_s12, o_b_s12, Lib.hid (ap_b_a9).symm, Bs12⟩
          case measure => simp [intOf]; omega
        · skip
          have ap_a_y13 := apart_new (m := 1) (c := 1) o_a_s5.out
          have ap_b_y13 := apart_new (m := 1) (c := 1) o_b_s5.out
          have ap_x_y13 := apart_new (m := 1) (c := 1) na_x_s5.out
          have zls13 : bo + 1 ≤ Ws5.heap.size := (by have := (z_o_s5).lt; omega)
          go_simp
          refine hK.out _ _ (fun _ => (And.intro (cell_alloc c_o0_s5) (cell_alloc c_o1_s5))) (fun _ => ?_); clear hK K
          refine F_gen (F := fun W => wpAnyK _ _ _ _ _ _ _ _ _ W) (J := fun W => Hid (W.ownsRow (bo + 1) 3 1 (.slice (some ⟨Ws5.heap.size, 0, none⟩) 1 1) (1) (flatR LI [-1])) ∧ Below Ws5.heap.size Ws5 W) (And.intro (Lib.hid (ownR_base (ownR_built (L := LI) [-1] rfl rfl rfl rfl rfl (by decide)) zls13)) ((Below.refl _ _).alloc (Nat.le_refl _) _)) ?_
          intro Ws13 ⟨na_y_s13, hbs13⟩
          have c_o0_s13 := cell_below hbs13 c_o0_s5
          have c_o1_s13 := cell_below hbs13 c_o1_s5
          have z_o_s13 : Box Ws13 (bo) ([.slice p k c, .slice q k d, .int .i64 (-1), .int .i64 (-1)]) := Box.below z_o_s5 hbs13
          have z_r_s13 : Box Ws13 (w.heap.size) (od0) := Box.below z_r_s5 hbs13
          have o_a_s13 := Lib.hid (ownR_below o_a_s5.out hbs13)
          have o_b_s13 := Lib.hid (ownR_below o_b_s5.out hbs13)
          have o_x_s13 := Lib.hid (ownR_below na_x_s5.out hbs13)
          have Bs13 := below_thru Bs5 hbs13
          clear c_o0_s5 c_o1_s5 z_o_s5 z_r_s5 o_a_s5 o_b_s5 na_x_s5 Bs5 hbs13
          clear zls13
          refine wpAnyK_ready (rs := [3]) (by kernel_rfl) (by simp) (AllReadyK.cons rfl (fun K hK => ?_) AllReadyK.nil)
          have zz14 : bo + 1 ≤ Ws13.heap.size := (by have := (z_o_s13).lt; omega)
          refine step_append_rowsA 17 rfl rfl LI _ _ 22 rfl (bo + 1) 3 tiLI (.int .i64 0) 1 8 rfl Try.underlying22 hinLI hz0LI hz1LI hz2LI rfl _ (k) _ rfl o_a_s13.out _ ([-1]) rfl (IsR.own o_x_s13.out rfl rfl) (by unfold maxLen; have : ([(-1 : Int)] : List Int).length = 1 := rfl; omega) (by have : ([(-1 : Int)] : List Int).length = 1 := rfl; omega) zz14 ?_
          intro vs14 Ws14 hown hgr hat
          have hKB := (Below.refl (bo + 1) _).grown hgr zz14 (ownR_block o_a_s13.out)
          have z_o_s14 : Box Ws14 (bo) ([.slice p k c, .slice q k d, .int .i64 (-1), .int .i64 (-1)]) := Box.keep12 z_o_s13 hKB (by omega)
          have z_r_s14 : Box Ws14 (w.heap.size) (od0) := Box.keep12 z_r_s13 hKB (by omega)
          have c_o0_s14 := cell_keepB hKB c_o0_s13 (by omega)
          have c_o1_s14 := cell_keepB hKB c_o1_s13 (by omega)
          have o_b_s14 := Lib.hid (ownR_apartB o_b_s13.out (apab).symm hgr)
          have ap_a_b14 := apart_grow apab o_b_s13.out hat
          have o_x_s14 := Lib.hid (ownR_apartB o_x_s13.out (ap_a_x5).symm hgr)
          have ap_a_x14 := apart_grow ap_a_x5 o_x_s13.out hat
          have o_y_s14 := Lib.hid (ownR_apartB na_y_s13.out (ap_a_y13).symm hgr)
          have ap_a_y14 := apart_grow ap_a_y13 na_y_s13.out hat
          rw [show [(-1 : Int)].length = 1 from rfl, rep_flat] at hown
          obtain ⟨vas14, vcs14, rfl⟩ := own_slR hown
          have o_a_s14 := Lib.hid hown
          have Bs14 := (Bs13).trans (hKB.mono (by omega))
          clear z_o_s13 z_r_s13 c_o0_s13 c_o1_s13 o_b_s13 o_x_s13 na_y_s13 o_a_s13 Bs13 hown hgr hKB hat zz14
          refine hK.out _ _ (fun _ => (And.intro c_o0_s14 c_o1_s14)) (fun _ => ?_); clear hK K
          refine takeK (k := 9) 8 22 (v := ?vs8_15) rfl (by rfl) (by kernel_rfl) (by kernel_rfl) (by kernel_rfl) (fun _ _ _ h => h) (by decide) (by kernel_rfl) (by kernel_rfl) (Or.inl ⟨by rfl, ?_⟩) ((And.intro c_o0_s14 c_o1_s14)) ?_
          rotate_left
          · intro wq hSq
            go_simp
            exact rfl
          try simp only [Act.put, List.setIfInBounds_toArray, List.set_cons_zero, List.set_cons_succ]
          refine wpAnyK_ready (rs := [7]) (by kernel_rfl) (by simp) (AllReadyK.cons rfl (fun K hK => ?_) AllReadyK.nil)
          have zz16 : bo + 1 ≤ Ws14.heap.size := (by have := (z_o_s14).lt; omega)
          refine step_append_rowsA 21 rfl rfl LI _ _ 22 rfl (bo + 1) 3 tiLI (.int .i64 0) 1 8 rfl Try.underlying22 hinLI hz0LI hz1LI hz2LI rfl _ (k) _ rfl o_b_s14.out _ ([-1]) rfl (IsR.own o_y_s14.out rfl rfl) (by unfold maxLen; have : ([(-1 : Int)] : List Int).length = 1 := rfl; omega) (by have : ([(-1 : Int)] : List Int).length = 1 := rfl; omega) zz16 ?_
          intro vs16 Ws16 hown hgr hat
          have hKB := (Below.refl (bo + 1) _).grown hgr zz16 (ownR_block o_b_s14.out)
          have z_o_s16 : Box Ws16 (bo) ([.slice p k c, .slice q k d, .int .i64 (-1), .int .i64 (-1)]) := Box.keep12 z_o_s14 hKB (by omega)
          have z_r_s16 : Box Ws16 (w.heap.size) (od0) := Box.keep12 z_r_s14 hKB (by omega)
          have c_o0_s16 := cell_keepB hKB c_o0_s14 (by omega)
          have c_o1_s16 := cell_keepB hKB c_o1_s14 (by omega)
          have o_y_s16 := Lib.hid (ownR_apartB o_y_s14.out (ap_b_y13).symm hgr)
          have ap_b_y16 := apart_grow ap_b_y13 o_y_s14.out hat
          have o_a_s16 := Lib.hid (ownR_apartB o_a_s14.out ap_a_b14 hgr)
          have ap_b_a16 := apart_grow (ap_a_b14).symm o_a_s14.out hat
          rw [show [(-1 : Int)].length = 1 from rfl, rep_flat] at hown
          obtain ⟨vas16, vcs16, rfl⟩ := own_slR hown
          have o_b_s16 := Lib.hid hown
          have Bs16 := (Bs14).trans (hKB.mono (by omega))
          clear z_o_s14 z_r_s14 c_o0_s14 c_o1_s14 o_y_s14 o_a_s14 o_b_s14 Bs14 hown hgr hKB hat zz16
          refine hK.out _ _ (fun _ => (And.intro c_o0_s16 c_o1_s16)) (fun _ => ?_); clear hK K
          refine wpAnyK_ready (rs := [9]) (by kernel_rfl) (by simp) (AllReadyK.cons rfl (fun K hK => ?_) AllReadyK.nil)
          refine step_store_cell0 (k := 0) (ws := [.slice vas14 (k + 1) vcs14, .slice q k d, .int .i64 (-1), .int .i64 (-1)]) (v := .slice vas14 (k + 1) vcs14) rfl rfl _ _ _ rfl z_o_s16 rfl rfl rfl rfl size_sl (by show 0 < 4; decide) rfl ?_
          intro Ws17 hWs17
          have z_o_s17 := hWs17.box
          have z_r_s17 : Box Ws17 (w.heap.size) (od0) := hWs17.past _ _ (by omega) z_r_s16
          have o_a_s17 := Lib.hid (ownR_stored hWs17 o_a_s16.out (by omega))
          have o_b_s17 := Lib.hid (ownR_stored hWs17 o_b_s16.out (by omega))
          have Bs17 := hWs17.below _ _ (by omega) Bs16
          clear z_o_s16 z_r_s16 o_a_s16 o_b_s16 Bs16 hWs17
          refine hK.out _ _ (fun h => (Bool.false_ne_true (h.symm.trans (by kernel_rfl))).elim) (fun _ => ?_); clear hK K
          refine takeY (k := 9) 10 23 (v := ?vs10_18) rfl (by rfl) (by kernel_rfl) (by kernel_rfl) (by kernel_rfl) (fun _ _ _ h => h) (by decide) (Or.inl ⟨by rfl, ?_⟩) (fun h => (Bool.false_ne_true (h.symm.trans (by kernel_rfl))).elim) ?_
          rotate_left
          · intro wq hSq
            go_simp
            exact rfl
          try simp only [Act.put, List.setIfInBounds_toArray, List.set_cons_zero, List.set_cons_succ]
          refine wpAnyK_ready (rs := [11]) (by kernel_rfl) (by simp) (AllReadyK.cons rfl (fun K hK => ?_) AllReadyK.nil)
          refine step_store_cell0 (k := 1) (ws := [.slice vas14 (k + 1) vcs14, .slice vas16 (k + 1) vcs16, .int .i64 (-1), .int .i64 (-1)]) (v := .slice vas16 (k + 1) vcs16) rfl rfl _ _ _ rfl z_o_s17 rfl rfl rfl rfl size_sl (by show 1 < 4; decide) rfl ?_
          intro Ws19 hWs19
          have z_o_s19 := hWs19.box
          have z_r_s19 : Box Ws19 (w.heap.size) (od0) := hWs19.past _ _ (by omega) z_r_s17
          have o_a_s19 := Lib.hid (ownR_stored hWs19 o_a_s17.out (by omega))
          have o_b_s19 := Lib.hid (ownR_stored hWs19 o_b_s17.out (by omega))
          have Bs19 := hWs19.below _ _ (by omega) Bs17
          clear z_o_s17 z_r_s17 o_a_s17 o_b_s17 Bs17 hWs19
          refine hK.out _ _ (fun h => (Bool.false_ne_true (h.symm.trans (by kernel_rfl))).elim) (fun _ => ?_); clear hK K
          refine wpAnyK_done (by kernel_rfl) ?_ _
          go_wp2_with fail
          go_roundw
          case rel => exact ⟨k + 1, vas14, vcs14, vas16, vcs16, by omega, by go_num, z_o_s19, z_r_s19, o_a_s19, o_b_s19, Lib.hid (ap_b_a16).symm, Bs19⟩
          case measure => simp [intOf]; omega
      · skip
        have ap_a_y20 := apart_new (m := 1) (c := 1) o_a_s0.out
        have ap_b_y20 := apart_new (m := 1) (c := 1) o_b_s0.out
        have zls20 : bo + 1 ≤ Ws0.heap.size := (by have := (z_o_s0).lt; omega)
        go_simp
        refine hK.out _ _ (fun _ => (And.intro (cell_alloc c_o0_s0) (cell_alloc c_o1_s0))) (fun _ => ?_); clear hK K
        refine F_gen (F := fun W => wpAnyK _ _ _ _ _ _ _ _ _ W) (J := fun W => Hid (W.ownsRow (bo + 1) 3 1 (.slice (some ⟨Ws0.heap.size, 0, none⟩) 1 1) (1) (flatR LI [-1])) ∧ Below Ws0.heap.size Ws0 W) (And.intro (Lib.hid (ownR_base (ownR_built (L := LI) [-1] rfl rfl rfl rfl rfl (by decide)) zls20)) ((Below.refl _ _).alloc (Nat.le_refl _) _)) ?_
        intro Ws20 ⟨na_y_s20, hbs20⟩
        have c_o0_s20 := cell_below hbs20 c_o0_s0
        have c_o1_s20 := cell_below hbs20 c_o1_s0
        have z_o_s20 : Box Ws20 (bo) ([.slice p k c, .slice q k d, .int .i64 (-1), .int .i64 (-1)]) := Box.below z_o_s0 hbs20
        have z_r_s20 : Box Ws20 (w.heap.size) (od0) := Box.below z_r_s0 hbs20
        have o_a_s20 := Lib.hid (ownR_below o_a_s0.out hbs20)
        have o_b_s20 := Lib.hid (ownR_below o_b_s0.out hbs20)
        have Bs20 := below_thru Bs0 hbs20
        clear c_o0_s0 c_o1_s0 z_o_s0 z_r_s0 o_a_s0 o_b_s0 Bs0 hbs20
        clear zls20
        refine wpAnyK_ready (rs := [2]) (by kernel_rfl) (by simp) (AllReadyK.cons rfl (fun K hK => ?_) AllReadyK.nil)
        have ap_a_x21 := apart_new (m := 1) (c := 1) o_a_s20.out
        have ap_b_x21 := apart_new (m := 1) (c := 1) o_b_s20.out
        have ap_y_x21 := apart_new (m := 1) (c := 1) na_y_s20.out
        have zls21 : bo + 1 ≤ Ws20.heap.size := (by have := (z_o_s20).lt; omega)
        go_simp
        refine hK.out _ _ (fun _ => (And.intro (cell_alloc c_o0_s20) (cell_alloc c_o1_s20))) (fun _ => ?_); clear hK K
        refine F_gen (F := fun W => wpAnyK _ _ _ _ _ _ _ _ _ W) (J := fun W => Hid (W.ownsRow (bo + 1) 3 1 (.slice (some ⟨Ws20.heap.size, 0, none⟩) 1 1) (1) (flatR LI [-1])) ∧ Below Ws20.heap.size Ws20 W) (And.intro (Lib.hid (ownR_base (ownR_built (L := LI) [-1] rfl rfl rfl rfl rfl (by decide)) zls21)) ((Below.refl _ _).alloc (Nat.le_refl _) _)) ?_
        intro Ws21 ⟨na_x_s21, hbs21⟩
        have c_o0_s21 := cell_below hbs21 c_o0_s20
        have c_o1_s21 := cell_below hbs21 c_o1_s20
        have z_o_s21 : Box Ws21 (bo) ([.slice p k c, .slice q k d, .int .i64 (-1), .int .i64 (-1)]) := Box.below z_o_s20 hbs21
        have z_r_s21 : Box Ws21 (w.heap.size) (od0) := Box.below z_r_s20 hbs21
        have o_a_s21 := Lib.hid (ownR_below o_a_s20.out hbs21)
        have o_b_s21 := Lib.hid (ownR_below o_b_s20.out hbs21)
        have o_y_s21 := Lib.hid (ownR_below na_y_s20.out hbs21)
        have Bs21 := below_thru Bs20 hbs21
        clear c_o0_s20 c_o1_s20 z_o_s20 z_r_s20 o_a_s20 o_b_s20 na_y_s20 Bs20 hbs21
        clear zls21
        refine wpAnyK_ready (rs := [3]) (by kernel_rfl) (by simp) (AllReadyK.cons rfl (fun K hK => ?_) AllReadyK.nil)
        have zz22 : bo + 1 ≤ Ws21.heap.size := (by have := (z_o_s21).lt; omega)
        refine step_append_rowsA 17 rfl rfl LI _ _ 22 rfl (bo + 1) 3 tiLI (.int .i64 0) 1 8 rfl Try.underlying22 hinLI hz0LI hz1LI hz2LI rfl _ (k) _ rfl o_a_s21.out _ ([-1]) rfl (IsR.own na_x_s21.out rfl rfl) (by unfold maxLen; have : ([(-1 : Int)] : List Int).length = 1 := rfl; omega) (by have : ([(-1 : Int)] : List Int).length = 1 := rfl; omega) zz22 ?_
        intro vs22 Ws22 hown hgr hat
        have hKB := (Below.refl (bo + 1) _).grown hgr zz22 (ownR_block o_a_s21.out)
        have z_o_s22 : Box Ws22 (bo) ([.slice p k c, .slice q k d, .int .i64 (-1), .int .i64 (-1)]) := Box.keep12 z_o_s21 hKB (by omega)
        have z_r_s22 : Box Ws22 (w.heap.size) (od0) := Box.keep12 z_r_s21 hKB (by omega)
        have c_o0_s22 := cell_keepB hKB c_o0_s21 (by omega)
        have c_o1_s22 := cell_keepB hKB c_o1_s21 (by omega)
        have o_b_s22 := Lib.hid (ownR_apartB o_b_s21.out (apab).symm hgr)
        have ap_a_b22 := apart_grow apab o_b_s21.out hat
        have o_y_s22 := Lib.hid (ownR_apartB o_y_s21.out (ap_a_y20).symm hgr)
        have ap_a_y22 := apart_grow ap_a_y20 o_y_s21.out hat
        have o_x_s22 := Lib.hid (ownR_apartB na_x_s21.out (ap_a_x21).symm hgr)
        have ap_a_x22 := apart_grow ap_a_x21 na_x_s21.out hat
        rw [show [(-1 : Int)].length = 1 from rfl, rep_flat] at hown
        obtain ⟨vas22, vcs22, rfl⟩ := own_slR hown
        have o_a_s22 := Lib.hid hown
        have Bs22 := (Bs21).trans (hKB.mono (by omega))
        clear z_o_s21 z_r_s21 c_o0_s21 c_o1_s21 o_b_s21 o_y_s21 na_x_s21 o_a_s21 Bs21 hown hgr hKB hat zz22
        refine hK.out _ _ (fun _ => (And.intro c_o0_s22 c_o1_s22)) (fun _ => ?_); clear hK K
        refine takeK (k := 9) 8 22 (v := ?vs8_23) rfl (by rfl) (by kernel_rfl) (by kernel_rfl) (by kernel_rfl) (fun _ _ _ h => h) (by decide) (by kernel_rfl) (by kernel_rfl) (Or.inl ⟨by rfl, ?_⟩) ((And.intro c_o0_s22 c_o1_s22)) ?_
        rotate_left
        · intro wq hSq
          go_simp
          exact rfl
        try simp only [Act.put, List.setIfInBounds_toArray, List.set_cons_zero, List.set_cons_succ]
        refine wpAnyK_ready (rs := [7]) (by kernel_rfl) (by simp) (AllReadyK.cons rfl (fun K hK => ?_) AllReadyK.nil)
        have zz24 : bo + 1 ≤ Ws22.heap.size := (by have := (z_o_s22).lt; omega)
        refine step_append_rowsA 21 rfl rfl LI _ _ 22 rfl (bo + 1) 3 tiLI (.int .i64 0) 1 8 rfl Try.underlying22 hinLI hz0LI hz1LI hz2LI rfl _ (k) _ rfl o_b_s22.out _ ([-1]) rfl (IsR.own o_y_s22.out rfl rfl) (by unfold maxLen; have : ([(-1 : Int)] : List Int).length = 1 := rfl; omega) (by have : ([(-1 : Int)] : List Int).length = 1 := rfl; omega) zz24 ?_
        intro vs24 Ws24 hown hgr hat
        have hKB := (Below.refl (bo + 1) _).grown hgr zz24 (ownR_block o_b_s22.out)
        have z_o_s24 : Box Ws24 (bo) ([.slice p k c, .slice q k d, .int .i64 (-1), .int .i64 (-1)]) := Box.keep12 z_o_s22 hKB (by omega)
        have z_r_s24 : Box Ws24 (w.heap.size) (od0) := Box.keep12 z_r_s22 hKB (by omega)
        have c_o0_s24 := cell_keepB hKB c_o0_s22 (by omega)
        have c_o1_s24 := cell_keepB hKB c_o1_s22 (by omega)
        have o_y_s24 := Lib.hid (ownR_apartB o_y_s22.out (ap_b_y20).symm hgr)
        have ap_b_y24 := apart_grow ap_b_y20 o_y_s22.out hat
        have o_a_s24 := Lib.hid (ownR_apartB o_a_s22.out ap_a_b22 hgr)
        have ap_b_a24 := apart_grow (ap_a_b22).symm o_a_s22.out hat
        rw [show [(-1 : Int)].length = 1 from rfl, rep_flat] at hown
        obtain ⟨vas24, vcs24, rfl⟩ := own_slR hown
        have o_b_s24 := Lib.hid hown
        have Bs24 := (Bs22).trans (hKB.mono (by omega))
        clear z_o_s22 z_r_s22 c_o0_s22 c_o1_s22 o_y_s22 o_a_s22 o_b_s22 Bs22 hown hgr hKB hat zz24
        refine hK.out _ _ (fun _ => (And.intro c_o0_s24 c_o1_s24)) (fun _ => ?_); clear hK K
        refine wpAnyK_ready (rs := [9]) (by kernel_rfl) (by simp) (AllReadyK.cons rfl (fun K hK => ?_) AllReadyK.nil)
        refine step_store_cell0 (k := 0) (ws := [.slice vas22 (k + 1) vcs22, .slice q k d, .int .i64 (-1), .int .i64 (-1)]) (v := .slice vas22 (k + 1) vcs22) rfl rfl _ _ _ rfl z_o_s24 rfl rfl rfl rfl size_sl (by show 0 < 4; decide) rfl ?_
        intro Ws25 hWs25
        have z_o_s25 := hWs25.box
        have z_r_s25 : Box Ws25 (w.heap.size) (od0) := hWs25.past _ _ (by omega) z_r_s24
        have o_a_s25 := Lib.hid (ownR_stored hWs25 o_a_s24.out (by omega))
        have o_b_s25 := Lib.hid (ownR_stored hWs25 o_b_s24.out (by omega))
        have Bs25 := hWs25.below _ _ (by omega) Bs24
        clear z_o_s24 z_r_s24 o_a_s24 o_b_s24 Bs24 hWs25
        refine hK.out _ _ (fun h => (Bool.false_ne_true (h.symm.trans (by kernel_rfl))).elim) (fun _ => ?_); clear hK K
        refine takeY (k := 9) 10 23 (v := ?vs10_26) rfl (by rfl) (by kernel_rfl) (by kernel_rfl) (by kernel_rfl) (fun _ _ _ h => h) (by decide) (Or.inl ⟨by rfl, ?_⟩) (fun h => (Bool.false_ne_true (h.symm.trans (by kernel_rfl))).elim) ?_
        rotate_left
        · intro wq hSq
          go_simp
          exact rfl
        try simp only [Act.put, List.setIfInBounds_toArray, List.set_cons_zero, List.set_cons_succ]
        refine wpAnyK_ready (rs := [11]) (by kernel_rfl) (by simp) (AllReadyK.cons rfl (fun K hK => ?_) AllReadyK.nil)
        refine step_store_cell0 (k := 1) (ws := [.slice vas22 (k + 1) vcs22, .slice vas24 (k + 1) vcs24, .int .i64 (-1), .int .i64 (-1)]) (v := .slice vas24 (k + 1) vcs24) rfl rfl _ _ _ rfl z_o_s25 rfl rfl rfl rfl size_sl (by show 1 < 4; decide) rfl ?_
        intro Ws27 hWs27
        have z_o_s27 := hWs27.box
        have z_r_s27 : Box Ws27 (w.heap.size) (od0) := hWs27.past _ _ (by omega) z_r_s25
        have o_a_s27 := Lib.hid (ownR_stored hWs27 o_a_s25.out (by omega))
        have o_b_s27 := Lib.hid (ownR_stored hWs27 o_b_s25.out (by omega))
        have Bs27 := hWs27.below _ _ (by omega) Bs25
        clear z_o_s25 z_r_s25 o_a_s25 o_b_s25 Bs25 hWs27
        refine hK.out _ _ (fun h => (Bool.false_ne_true (h.symm.trans (by kernel_rfl))).elim) (fun _ => ?_); clear hK K
        refine wpAnyK_done (by kernel_rfl) ?_ _
        go_wp2_with fail
        go_roundw
        case rel => exact ⟨k + 1, vas22, vcs22, vas24, vcs24, by omega, by go_num, z_o_s27, z_r_s27, o_a_s27, o_b_s27, Lib.hid (ap_b_a24).symm, Bs27⟩
        case measure => simp [intOf]; omega
    case neg =>
      obtain rfl : k = n := by omega
      have hd : decide ((k : Int) < (k : Int)) = false := decide_eq_false (by omega)
      obtain ⟨g, cg, h, ch, e1, e2, lg, lh, gh, hc, hdd, x_g, x_h⟩ := own_order HOA.out HOB.out HAP.out h1
      cases e1; cases e2
      rw [← none_pv k] at x_g; rw [← none_nx k] at x_h
      clear HOA HOB HAP
      go_wp2_with fail
      clear hd hinLI hz0LI hz1LI hz2LI
      go_loopw [7] (fun i wr => ∃ j : Nat, j ≤ m ∧ i = .int .i64 j ∧ Box wr bo [.slice (some ⟨g, 0, none⟩) k c, .slice (some ⟨h, 0, none⟩) k d, .int .i64 (hdO (l.take j)), .int .i64 (lstO (-1) (l.take j))] ∧ Box wr g (((ofL k (l.take j)).pv).map (Value.int .i64)) ∧ Box wr h (((ofL k (l.take j)).nx).map (Value.int .i64)) ∧ Box wr w.heap.size od0 ∧ Below w.heap.size w wr) (fun i _ => m - (intOf i).toNat)
      case atStart => exact ⟨0, Nat.zero_le _, rfl, x_o, x_g, x_h, x_r, hB⟩
      case round =>
        clear x_o x_g x_h x_r hB hs
        obtain ⟨j, hj, rfl, x_o, x_g, x_h, x_r, hB⟩ := hrel
        have hs := hB.size
        by_cases hlt2 : j < m
        case neg =>
          have HE := Lib.hid (show l.take j = l by rw [List.take_of_length_le]; rw [HM.out]; omega)
          rw [HE.out] at x_o x_g x_h
          have hd : decide ((j : Int) < (m : Int)) = false := decide_eq_false (by omega)
          obtain ⟨HD, hHD⟩ : ∃ x, hdO l = x := ⟨_, rfl⟩; obtain ⟨TL, hTL⟩ : ∃ x, lstO (-1) l = x := ⟨_, rfl⟩; rw [hHD, hTL] at x_o; have H1 := Lib.hid hHD; have H2 := Lib.hid hTL; clear hHD hTL; have lq := x_r.lt; have lqo := x_o.lt
          go_wp2_with (first | (refine wpList_load_box9 rfl _ _ rfl x_o rfl Try.underlying24 rfl (size_od _ _ _ _) ?_) | (refine wpList_store_box (cs := [.slice (some ⟨g, 0, none⟩) k c, .slice (some ⟨h, 0, none⟩) k d, .int .i64 HD, .int .i64 TL]) rfl _ _ _ rfl x_r rfl rfl (size_od _ _ _ _) rfl (one_od _ _ _ _ _ _ _ _) ?_; intro W99 hW99))
          have yg := hW99.past _ _ (by omega) x_g; have yh := hW99.past _ _ (by omega) x_h
          exact bodyPost_ret (results_box Try.results29 hW99.box rfl Try.underlying24 rfl (size_od _ _ _ _)) rfl ⟨_, rfl, IsO.boxes (O := ofL k l) yg yh H1.out.symm H2.out.symm (ofL_pv _ _) (ofL_nx _ _) hc hdd, freshO_boxes (by omega) (by omega), hW99.below _ _ (by omega) hB⟩
        case pos =>
          obtain ⟨x, hx⟩ : ∃ x, l[j]? = some x := ⟨_, List.getElem?_eq_getElem (by rw [HM.out]; exact hlt2)⟩
          obtain ⟨b1, o1, rfl, e1⟩ := HV.out.getI (nums_at hx)
          have E1 := Lib.hid e1; clear e1
          have hxn : x < k := HLT.out x (List.mem_of_getElem? hx)
          have hxa := not_take HND.out hx; have HT2 := Lib.hid (take_snoc hx); have hnd : (l.take j).Nodup := HND.out.sublist (List.take_sublist _ _)
          have i0 : (0 : Int) ≤ (j : Int) := (by omega); have i1 : (j : Int) < (m : Int) := (by omega); have x0 : (0 : Int) ≤ (x : Int) := (by omega); have x1 : (x : Int) < (k : Int) := (by omega)
          have f1 := cell_below hB E1.out; have z1 := lt_of_cell f1
          by_cases hj0 : j = 0
          case pos =>
            have EA : l.take j = [] := by rw [hj0]; exact List.take_zero
            have HR := Lib.hid (show l.take (j + 1) = [x] by rw [HT2.out, EA]; rfl)
            rw [EA] at x_o x_g x_h; rw [show hdO [] = -1 from rfl, show lstO (-1) [] = -1 from rfl] at x_o
            rw [← one_pv (x := x)] at x_g; rw [← one_nx (x := x)] at x_h
            have d0 : ((j : Int) == 0) = true := by rw [beq_iff_eq]; omega
            clear EA HT2 hxa hnd hx hj0
            have x_o7 := x_o; have x_g7 := x_g; have x_h7 := x_h; have x_r7 := x_r; have hB7 := hB; have hs7 := hs; clear x_o x_g x_h x_r hB hs
            have lr_o := (x_o7).lt
            have lr_g := (x_g7).lt
            have lr_h := (x_h7).lt
            have lr_r := (x_r7).lt
            go_upto_region 13 with (refine wpList_store_cell (k := 2) (ws := [.slice (some ⟨g, 0, none⟩) k c, .slice (some ⟨h, 0, none⟩) k d, .int .i64 (x : Int), .int .i64 (-1)]) (v := .int .i64 (x : Int)) rfl _ _ _ rfl x_o7 rfl rfl rfl rfl size_in (show 2 < 4 by decide) rfl ?_; intro W88 hW88)
            have x_g8 : Box W88 (g) (((ofL k [x]).pv).map (Value.int .i64)) := hW88.past _ _ (by omega) x_g7
            have x_h8 : Box W88 (h) (((ofL k [x]).nx).map (Value.int .i64)) := hW88.past _ _ (by omega) x_h7
            have x_r8 : Box W88 (w.heap.size) (od0) := hW88.past _ _ (by omega) x_r7
            have x_o8 : Box W88 (bo) ([.slice (some ⟨g, 0, none⟩) k c, .slice (some ⟨h, 0, none⟩) k d, .int .i64 (x : Int), .int .i64 (-1)]) := hW88.box
            have hB8 : Below w.heap.size w W88 := hW88.below _ _ (by omega) hB7; have hs8 := hB8.size
            clear hW88 hB7 hs7 x_o7 x_g7 x_h7 x_r7 lr_o lr_g lr_h lr_r  
            clear f1 z1 d0
            have f1 := cell_below hB8 E1.out; have z1 := lt_of_cell f1
            have lr_o := (x_o8).lt
            have lr_g := (x_g8).lt
            have lr_h := (x_h8).lt
            have lr_r := (x_r8).lt
            go_upto_region 8 with (refine wpList_store_cell (k := 3) (ws := [.slice (some ⟨g, 0, none⟩) k c, .slice (some ⟨h, 0, none⟩) k d, .int .i64 (x : Int), .int .i64 (x : Int)]) (v := .int .i64 (x : Int)) rfl _ _ _ rfl x_o8 rfl rfl rfl rfl size_in (show 3 < 4 by decide) rfl ?_; intro W89 hW89)
            have x_g9 : Box W89 (g) (((ofL k [x]).pv).map (Value.int .i64)) := hW89.past _ _ (by omega) x_g8
            have x_h9 : Box W89 (h) (((ofL k [x]).nx).map (Value.int .i64)) := hW89.past _ _ (by omega) x_h8
            have x_r9 : Box W89 (w.heap.size) (od0) := hW89.past _ _ (by omega) x_r8
            have x_o9 : Box W89 (bo) ([.slice (some ⟨g, 0, none⟩) k c, .slice (some ⟨h, 0, none⟩) k d, .int .i64 (x : Int), .int .i64 (x : Int)]) := hW89.box
            have hB9 : Below w.heap.size w W89 := hW89.below _ _ (by omega) hB8; have hs9 := hB9.size
            clear hW89 hB8 hs8 x_o8 x_g8 x_h8 x_r8 lr_o lr_g lr_h lr_r  
            clear f1 z1
            go_wp2_with fail
            go_roundw
            case rel => exact ⟨j + 1, by omega, by go_num, by rw [HR.out]; exact x_o9, by rw [HR.out]; exact x_g9, by rw [HR.out]; exact x_h9, x_r9, hB9⟩
            case measure => simp [intOf]; omega
          case neg =>
            obtain ⟨i, rfl⟩ : ∃ i, j = i + 1 := ⟨j - 1, by omega⟩
            clear hj0
            obtain ⟨y, hy⟩ : ∃ y, l[i]? = some y := ⟨_, List.getElem?_eq_getElem (by rw [HM.out]; omega)⟩
            obtain ⟨b2, o2, eb, e2⟩ := HV.out.getI (nums_at hy)
            cases eb
            have E2 := Lib.hid e2; clear e2
            have hyn : y < k := HLT.out y (List.mem_of_getElem? hy)
            have hl : lstO (-1) (l.take (i + 1)) = (y : Int) := by rw [take_snoc hy, lstO_snoc]
            have y0 : (0 : Int) ≤ (y : Int) := (by omega); have y1 : (y : Int) < (k : Int) := (by omega); have j0 : (0 : Int) ≤ (i : Int) := (by omega); have j1 : (i : Int) < (m : Int) := (by omega)
            have W2 : IntKind.i64.wrap (i : Int) = (i : Int) := by rw [IntKind.wrap_i64]; omega
            have W1 : IntKind.i64.wrap (((i + 1 : Nat) : Int) - 1) = (i : Int) := by rw [IntKind.wrap_i64]; omega
            have d0 : (((i + 1 : Nat) : Int) == 0) = false := by rw [beq_eq_false_iff_ne]; omega
            obtain ⟨AA, hA⟩ : ∃ A, l.take (i + 1) = A := ⟨_, rfl⟩; have hne : AA ≠ [] := fun q => by rw [← hA, take_snoc hy] at q; simp at q
            rw [hA] at x_o x_g x_h HT2 hxa hl hnd; rw [hl] at x_o
            have HR1 := Lib.hid (show ((ofL k (AA ++ [x])).pv).map (Value.int .i64) = ((ofL k AA).pv.set x (y : Int)).map (Value.int .i64) by rw [snoc_pv hxa, hl]); have HR2 := Lib.hid (show ((ofL k (AA ++ [x])).nx).map (Value.int .i64) = ((ofL k AA).nx.set y (x : Int)).map (Value.int .i64) by rw [snoc_nx hl hnd hxa])
            have HE1 := Lib.hid (hdO_snoc x hne); have HE2 := Lib.hid (lstO_snoc AA x (-1)); have HLP := Lib.hid (ofL_pv k AA); have HLX := Lib.hid (ofL_nx k AA); have HTK := Lib.hid HT2.out
            obtain ⟨P0, hP0⟩ : ∃ P, (ofL k AA).pv = P := ⟨_, rfl⟩; obtain ⟨X0, hX0⟩ : ∃ P, (ofL k AA).nx = P := ⟨_, rfl⟩; rw [hP0] at HR1 HLP x_g; rw [hX0] at HR2 HLX x_h; obtain ⟨HD, hHD⟩ : ∃ x, hdO AA = x := ⟨_, rfl⟩; rw [hHD] at HE1 x_o
            have NG := Lib.hid (show x < (P0.map (Value.int .i64)).length by rw [List.length_map, HLP.out]; exact hxn); have NH := Lib.hid (show y < (X0.map (Value.int .i64)).length by rw [List.length_map, HLX.out]; exact hyn)
            clear hP0 hX0 hHD hA hl hnd hxa HT2 hne hx hy f1 z1
            have x_o7 := x_o; have x_g7 := x_g; have x_h7 := x_h; have x_r7 := x_r; have hB7 := hB; have hs7 := hs; clear x_o x_g x_h x_r hB hs
            go_upto_region 11 with fail
            clear d0
            have f1 := cell_below hB7 E1.out; have f2 := cell_below hB7 E2.out; have z1 := lt_of_cell f1
            have bl1 : b1 < w.heap.size := lt_of_cell E1.out; clear z1
            refine wp_region_held_drew (S := fun W => Box W (bo) ([.slice (some ⟨g, 0, none⟩) k c, .slice (some ⟨h, 0, none⟩) k d, .int .i64 HD, .int .i64 (y : Int)]) ∧ Box W (h) ((X0).map (Value.int .i64)) ∧ Box W (w.heap.size) (od0) ∧ W.cell? ⟨b1, o1 + (i + 1), none⟩ = some (.int .i64 (x : Int)) ∧ W.cell? ⟨b1, o1 + i, none⟩ = some (.int .i64 (y : Int))) (by kernel_rfl) (And.intro (x_o7).drew (And.intro (x_h7).drew (And.intro (x_r7).drew (And.intro f1 f2)))) (fun _ => ?_)
            refine F_drew (F := fun W => wpAnyH _ _ _ _ _ _ _ _ W) ?_
            intro Wu0 hbu0
            clear hs7
            have x_o_u0 : Box Wu0 (bo) ([.slice (some ⟨g, 0, none⟩) k c, .slice (some ⟨h, 0, none⟩) k d, .int .i64 HD, .int .i64 (y : Int)]) := Box.below x_o7 hbu0
            have x_h_u0 : Box Wu0 (h) ((X0).map (Value.int .i64)) := Box.below x_h7 hbu0
            have x_r_u0 : Box Wu0 (w.heap.size) (od0) := Box.below x_r7 hbu0
            have c_x_u0 := cell_below hbu0 f1
            have c_y_u0 := cell_below hbu0 f2
            have z_g_u0 : Box Wu0 (g) ((P0).map (Value.int .i64)) := Box.below x_g7 hbu0
            have Bu0 := below_thru hB7 hbu0
            clear x_o7 x_h7 x_r7 f1 f2 x_g7 hB7 hbu0
            refine takeH 0 37 (v := ?vu0_1) rfl (by rfl) (by kernel_rfl) (by kernel_rfl) (by kernel_rfl) (fun _ _ _ h => h) (Or.inl ⟨by rfl, ?_⟩) ((And.intro x_o_u0 (And.intro x_h_u0 (And.intro x_r_u0 (And.intro c_x_u0 c_y_u0))))) ?_
            rotate_left
            · intro wq hSq
              go_simp
              exact rfl
            try simp only [Act.put, List.setIfInBounds_toArray, List.set_cons_zero, List.set_cons_succ]
            refine takeH 1 38 (v := ?vu1_2) rfl (by rfl) (by kernel_rfl) (by kernel_rfl) (by kernel_rfl) (fun _ _ _ h => h) (Or.inl ⟨by rfl, ?_⟩) ((And.intro x_o_u0 (And.intro x_h_u0 (And.intro x_r_u0 (And.intro c_x_u0 c_y_u0))))) ?_
            rotate_left
            · intro wq hSq
              have cq := hSq.1.c 0 _ rfl
              have zq := lt_of_cell cq
              go_simp
              exact rfl
            try simp only [Act.put, List.setIfInBounds_toArray, List.set_cons_zero, List.set_cons_succ]
            refine takeH 2 39 (v := ?vu2_3) rfl (by rfl) (by kernel_rfl) (by kernel_rfl) (by kernel_rfl) (fun _ _ _ h => h) (Or.inl ⟨by rfl, ?_⟩) ((And.intro x_o_u0 (And.intro x_h_u0 (And.intro x_r_u0 (And.intro c_x_u0 c_y_u0))))) ?_
            rotate_left
            · intro wq hSq
              go_simp
              exact rfl
            try simp only [Act.put, List.setIfInBounds_toArray, List.set_cons_zero, List.set_cons_succ]
            refine takeH 3 40 (v := ?vu3_4) rfl (by rfl) (by kernel_rfl) (by kernel_rfl) (by kernel_rfl) (fun _ _ _ h => h) (Or.inl ⟨by rfl, ?_⟩) ((And.intro x_o_u0 (And.intro x_h_u0 (And.intro x_r_u0 (And.intro c_x_u0 c_y_u0))))) ?_
            rotate_left
            · intro wq hSq
              go_simp
              exact rfl
            try simp only [Act.put, List.setIfInBounds_toArray, List.set_cons_zero, List.set_cons_succ]
            refine takeH 4 41 (v := ?vu4_5) rfl (by rfl) (by kernel_rfl) (by kernel_rfl) (by kernel_rfl) (fun _ _ _ h => h) (Or.inl ⟨by rfl, ?_⟩) ((And.intro x_o_u0 (And.intro x_h_u0 (And.intro x_r_u0 (And.intro c_x_u0 c_y_u0))))) ?_
            rotate_left
            · intro wq hSq
              go_simp
              exact rfl
            try simp only [Act.put, List.setIfInBounds_toArray, List.set_cons_zero, List.set_cons_succ]
            refine takeH 5 42 (v := ?vu5_6) rfl (by rfl) (by kernel_rfl) (by kernel_rfl) (by kernel_rfl) (fun _ _ _ h => h) (Or.inl ⟨by rfl, ?_⟩) ((And.intro x_o_u0 (And.intro x_h_u0 (And.intro x_r_u0 (And.intro c_x_u0 c_y_u0))))) ?_
            rotate_left
            · intro wq hSq
              have cq := hSq.2.2.2.1
              have zq := lt_of_cell cq
              go_simp
              exact rfl
            try simp only [Act.put, List.setIfInBounds_toArray, List.set_cons_zero, List.set_cons_succ]
            refine takeH 6 43 (v := ?vu6_7) rfl (by rfl) (by kernel_rfl) (by kernel_rfl) (by kernel_rfl) (fun _ _ _ h => h) (Or.inl ⟨by rfl, ?_⟩) ((And.intro x_o_u0 (And.intro x_h_u0 (And.intro x_r_u0 (And.intro c_x_u0 c_y_u0))))) ?_
            rotate_left
            · intro wq hSq
              go_simp
              exact rfl
            try simp only [Act.put, List.setIfInBounds_toArray, List.set_cons_zero, List.set_cons_succ]
            refine takeH 7 44 (v := ?vu7_8) rfl (by rfl) (by kernel_rfl) (by kernel_rfl) (by kernel_rfl) (fun _ _ _ h => h) (Or.inl ⟨by rfl, ?_⟩) ((And.intro x_o_u0 (And.intro x_h_u0 (And.intro x_r_u0 (And.intro c_x_u0 c_y_u0))))) ?_
            rotate_left
            · intro wq hSq
              go_simp
              exact rfl
            try simp only [Act.put, List.setIfInBounds_toArray, List.set_cons_zero, List.set_cons_succ]
            refine takeH 8 45 (v := ?vu8_9) rfl (by rfl) (by kernel_rfl) (by kernel_rfl) (by kernel_rfl) (fun _ _ _ h => h) (Or.inl ⟨by rfl, ?_⟩) ((And.intro x_o_u0 (And.intro x_h_u0 (And.intro x_r_u0 (And.intro c_x_u0 c_y_u0))))) ?_
            rotate_left
            · intro wq hSq
              go_simp
              exact rfl
            try simp only [Act.put, List.setIfInBounds_toArray, List.set_cons_zero, List.set_cons_succ]
            refine takeH 9 46 (v := ?vu9_10) rfl (by rfl) (by kernel_rfl) (by kernel_rfl) (by kernel_rfl) (fun _ _ _ h => h) (Or.inl ⟨by rfl, ?_⟩) ((And.intro x_o_u0 (And.intro x_h_u0 (And.intro x_r_u0 (And.intro c_x_u0 c_y_u0))))) ?_
            rotate_left
            · intro wq hSq
              go_simp
              exact rfl
            try simp only [Act.put, List.setIfInBounds_toArray, List.set_cons_zero, List.set_cons_succ]
            refine takeH 10 47 (v := ?vu10_11) rfl (by rfl) (by kernel_rfl) (by kernel_rfl) (by kernel_rfl) (fun _ _ _ h => h) (Or.inl ⟨by rfl, ?_⟩) ((And.intro x_o_u0 (And.intro x_h_u0 (And.intro x_r_u0 (And.intro c_x_u0 c_y_u0))))) ?_
            rotate_left
            · intro wq hSq
              have cq := hSq.2.2.2.2
              have zq := lt_of_cell cq
              go_simp
              exact rfl
            try simp only [Act.put, List.setIfInBounds_toArray, List.set_cons_zero, List.set_cons_succ]
            refine takeH 11 48 (v := ?vu11_12) rfl (by rfl) (by kernel_rfl) (by kernel_rfl) (by kernel_rfl) (fun _ _ _ h => h) (Or.inl ⟨by rfl, ?_⟩) ((And.intro x_o_u0 (And.intro x_h_u0 (And.intro x_r_u0 (And.intro c_x_u0 c_y_u0))))) ?_
            rotate_left
            · intro wq hSq
              go_simp
              exact rfl
            try simp only [Act.put, List.setIfInBounds_toArray, List.set_cons_zero, List.set_cons_succ]
            refine wpAnyH_ready (rs := [12]) (by kernel_rfl) (by simp) (AllReadyH.cons rfl (fun K hK => ?_) AllReadyH.nil)
            have mz_g := (z_g_u0).lt
            have nz_o := (x_o_u0).lt
            have nz_h := (x_h_u0).lt
            have nz_r := (x_r_u0).lt
            refine step_store_cell0 (k := x) (ws := (P0.set x (y : Int)).map (Value.int .i64)) (v := .int .i64 (y : Int)) rfl rfl _ _ _ rfl z_g_u0 rfl rfl rfl rfl size_in NG.out (set_ints _ _ _) ?_
            intro Wu13 hWu13
            have x_o_u13 : Box Wu13 (bo) ([.slice (some ⟨g, 0, none⟩) k c, .slice (some ⟨h, 0, none⟩) k d, .int .i64 HD, .int .i64 (y : Int)]) := hWu13.past _ _ (by omega) x_o_u0
            have x_h_u13 : Box Wu13 (h) ((X0).map (Value.int .i64)) := hWu13.past _ _ (by omega) x_h_u0
            have x_r_u13 : Box Wu13 (w.heap.size) (od0) := hWu13.past _ _ (by omega) x_r_u0
            have c_x_u13 := hWu13.cell _ _ _ (by omega) c_x_u0
            have c_y_u13 := hWu13.cell _ _ _ (by omega) c_y_u0
            have z_g_u13 := hWu13.box
            have Bu13 := hWu13.below _ _ (by omega) Bu0
            clear nz_o nz_h nz_r x_o_u0 x_h_u0 x_r_u0 c_x_u0 c_y_u0 z_g_u0 Bu0 hWu13
            refine hK.out _ _ (And.intro x_o_u13 (And.intro x_h_u13 (And.intro x_r_u13 (And.intro c_x_u13 c_y_u13)))) (fun _ => ?_); clear hK K
            refine wpAnyH_done (by kernel_rfl) ?_ _
            have hB8 := Bu13; have hs8 := hB8.size
            have x_o8 := x_o_u13
            have x_h8 := x_h_u13
            have x_r8 := x_r_u13
            have x_g8 := z_g_u13
            clear Bu13 x_o_u13 x_h_u13 x_r_u13 z_g_u13
            go_upto_region 12 with fail
            have f1 := cell_below hB8 E1.out; have f2 := cell_below hB8 E2.out; have z1 := lt_of_cell f1
            clear z1
            refine wp_region_held_drew (S := fun W => Box W (bo) ([.slice (some ⟨g, 0, none⟩) k c, .slice (some ⟨h, 0, none⟩) k d, .int .i64 HD, .int .i64 (y : Int)]) ∧ Box W (g) ((P0.set x (y : Int)).map (Value.int .i64)) ∧ Box W (w.heap.size) (od0) ∧ W.cell? ⟨b1, o1 + (i + 1), none⟩ = some (.int .i64 (x : Int)) ∧ W.cell? ⟨b1, o1 + i, none⟩ = some (.int .i64 (y : Int))) (by kernel_rfl) (And.intro (x_o8).drew (And.intro (x_g8).drew (And.intro (x_r8).drew (And.intro f1 f2)))) (fun _ => ?_)
            refine F_drew (F := fun W => wpAnyH _ _ _ _ _ _ _ _ W) ?_
            intro Wv0 hbv0
            clear hs8
            have x_o_v0 : Box Wv0 (bo) ([.slice (some ⟨g, 0, none⟩) k c, .slice (some ⟨h, 0, none⟩) k d, .int .i64 HD, .int .i64 (y : Int)]) := Box.below x_o8 hbv0
            have x_g_v0 : Box Wv0 (g) ((P0.set x (y : Int)).map (Value.int .i64)) := Box.below x_g8 hbv0
            have x_r_v0 : Box Wv0 (w.heap.size) (od0) := Box.below x_r8 hbv0
            have c_x_v0 := cell_below hbv0 f1
            have c_y_v0 := cell_below hbv0 f2
            have z_h_v0 : Box Wv0 (h) ((X0).map (Value.int .i64)) := Box.below x_h8 hbv0
            have Bv0 := below_thru hB8 hbv0
            clear x_o8 x_g8 x_r8 f1 f2 x_h8 hB8 hbv0
            refine takeH 0 49 (v := ?vv0_1) rfl (by rfl) (by kernel_rfl) (by kernel_rfl) (by kernel_rfl) (fun _ _ _ h => h) (Or.inl ⟨by rfl, ?_⟩) ((And.intro x_o_v0 (And.intro x_g_v0 (And.intro x_r_v0 (And.intro c_x_v0 c_y_v0))))) ?_
            rotate_left
            · intro wq hSq
              go_simp
              exact rfl
            try simp only [Act.put, List.setIfInBounds_toArray, List.set_cons_zero, List.set_cons_succ]
            refine takeH 1 50 (v := ?vv1_2) rfl (by rfl) (by kernel_rfl) (by kernel_rfl) (by kernel_rfl) (fun _ _ _ h => h) (Or.inl ⟨by rfl, ?_⟩) ((And.intro x_o_v0 (And.intro x_g_v0 (And.intro x_r_v0 (And.intro c_x_v0 c_y_v0))))) ?_
            rotate_left
            · intro wq hSq
              have cq := hSq.1.c 1 _ rfl
              have zq := lt_of_cell cq
              go_simp
              exact rfl
            try simp only [Act.put, List.setIfInBounds_toArray, List.set_cons_zero, List.set_cons_succ]
            refine takeH 2 51 (v := ?vv2_3) rfl (by rfl) (by kernel_rfl) (by kernel_rfl) (by kernel_rfl) (fun _ _ _ h => h) (Or.inl ⟨by rfl, ?_⟩) ((And.intro x_o_v0 (And.intro x_g_v0 (And.intro x_r_v0 (And.intro c_x_v0 c_y_v0))))) ?_
            rotate_left
            · intro wq hSq
              go_simp
              exact rfl
            try simp only [Act.put, List.setIfInBounds_toArray, List.set_cons_zero, List.set_cons_succ]
            refine takeH 3 52 (v := ?vv3_4) rfl (by rfl) (by kernel_rfl) (by kernel_rfl) (by kernel_rfl) (fun _ _ _ h => h) (Or.inl ⟨by rfl, ?_⟩) ((And.intro x_o_v0 (And.intro x_g_v0 (And.intro x_r_v0 (And.intro c_x_v0 c_y_v0))))) ?_
            rotate_left
            · intro wq hSq
              go_simp
              exact rfl
            try simp only [Act.put, List.setIfInBounds_toArray, List.set_cons_zero, List.set_cons_succ]
            refine takeH 4 53 (v := ?vv4_5) rfl (by rfl) (by kernel_rfl) (by kernel_rfl) (by kernel_rfl) (fun _ _ _ h => h) (Or.inl ⟨by rfl, ?_⟩) ((And.intro x_o_v0 (And.intro x_g_v0 (And.intro x_r_v0 (And.intro c_x_v0 c_y_v0))))) ?_
            rotate_left
            · intro wq hSq
              go_simp
              exact rfl
            try simp only [Act.put, List.setIfInBounds_toArray, List.set_cons_zero, List.set_cons_succ]
            refine takeH 5 54 (v := ?vv5_6) rfl (by rfl) (by kernel_rfl) (by kernel_rfl) (by kernel_rfl) (fun _ _ _ h => h) (Or.inl ⟨by rfl, ?_⟩) ((And.intro x_o_v0 (And.intro x_g_v0 (And.intro x_r_v0 (And.intro c_x_v0 c_y_v0))))) ?_
            rotate_left
            · intro wq hSq
              go_simp
              exact rfl
            try simp only [Act.put, List.setIfInBounds_toArray, List.set_cons_zero, List.set_cons_succ]
            refine takeH 6 55 (v := ?vv6_7) rfl (by rfl) (by kernel_rfl) (by kernel_rfl) (by kernel_rfl) (fun _ _ _ h => h) (Or.inl ⟨by rfl, ?_⟩) ((And.intro x_o_v0 (And.intro x_g_v0 (And.intro x_r_v0 (And.intro c_x_v0 c_y_v0))))) ?_
            rotate_left
            · intro wq hSq
              have cq := hSq.2.2.2.2
              have zq := lt_of_cell cq
              go_simp
              exact rfl
            try simp only [Act.put, List.setIfInBounds_toArray, List.set_cons_zero, List.set_cons_succ]
            refine takeH 7 56 (v := ?vv7_8) rfl (by rfl) (by kernel_rfl) (by kernel_rfl) (by kernel_rfl) (fun _ _ _ h => h) (Or.inl ⟨by rfl, ?_⟩) ((And.intro x_o_v0 (And.intro x_g_v0 (And.intro x_r_v0 (And.intro c_x_v0 c_y_v0))))) ?_
            rotate_left
            · intro wq hSq
              go_simp
              exact rfl
            try simp only [Act.put, List.setIfInBounds_toArray, List.set_cons_zero, List.set_cons_succ]
            refine takeH 8 57 (v := ?vv8_9) rfl (by rfl) (by kernel_rfl) (by kernel_rfl) (by kernel_rfl) (fun _ _ _ h => h) (Or.inl ⟨by rfl, ?_⟩) ((And.intro x_o_v0 (And.intro x_g_v0 (And.intro x_r_v0 (And.intro c_x_v0 c_y_v0))))) ?_
            rotate_left
            · intro wq hSq
              go_simp
              exact rfl
            try simp only [Act.put, List.setIfInBounds_toArray, List.set_cons_zero, List.set_cons_succ]
            refine takeH 9 58 (v := ?vv9_10) rfl (by rfl) (by kernel_rfl) (by kernel_rfl) (by kernel_rfl) (fun _ _ _ h => h) (Or.inl ⟨by rfl, ?_⟩) ((And.intro x_o_v0 (And.intro x_g_v0 (And.intro x_r_v0 (And.intro c_x_v0 c_y_v0))))) ?_
            rotate_left
            · intro wq hSq
              go_simp
              exact rfl
            try simp only [Act.put, List.setIfInBounds_toArray, List.set_cons_zero, List.set_cons_succ]
            refine takeH 10 59 (v := ?vv10_11) rfl (by rfl) (by kernel_rfl) (by kernel_rfl) (by kernel_rfl) (fun _ _ _ h => h) (Or.inl ⟨by rfl, ?_⟩) ((And.intro x_o_v0 (And.intro x_g_v0 (And.intro x_r_v0 (And.intro c_x_v0 c_y_v0))))) ?_
            rotate_left
            · intro wq hSq
              have cq := hSq.2.2.2.1
              have zq := lt_of_cell cq
              go_simp
              exact rfl
            try simp only [Act.put, List.setIfInBounds_toArray, List.set_cons_zero, List.set_cons_succ]
            refine takeH 11 60 (v := ?vv11_12) rfl (by rfl) (by kernel_rfl) (by kernel_rfl) (by kernel_rfl) (fun _ _ _ h => h) (Or.inl ⟨by rfl, ?_⟩) ((And.intro x_o_v0 (And.intro x_g_v0 (And.intro x_r_v0 (And.intro c_x_v0 c_y_v0))))) ?_
            rotate_left
            · intro wq hSq
              go_simp
              exact rfl
            try simp only [Act.put, List.setIfInBounds_toArray, List.set_cons_zero, List.set_cons_succ]
            refine wpAnyH_ready (rs := [12]) (by kernel_rfl) (by simp) (AllReadyH.cons rfl (fun K hK => ?_) AllReadyH.nil)
            have mz_h := (z_h_v0).lt
            have nz_o := (x_o_v0).lt
            have nz_g := (x_g_v0).lt
            have nz_r := (x_r_v0).lt
            refine step_store_cell0 (k := y) (ws := (X0.set y (x : Int)).map (Value.int .i64)) (v := .int .i64 (x : Int)) rfl rfl _ _ _ rfl z_h_v0 rfl rfl rfl rfl size_in NH.out (set_ints _ _ _) ?_
            intro Wv13 hWv13
            have x_o_v13 : Box Wv13 (bo) ([.slice (some ⟨g, 0, none⟩) k c, .slice (some ⟨h, 0, none⟩) k d, .int .i64 HD, .int .i64 (y : Int)]) := hWv13.past _ _ (by omega) x_o_v0
            have x_g_v13 : Box Wv13 (g) ((P0.set x (y : Int)).map (Value.int .i64)) := hWv13.past _ _ (by omega) x_g_v0
            have x_r_v13 : Box Wv13 (w.heap.size) (od0) := hWv13.past _ _ (by omega) x_r_v0
            have c_x_v13 := hWv13.cell _ _ _ (by omega) c_x_v0
            have c_y_v13 := hWv13.cell _ _ _ (by omega) c_y_v0
            have z_h_v13 := hWv13.box
            have Bv13 := hWv13.below _ _ (by omega) Bv0
            clear nz_o nz_g nz_r x_o_v0 x_g_v0 x_r_v0 c_x_v0 c_y_v0 z_h_v0 Bv0 hWv13
            refine hK.out _ _ (And.intro x_o_v13 (And.intro x_g_v13 (And.intro x_r_v13 (And.intro c_x_v13 c_y_v13)))) (fun _ => ?_); clear hK K
            refine wpAnyH_done (by kernel_rfl) ?_ _
            have hB9 := Bv13; have hs9 := hB9.size
            have x_o9 := x_o_v13
            have x_g9 := x_g_v13
            have x_r9 := x_r_v13
            have x_h9 := z_h_v13
            clear Bv13 x_o_v13 x_g_v13 x_r_v13 z_h_v13
            go_upto_region 13 with fail
            clear W1 W2
            have f1 := cell_below hB9 E1.out; have z1 := lt_of_cell f1
            have lr_o := (x_o9).lt
            have lr_g := (x_g9).lt
            have lr_h := (x_h9).lt
            have lr_r := (x_r9).lt
            go_upto_region 8 with (refine wpList_store_cell (k := 3) (ws := [.slice (some ⟨g, 0, none⟩) k c, .slice (some ⟨h, 0, none⟩) k d, .int .i64 HD, .int .i64 (x : Int)]) (v := .int .i64 (x : Int)) rfl _ _ _ rfl x_o9 rfl rfl rfl rfl size_in (show 3 < 4 by decide) rfl ?_; intro W90 hW90)
            have x_g10 : Box W90 (g) ((P0.set x (y : Int)).map (Value.int .i64)) := hW90.past _ _ (by omega) x_g9
            have x_h10 : Box W90 (h) ((X0.set y (x : Int)).map (Value.int .i64)) := hW90.past _ _ (by omega) x_h9
            have x_r10 : Box W90 (w.heap.size) (od0) := hW90.past _ _ (by omega) x_r9
            have x_o10 : Box W90 (bo) ([.slice (some ⟨g, 0, none⟩) k c, .slice (some ⟨h, 0, none⟩) k d, .int .i64 HD, .int .i64 (x : Int)]) := hW90.box
            have hB10 : Below w.heap.size w W90 := hW90.below _ _ (by omega) hB9; have hs10 := hB10.size
            clear hW90 hB9 hs9 x_o9 x_g9 x_h9 x_r9 lr_o lr_g lr_h lr_r  
            clear f1 z1
            go_wp2_with fail
            go_roundw
            case rel => exact ⟨i + 1 + 1, by omega, by go_num, by rw [HTK.out, HE1.out, HE2.out]; exact x_o10, by rw [HTK.out, HR1.out]; exact x_g10, by rw [HTK.out, HR2.out]; exact x_h10, x_r10, hB10⟩
            case measure => simp [intOf]; omega


end Go.Proofs.Ytjhlpkkefdohjaa
