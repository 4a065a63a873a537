/-
  Package lru, walked: takeOut, putFirst.
-/
import Derived.Test.YtjhlpkkefdohjaaLrC
namespace Go.Proofs.Ytjhlpkkefdohjaa
open Go.RowKit

theorem ofL_at_pv {n i : Nat} {l : List Nat} {x : Int} (hi : i < n) (h : prvO (-1) l i = x) : ((ofL n l).pv.map (Value.int .i64))[i]? = some (.int .i64 x) := by
  rw [List.getElem?_map, ofL_pv_at hi, h]
  rfl
theorem ofL_at_nx {n i : Nat} {l : List Nat} {x : Int} (hi : i < n) (h : nxtO l i = x) : ((ofL n l).nx.map (Value.int .i64))[i]? = some (.int .i64 x) := by
  rw [List.getElem?_map, ofL_nx_at hi, h]
  rfl

set_option maxRecDepth 100000 in
set_option maxHeartbeats 6400000 in
theorem ptko_nn {v0 : World} {b g h r c d n : Nat} {us : List Value} (lb : v0.heap.size ≤ b) (lg : v0.heap.size ≤ g) (lh : v0.heap.size ≤ h) (bg : b ≠ g) (bh : b ≠ h) (gh : g ≠ h) (rb : r ≠ b) (rg : r ≠ g) (rh : r ≠ h) {i : Nat} (hn : (i :: []).Nodup) (hi : i < n) (w : World) (hB : Below v0.heap.size v0 w) (xb : Box w b [.slice (some ⟨g, 0, none⟩) n c, .slice (some ⟨h, 0, none⟩) n d, .int .i64 (hdO (i :: [])), .int .i64 (lstO (-1) (i :: []))]) (xg : Box w g (((ofL n (i :: [])).pv).map (Value.int .i64))) (xh : Box w h (((ofL n (i :: [])).nx).map (Value.int .i64))) (xr : Box w r us) : Calls Try.prog 33 #[.pointer (some ⟨b, 0, none⟩), .int .i64 (i : Int)] w fun e w' => e = .returned (.tuple #[]) ∧ Box w' b [.slice (some ⟨g, 0, none⟩) n c, .slice (some ⟨h, 0, none⟩) n d, .int .i64 (hdO []), .int .i64 (lstO (-1) [])] ∧ Box w' g (((ofL n []).pv).map (Value.int .i64)) ∧ Box w' h (((ofL n []).nx).map (Value.int .i64)) ∧ Box w' r us ∧ Below v0.heap.size v0 w' := by
  have CP := ofL_at_pv (l := (i :: [])) (x := (-1)) hi (by simp [prvO])
  have CX := ofL_at_nx (l := (i :: [])) (x := (-1)) hi (by simp [nxtO, hdO])
  have RP : (ofL n []).pv = (ofL n (i :: [])).pv.set i (-1) := out_pv_nil (n := n) (i := i) (a := []) hn; have RX := out_nx_nil (n := n) (i := i) (b := []) hn
  have LP : (ofL n (i :: [])).pv.length = n := ofL_pv _ _; have LX : (ofL n (i :: [])).nx.length = n := ofL_nx _ _
  have E1 : (hdO []) = (-1) := rfl
  have E2 : (lstO (-1) []) = (-1) := rfl
  obtain ⟨P0, hP0⟩ : ∃ P, (ofL n (i :: [])).pv = P := ⟨_, rfl⟩; obtain ⟨X0, hX0⟩ : ∃ P, (ofL n (i :: [])).nx = P := ⟨_, rfl⟩; rw [hP0] at CP RP LP xg; rw [hX0] at CX RX LX xh
  obtain ⟨HD, hHD⟩ : ∃ x, (hdO (i :: [])) = x := ⟨_, rfl⟩; obtain ⟨TL, hTL⟩ : ∃ x, (lstO (-1) (i :: [])) = x := ⟨_, rfl⟩; rw [hHD, hTL] at xb
  have HR1 := Lib.hid (show ((ofL n []).pv).map (Value.int .i64) = (P0.set i (-1)).map (Value.int .i64) by rw [RP]); have HR2 := Lib.hid (show ((ofL n []).nx).map (Value.int .i64) = (X0.set i (-1)).map (Value.int .i64) from congrArg (fun z => z.map (Value.int .i64)) RX)
  have HE1 := Lib.hid (show (hdO []) = (-1) from E1); have HE2 := Lib.hid (show (lstO (-1) []) = (-1) from E2)
  have HLP := Lib.hid LP; have HLX := Lib.hid LX; have i0 : (0 : Int) ≤ (i : Int) := (by omega); have i1 : (i : Int) < (n : Int) := (by omega)
  clear hP0 hX0 hHD hTL RP RX LP LX E1 E2 hn
  have hB0 := hB; have hs0 := hB0.size; have x_b0 := xb; have x_g0 := xg; have x_h0 := xh; have x_r0 := xr; clear hB xb xg xh xr
  go_enter Try.func33, Try.ntmps33
  go_upto_region 0 with fail
  refine wp_region_held_drew (S := fun W => Box W (b) ([.slice (some ⟨g, 0, none⟩) n c, .slice (some ⟨h, 0, none⟩) n d, .int .i64 HD, .int .i64 TL]) ∧ Box W (g) ((P0).map (Value.int .i64)) ∧ Box W (h) ((X0).map (Value.int .i64)) ∧ Box W (r) (us)) (by kernel_rfl) (And.intro (x_b0).drew (And.intro (x_g0).drew (And.intro (x_h0).drew (x_r0).drew))) (fun _ => ?_)
  refine F_drew (F := fun W => wpAnyH _ _ _ _ _ _ _ _ W) ?_
  intro Ws0 hbs0
  clear hs0
  have x_b_s0 : Box Ws0 (b) ([.slice (some ⟨g, 0, none⟩) n c, .slice (some ⟨h, 0, none⟩) n d, .int .i64 HD, .int .i64 TL]) := Box.below x_b0 hbs0
  have x_g_s0 : Box Ws0 (g) ((P0).map (Value.int .i64)) := Box.below x_g0 hbs0
  have x_h_s0 : Box Ws0 (h) ((X0).map (Value.int .i64)) := Box.below x_h0 hbs0
  have x_r_s0 : Box Ws0 (r) (us) := Box.below x_r0 hbs0
  have Bs0 := below_thru hB0 hbs0
  clear x_b0 x_g0 x_h0 x_r0 hB0 hbs0
  refine takeH 0 6 (v := ?vs0_1) rfl (by rfl) (by kernel_rfl) (by kernel_rfl) (by kernel_rfl) (fun _ _ _ h => h) (Or.inl ⟨by rfl, ?_⟩) ((And.intro x_b_s0 (And.intro x_g_s0 (And.intro x_h_s0 x_r_s0)))) ?_
  rotate_left
  · intro wq hSq
    go_simp
    exact rfl
  try simp only [Act.put, List.setIfInBounds_toArray, List.set_cons_zero, List.set_cons_succ]
  refine takeH 1 7 (v := ?vs1_2) rfl (by rfl) (by kernel_rfl) (by kernel_rfl) (by kernel_rfl) (fun _ _ _ h => h) (Or.inl ⟨by rfl, ?_⟩) ((And.intro x_b_s0 (And.intro x_g_s0 (And.intro x_h_s0 x_r_s0)))) ?_
  rotate_left
  · intro wq hSq
    go_simp
    exact rfl
  try simp only [Act.put, List.setIfInBounds_toArray, List.set_cons_zero, List.set_cons_succ]
  refine takeH 2 8 (v := ?vs2_3) rfl (by rfl) (by kernel_rfl) (by kernel_rfl) (by kernel_rfl) (fun _ _ _ h => h) (Or.inl ⟨by rfl, ?_⟩) ((And.intro x_b_s0 (And.intro x_g_s0 (And.intro x_h_s0 x_r_s0)))) ?_
  rotate_left
  · intro wq hSq
    go_simp
    exact rfl
  try simp only [Act.put, List.setIfInBounds_toArray, List.set_cons_zero, List.set_cons_succ]
  refine takeH 3 9 (v := ?vs3_4) rfl (by rfl) (by kernel_rfl) (by kernel_rfl) (by kernel_rfl) (fun _ _ _ h => h) (Or.inl ⟨by rfl, ?_⟩) ((And.intro x_b_s0 (And.intro x_g_s0 (And.intro x_h_s0 x_r_s0)))) ?_
  rotate_left
  · intro wq hSq
    have cq := hSq.1.c 0 _ rfl
    have zq := lt_of_cell cq
    go_simp
    exact rfl
  try simp only [Act.put, List.setIfInBounds_toArray, List.set_cons_zero, List.set_cons_succ]
  refine takeH 4 10 (v := ?vs4_5) rfl (by rfl) (by kernel_rfl) (by kernel_rfl) (by kernel_rfl) (fun _ _ _ h => h) (Or.inl ⟨by rfl, ?_⟩) ((And.intro x_b_s0 (And.intro x_g_s0 (And.intro x_h_s0 x_r_s0)))) ?_
  rotate_left
  · intro wq hSq
    go_simp
    exact rfl
  try simp only [Act.put, List.setIfInBounds_toArray, List.set_cons_zero, List.set_cons_succ]
  refine takeH 5 11 (v := ?vs5_6) rfl (by rfl) (by kernel_rfl) (by kernel_rfl) (by kernel_rfl) (fun _ _ _ h => h) (Or.inl ⟨by rfl, ?_⟩) ((And.intro x_b_s0 (And.intro x_g_s0 (And.intro x_h_s0 x_r_s0)))) ?_
  rotate_left
  · intro wq hSq
    go_simp
    exact rfl
  try simp only [Act.put, List.setIfInBounds_toArray, List.set_cons_zero, List.set_cons_succ]
  refine takeH 6 12 (v := ?vs6_7) rfl (by rfl) (by kernel_rfl) (by kernel_rfl) (by kernel_rfl) (fun _ _ _ h => h) (Or.inl ⟨by rfl, ?_⟩) ((And.intro x_b_s0 (And.intro x_g_s0 (And.intro x_h_s0 x_r_s0)))) ?_
  rotate_left
  · intro wq hSq
    have cq := hSq.2.1.c i _ CP
    have zq := lt_of_cell cq
    go_simp
    exact rfl
  try simp only [Act.put, List.setIfInBounds_toArray, List.set_cons_zero, List.set_cons_succ]
  refine takeH 7 13 (v := ?vs7_8) rfl (by rfl) (by kernel_rfl) (by kernel_rfl) (by kernel_rfl) (fun _ _ _ h => h) (Or.inl ⟨by rfl, ?_⟩) ((And.intro x_b_s0 (And.intro x_g_s0 (And.intro x_h_s0 x_r_s0)))) ?_
  rotate_left
  · intro wq hSq
    go_simp
    exact rfl
  try simp only [Act.put, List.setIfInBounds_toArray, List.set_cons_zero, List.set_cons_succ]
  refine takeH 8 14 (v := ?vs8_9) rfl (by rfl) (by kernel_rfl) (by kernel_rfl) (by kernel_rfl) (fun _ _ _ h => h) (Or.inl ⟨by rfl, ?_⟩) ((And.intro x_b_s0 (And.intro x_g_s0 (And.intro x_h_s0 x_r_s0)))) ?_
  rotate_left
  · intro wq hSq
    go_simp
    exact rfl
  try simp only [Act.put, List.setIfInBounds_toArray, List.set_cons_zero, List.set_cons_succ]
  refine takeH 9 15 (v := ?vs9_10) rfl (by rfl) (by kernel_rfl) (by kernel_rfl) (by kernel_rfl) (fun _ _ _ h => h) (Or.inl ⟨by rfl, ?_⟩) ((And.intro x_b_s0 (And.intro x_g_s0 (And.intro x_h_s0 x_r_s0)))) ?_
  rotate_left
  · intro wq hSq
    go_simp
    exact rfl
  try simp only [Act.put, List.setIfInBounds_toArray, List.set_cons_zero, List.set_cons_succ]
  refine takeH 10 16 (v := ?vs10_11) rfl (by rfl) (by kernel_rfl) (by kernel_rfl) (by kernel_rfl) (fun _ _ _ h => h) (Or.inl ⟨by rfl, ?_⟩) ((And.intro x_b_s0 (And.intro x_g_s0 (And.intro x_h_s0 x_r_s0)))) ?_
  rotate_left
  · intro wq hSq
    have cq := hSq.1.c 1 _ rfl
    have zq := lt_of_cell cq
    go_simp
    exact rfl
  try simp only [Act.put, List.setIfInBounds_toArray, List.set_cons_zero, List.set_cons_succ]
  refine takeH 11 17 (v := ?vs11_12) rfl (by rfl) (by kernel_rfl) (by kernel_rfl) (by kernel_rfl) (fun _ _ _ h => h) (Or.inl ⟨by rfl, ?_⟩) ((And.intro x_b_s0 (And.intro x_g_s0 (And.intro x_h_s0 x_r_s0)))) ?_
  rotate_left
  · intro wq hSq
    go_simp
    exact rfl
  try simp only [Act.put, List.setIfInBounds_toArray, List.set_cons_zero, List.set_cons_succ]
  refine takeH 12 18 (v := ?vs12_13) rfl (by rfl) (by kernel_rfl) (by kernel_rfl) (by kernel_rfl) (fun _ _ _ h => h) (Or.inl ⟨by rfl, ?_⟩) ((And.intro x_b_s0 (And.intro x_g_s0 (And.intro x_h_s0 x_r_s0)))) ?_
  rotate_left
  · intro wq hSq
    go_simp
    exact rfl
  try simp only [Act.put, List.setIfInBounds_toArray, List.set_cons_zero, List.set_cons_succ]
  refine takeH 13 19 (v := ?vs13_14) rfl (by rfl) (by kernel_rfl) (by kernel_rfl) (by kernel_rfl) (fun _ _ _ h => h) (Or.inl ⟨by rfl, ?_⟩) ((And.intro x_b_s0 (And.intro x_g_s0 (And.intro x_h_s0 x_r_s0)))) ?_
  rotate_left
  · intro wq hSq
    have cq := hSq.2.2.1.c i _ CX
    have zq := lt_of_cell cq
    go_simp
    exact rfl
  try simp only [Act.put, List.setIfInBounds_toArray, List.set_cons_zero, List.set_cons_succ]
  refine takeH 14 4 (v := ?vs14_15) rfl (by rfl) (by kernel_rfl) (by kernel_rfl) (by kernel_rfl) (fun _ _ _ h => h) (Or.inl ⟨by rfl, ?_⟩) ((And.intro x_b_s0 (And.intro x_g_s0 (And.intro x_h_s0 x_r_s0)))) ?_
  rotate_left
  · intro wq hSq
    go_simp
    exact rfl
  try simp only [Act.put, List.setIfInBounds_toArray, List.set_cons_zero, List.set_cons_succ]
  refine takeH 15 5 (v := ?vs15_16) rfl (by rfl) (by kernel_rfl) (by kernel_rfl) (by kernel_rfl) (fun _ _ _ h => h) (Or.inl ⟨by rfl, ?_⟩) ((And.intro x_b_s0 (And.intro x_g_s0 (And.intro x_h_s0 x_r_s0)))) ?_
  rotate_left
  · intro wq hSq
    go_simp
    exact rfl
  try simp only [Act.put, List.setIfInBounds_toArray, List.set_cons_zero, List.set_cons_succ]
  refine wpAnyH_done (by kernel_rfl) ?_ _
  have hB1 := Bs0; have hs1 := hB1.size
  have x_b1 := x_b_s0
  have x_g1 := x_g_s0
  have x_h1 := x_h_s0
  have x_r1 := x_r_s0
  clear Bs0 x_b_s0 x_g_s0 x_h_s0 x_r_s0
  clear CP CX
  have lr_b := (x_b1).lt
  have lr_g := (x_g1).lt
  have lr_h := (x_h1).lt
  have lr_r := (x_r1).lt
  go_upto_region 4 with (refine wpList_store_cell (k := 2) (ws := [.slice (some ⟨g, 0, none⟩) n c, .slice (some ⟨h, 0, none⟩) n d, .int .i64 (-1), .int .i64 TL]) (v := .int .i64 (-1)) rfl _ _ _ rfl x_b1 rfl rfl rfl rfl size_in (show 2 < 4 by decide) rfl ?_; intro W82 hW82)
  have x_g2 : Box W82 (g) ((P0).map (Value.int .i64)) := hW82.past _ _ (by omega) x_g1
  have x_h2 : Box W82 (h) ((X0).map (Value.int .i64)) := hW82.past _ _ (by omega) x_h1
  have x_r2 : Box W82 (r) (us) := hW82.past _ _ (by omega) x_r1
  have x_b2 : Box W82 (b) ([.slice (some ⟨g, 0, none⟩) n c, .slice (some ⟨h, 0, none⟩) n d, .int .i64 (-1), .int .i64 TL]) := hW82.box
  have hB2 : Below v0.heap.size v0 W82 := hW82.below _ _ (by omega) hB1; have hs2 := hB2.size
  clear hW82 hB1 hs1 x_b1 x_g1 x_h1 x_r1 lr_b lr_g lr_h lr_r  
  have lr_b := (x_b2).lt
  have lr_g := (x_g2).lt
  have lr_h := (x_h2).lt
  have lr_r := (x_r2).lt
  go_upto_region 7 with (refine wpList_store_cell (k := 3) (ws := [.slice (some ⟨g, 0, none⟩) n c, .slice (some ⟨h, 0, none⟩) n d, .int .i64 (-1), .int .i64 (-1)]) (v := .int .i64 (-1)) rfl _ _ _ rfl x_b2 rfl rfl rfl rfl size_in (show 3 < 4 by decide) rfl ?_; intro W83 hW83)
  have x_g3 : Box W83 (g) ((P0).map (Value.int .i64)) := hW83.past _ _ (by omega) x_g2
  have x_h3 : Box W83 (h) ((X0).map (Value.int .i64)) := hW83.past _ _ (by omega) x_h2
  have x_r3 : Box W83 (r) (us) := hW83.past _ _ (by omega) x_r2
  have x_b3 : Box W83 (b) ([.slice (some ⟨g, 0, none⟩) n c, .slice (some ⟨h, 0, none⟩) n d, .int .i64 (-1), .int .i64 (-1)]) := hW83.box
  have hB3 : Below v0.heap.size v0 W83 := hW83.below _ _ (by omega) hB2; have hs3 := hB3.size
  clear hW83 hB2 hs2 x_b2 x_g2 x_h2 x_r2 lr_b lr_g lr_h lr_r  
  have NG := Lib.hid (show i < ((P0).map (Value.int .i64)).length by rw [List.length_map, HLP.out]; exact hi); have NH := Lib.hid (show i < ((X0).map (Value.int .i64)).length by rw [List.length_map, HLX.out]; exact hi)
  refine wp_region_held_drew (S := fun W => Box W (b) ([.slice (some ⟨g, 0, none⟩) n c, .slice (some ⟨h, 0, none⟩) n d, .int .i64 (-1), .int .i64 (-1)]) ∧ Box W (r) (us)) (by kernel_rfl) (And.intro (x_b3).drew (x_r3).drew) (fun _ => ?_)
  refine F_drew (F := fun W => wpAnyH _ _ _ _ _ _ _ _ W) ?_
  intro Wu0 hbu0
  clear hs3
  have x_b_u0 : Box Wu0 (b) ([.slice (some ⟨g, 0, none⟩) n c, .slice (some ⟨h, 0, none⟩) n d, .int .i64 (-1), .int .i64 (-1)]) := Box.below x_b3 hbu0
  have x_r_u0 : Box Wu0 (r) (us) := Box.below x_r3 hbu0
  have z_g_u0 : Box Wu0 (g) ((P0).map (Value.int .i64)) := Box.below x_g3 hbu0
  have z_h_u0 : Box Wu0 (h) ((X0).map (Value.int .i64)) := Box.below x_h3 hbu0
  have Bu0 := below_thru hB3 hbu0
  clear x_b3 x_r3 x_g3 x_h3 hB3 hbu0
  refine takeH 0 46 (v := ?vu0_1) rfl (by rfl) (by kernel_rfl) (by kernel_rfl) (by kernel_rfl) (fun _ _ _ h => h) (Or.inl ⟨by rfl, ?_⟩) ((And.intro x_b_u0 x_r_u0)) ?_
  rotate_left
  · intro wq hSq
    go_simp
    exact rfl
  try simp only [Act.put, List.setIfInBounds_toArray, List.set_cons_zero, List.set_cons_succ]
  refine takeH 1 47 (v := ?vu1_2) rfl (by rfl) (by kernel_rfl) (by kernel_rfl) (by kernel_rfl) (fun _ _ _ h => h) (Or.inl ⟨by rfl, ?_⟩) ((And.intro x_b_u0 x_r_u0)) ?_
  rotate_left
  · intro wq hSq
    go_simp
    exact rfl
  try simp only [Act.put, List.setIfInBounds_toArray, List.set_cons_zero, List.set_cons_succ]
  refine takeH 2 48 (v := ?vu2_3) rfl (by rfl) (by kernel_rfl) (by kernel_rfl) (by kernel_rfl) (fun _ _ _ h => h) (Or.inl ⟨by rfl, ?_⟩) ((And.intro x_b_u0 x_r_u0)) ?_
  rotate_left
  · intro wq hSq
    go_simp
    exact rfl
  try simp only [Act.put, List.setIfInBounds_toArray, List.set_cons_zero, List.set_cons_succ]
  refine takeH 3 49 (v := ?vu3_4) rfl (by rfl) (by kernel_rfl) (by kernel_rfl) (by kernel_rfl) (fun _ _ _ h => h) (Or.inl ⟨by rfl, ?_⟩) ((And.intro x_b_u0 x_r_u0)) ?_
  rotate_left
  · intro wq hSq
    have cq := hSq.1.c 0 _ rfl
    have zq := lt_of_cell cq
    go_simp
    exact rfl
  try simp only [Act.put, List.setIfInBounds_toArray, List.set_cons_zero, List.set_cons_succ]
  refine takeH 4 50 (v := ?vu4_5) rfl (by rfl) (by kernel_rfl) (by kernel_rfl) (by kernel_rfl) (fun _ _ _ h => h) (Or.inl ⟨by rfl, ?_⟩) ((And.intro x_b_u0 x_r_u0)) ?_
  rotate_left
  · intro wq hSq
    go_simp
    exact rfl
  try simp only [Act.put, List.setIfInBounds_toArray, List.set_cons_zero, List.set_cons_succ]
  refine takeH 5 51 (v := ?vu5_6) rfl (by rfl) (by kernel_rfl) (by kernel_rfl) (by kernel_rfl) (fun _ _ _ h => h) (Or.inl ⟨by rfl, ?_⟩) ((And.intro x_b_u0 x_r_u0)) ?_
  rotate_left
  · intro wq hSq
    go_simp
    exact rfl
  try simp only [Act.put, List.setIfInBounds_toArray, List.set_cons_zero, List.set_cons_succ]
  refine takeH 6 52 (v := ?vu6_7) rfl (by rfl) (by kernel_rfl) (by kernel_rfl) (by kernel_rfl) (fun _ _ _ h => h) (Or.inl ⟨by rfl, ?_⟩) ((And.intro x_b_u0 x_r_u0)) ?_
  rotate_left
  · intro wq hSq
    go_simp
    exact rfl
  try simp only [Act.put, List.setIfInBounds_toArray, List.set_cons_zero, List.set_cons_succ]
  refine takeH 7 53 (v := ?vu7_8) rfl (by rfl) (by kernel_rfl) (by kernel_rfl) (by kernel_rfl) (fun _ _ _ h => h) (Or.inl ⟨by rfl, ?_⟩) ((And.intro x_b_u0 x_r_u0)) ?_
  rotate_left
  · intro wq hSq
    go_simp
    exact rfl
  try simp only [Act.put, List.setIfInBounds_toArray, List.set_cons_zero, List.set_cons_succ]
  refine takeH 8 54 (v := ?vu8_9) rfl (by rfl) (by kernel_rfl) (by kernel_rfl) (by kernel_rfl) (fun _ _ _ h => h) (Or.inl ⟨by rfl, ?_⟩) ((And.intro x_b_u0 x_r_u0)) ?_
  rotate_left
  · intro wq hSq
    have cq := hSq.1.c 1 _ rfl
    have zq := lt_of_cell cq
    go_simp
    exact rfl
  try simp only [Act.put, List.setIfInBounds_toArray, List.set_cons_zero, List.set_cons_succ]
  refine takeH 9 55 (v := ?vu9_10) rfl (by rfl) (by kernel_rfl) (by kernel_rfl) (by kernel_rfl) (fun _ _ _ h => h) (Or.inl ⟨by rfl, ?_⟩) ((And.intro x_b_u0 x_r_u0)) ?_
  rotate_left
  · intro wq hSq
    go_simp
    exact rfl
  try simp only [Act.put, List.setIfInBounds_toArray, List.set_cons_zero, List.set_cons_succ]
  refine takeH 10 56 (v := ?vu10_11) rfl (by rfl) (by kernel_rfl) (by kernel_rfl) (by kernel_rfl) (fun _ _ _ h => h) (Or.inl ⟨by rfl, ?_⟩) ((And.intro x_b_u0 x_r_u0)) ?_
  rotate_left
  · intro wq hSq
    go_simp
    exact rfl
  try simp only [Act.put, List.setIfInBounds_toArray, List.set_cons_zero, List.set_cons_succ]
  refine wpAnyH_ready (rs := [11]) (by kernel_rfl) (by simp) (AllReadyH.cons rfl (fun K hK => ?_) AllReadyH.nil)
  have mz_g := (z_g_u0).lt
  have mz_h := (z_h_u0).lt
  have nz_b := (x_b_u0).lt
  have nz_r := (x_r_u0).lt
  refine step_store_cell0 (k := i) (ws := (P0.set i (-1)).map (Value.int .i64)) (v := .int .i64 (-1)) rfl rfl _ _ _ rfl z_g_u0 rfl rfl rfl rfl size_in NG.out (set_ints _ _ _) ?_
  intro Wu12 hWu12
  have x_b_u12 : Box Wu12 (b) ([.slice (some ⟨g, 0, none⟩) n c, .slice (some ⟨h, 0, none⟩) n d, .int .i64 (-1), .int .i64 (-1)]) := hWu12.past _ _ (by omega) x_b_u0
  have x_r_u12 : Box Wu12 (r) (us) := hWu12.past _ _ (by omega) x_r_u0
  have z_g_u12 := hWu12.box
  have z_h_u12 : Box Wu12 (h) ((X0).map (Value.int .i64)) := hWu12.past _ _ (by omega) z_h_u0
  have Bu12 := hWu12.below _ _ (by omega) Bu0
  clear nz_b nz_r x_b_u0 x_r_u0 z_g_u0 z_h_u0 Bu0 hWu12
  refine hK.out _ _ (And.intro x_b_u12 x_r_u12) (fun _ => ?_); clear hK K
  refine takeH 12 57 (v := ?vu12_13) rfl (by rfl) (by kernel_rfl) (by kernel_rfl) (by kernel_rfl) (fun _ _ _ h => h) (Or.inl ⟨by rfl, ?_⟩) ((And.intro x_b_u12 x_r_u12)) ?_
  rotate_left
  · intro wq hSq
    go_simp
    exact rfl
  try simp only [Act.put, List.setIfInBounds_toArray, List.set_cons_zero, List.set_cons_succ]
  refine wpAnyH_ready (rs := [13]) (by kernel_rfl) (by simp) (AllReadyH.cons rfl (fun K hK => ?_) AllReadyH.nil)
  have mz_g := (z_g_u12).lt
  have mz_h := (z_h_u12).lt
  have nz_b := (x_b_u12).lt
  have nz_r := (x_r_u12).lt
  refine step_store_cell0 (k := i) (ws := (X0.set i (-1)).map (Value.int .i64)) (v := .int .i64 (-1)) rfl rfl _ _ _ rfl z_h_u12 rfl rfl rfl rfl size_in NH.out (set_ints _ _ _) ?_
  intro Wu14 hWu14
  have x_b_u14 : Box Wu14 (b) ([.slice (some ⟨g, 0, none⟩) n c, .slice (some ⟨h, 0, none⟩) n d, .int .i64 (-1), .int .i64 (-1)]) := hWu14.past _ _ (by omega) x_b_u12
  have x_r_u14 : Box Wu14 (r) (us) := hWu14.past _ _ (by omega) x_r_u12
  have z_g_u14 : Box Wu14 (g) ((P0.set i (-1)).map (Value.int .i64)) := hWu14.past _ _ (by omega) z_g_u12
  have z_h_u14 := hWu14.box
  have Bu14 := hWu14.below _ _ (by omega) Bu12
  clear nz_b nz_r x_b_u12 x_r_u12 z_g_u12 z_h_u12 Bu12 hWu14
  refine hK.out _ _ (And.intro x_b_u14 x_r_u14) (fun _ => ?_); clear hK K
  refine wpAnyH_done (by kernel_rfl) ?_ _
  go_wp2_with fail
  go_returns
  rw [HE1.out, HE2.out, HR1.out, HR2.out]
  exact ⟨rfl, x_b_u14, z_g_u14, z_h_u14, x_r_u14, Bu14⟩

set_option maxRecDepth 100000 in
set_option maxHeartbeats 6400000 in
theorem ptko_ns {v0 : World} {b g h r c d n : Nat} {us : List Value} (lb : v0.heap.size ≤ b) (lg : v0.heap.size ≤ g) (lh : v0.heap.size ≤ h) (bg : b ≠ g) (bh : b ≠ h) (gh : g ≠ h) (rb : r ≠ b) (rg : r ≠ g) (rh : r ≠ h) {i k : Nat} {bs : List Nat} (hn : (i :: (k :: bs)).Nodup) (hi : i < n) (hk : k < n) (w : World) (hB : Below v0.heap.size v0 w) (xb : Box w b [.slice (some ⟨g, 0, none⟩) n c, .slice (some ⟨h, 0, none⟩) n d, .int .i64 (hdO (i :: (k :: bs))), .int .i64 (lstO (-1) (i :: (k :: bs)))]) (xg : Box w g (((ofL n (i :: (k :: bs))).pv).map (Value.int .i64))) (xh : Box w h (((ofL n (i :: (k :: bs))).nx).map (Value.int .i64))) (xr : Box w r us) : Calls Try.prog 33 #[.pointer (some ⟨b, 0, none⟩), .int .i64 (i : Int)] w fun e w' => e = .returned (.tuple #[]) ∧ Box w' b [.slice (some ⟨g, 0, none⟩) n c, .slice (some ⟨h, 0, none⟩) n d, .int .i64 (hdO (k :: bs)), .int .i64 (lstO (-1) (k :: bs))] ∧ Box w' g (((ofL n (k :: bs)).pv).map (Value.int .i64)) ∧ Box w' h (((ofL n (k :: bs)).nx).map (Value.int .i64)) ∧ Box w' r us ∧ Below v0.heap.size v0 w' := by
  have CP := ofL_at_pv (l := (i :: (k :: bs))) (x := (-1)) hi (by simp [prvO])
  have CX := ofL_at_nx (l := (i :: (k :: bs))) (x := (k : Int)) hi (by simp [nxtO, hdO])
  have RP : (ofL n (k :: bs)).pv = ((ofL n (i :: (k :: bs))).pv.set k (-1)).set i (-1) := out_pv_cons (n := n) (i := i) (k := k) (a := []) (b := bs) hn; have RX := out_nx_nil (n := n) (i := i) (b := (k :: bs)) hn
  have LP : (ofL n (i :: (k :: bs))).pv.length = n := ofL_pv _ _; have LX : (ofL n (i :: (k :: bs))).nx.length = n := ofL_nx _ _
  have E1 : (hdO (k :: bs)) = (k : Int) := rfl
  have E2 : (lstO (-1) (k :: bs)) = (lstO (-1) (i :: (k :: bs))) := lstO_out (i := i) (a := []) (b := k :: bs) (by simp)
  obtain ⟨P0, hP0⟩ : ∃ P, (ofL n (i :: (k :: bs))).pv = P := ⟨_, rfl⟩; obtain ⟨X0, hX0⟩ : ∃ P, (ofL n (i :: (k :: bs))).nx = P := ⟨_, rfl⟩; rw [hP0] at CP RP LP xg; rw [hX0] at CX RX LX xh
  obtain ⟨HD, hHD⟩ : ∃ x, (hdO (i :: (k :: bs))) = x := ⟨_, rfl⟩; obtain ⟨TL, hTL⟩ : ∃ x, (lstO (-1) (i :: (k :: bs))) = x := ⟨_, rfl⟩; rw [hHD, hTL] at xb
  have HR1 := Lib.hid (show ((ofL n (k :: bs)).pv).map (Value.int .i64) = ((P0.set k (-1)).set i (-1)).map (Value.int .i64) by rw [RP]); have HR2 := Lib.hid (show ((ofL n (k :: bs)).nx).map (Value.int .i64) = (X0.set i (-1)).map (Value.int .i64) from congrArg (fun z => z.map (Value.int .i64)) RX)
  have HE1 := Lib.hid (show (hdO (k :: bs)) = (k : Int) from E1); have HE2 := Lib.hid (show (lstO (-1) (k :: bs)) = TL from E2.trans hTL)
  have HLP := Lib.hid LP; have HLX := Lib.hid LX; have i0 : (0 : Int) ≤ (i : Int) := (by omega); have i1 : (i : Int) < (n : Int) := (by omega)
  have k0 : (0 : Int) ≤ (k : Int) := (by omega); have k1 : (k : Int) < (n : Int) := (by omega); have dn : ((k : Int) == -1) = false := by rw [beq_eq_false_iff_ne]; omega
  clear hP0 hX0 hHD hTL RP RX LP LX E1 E2 hn
  have hB0 := hB; have hs0 := hB0.size; have x_b0 := xb; have x_g0 := xg; have x_h0 := xh; have x_r0 := xr; clear hB xb xg xh xr
  go_enter Try.func33, Try.ntmps33
  go_upto_region 0 with fail
  refine wp_region_held_drew (S := fun W => Box W (b) ([.slice (some ⟨g, 0, none⟩) n c, .slice (some ⟨h, 0, none⟩) n d, .int .i64 HD, .int .i64 TL]) ∧ Box W (g) ((P0).map (Value.int .i64)) ∧ Box W (h) ((X0).map (Value.int .i64)) ∧ Box W (r) (us)) (by kernel_rfl) (And.intro (x_b0).drew (And.intro (x_g0).drew (And.intro (x_h0).drew (x_r0).drew))) (fun _ => ?_)
  refine F_drew (F := fun W => wpAnyH _ _ _ _ _ _ _ _ W) ?_
  intro Ws0 hbs0
  clear hs0
  have x_b_s0 : Box Ws0 (b) ([.slice (some ⟨g, 0, none⟩) n c, .slice (some ⟨h, 0, none⟩) n d, .int .i64 HD, .int .i64 TL]) := Box.below x_b0 hbs0
  have x_g_s0 : Box Ws0 (g) ((P0).map (Value.int .i64)) := Box.below x_g0 hbs0
  have x_h_s0 : Box Ws0 (h) ((X0).map (Value.int .i64)) := Box.below x_h0 hbs0
  have x_r_s0 : Box Ws0 (r) (us) := Box.below x_r0 hbs0
  have Bs0 := below_thru hB0 hbs0
  clear x_b0 x_g0 x_h0 x_r0 hB0 hbs0
  refine takeH 0 6 (v := ?vs0_1) rfl (by rfl) (by kernel_rfl) (by kernel_rfl) (by kernel_rfl) (fun _ _ _ h => h) (Or.inl ⟨by rfl, ?_⟩) ((And.intro x_b_s0 (And.intro x_g_s0 (And.intro x_h_s0 x_r_s0)))) ?_
  rotate_left
  · intro wq hSq
    go_simp
    exact rfl
  try simp only [Act.put, List.setIfInBounds_toArray, List.set_cons_zero, List.set_cons_succ]
  refine takeH 1 7 (v := ?vs1_2) rfl (by rfl) (by kernel_rfl) (by kernel_rfl) (by kernel_rfl) (fun _ _ _ h => h) (Or.inl ⟨by rfl, ?_⟩) ((And.intro x_b_s0 (And.intro x_g_s0 (And.intro x_h_s0 x_r_s0)))) ?_
  rotate_left
  · intro wq hSq
    go_simp
    exact rfl
  try simp only [Act.put, List.setIfInBounds_toArray, List.set_cons_zero, List.set_cons_succ]
  refine takeH 2 8 (v := ?vs2_3) rfl (by rfl) (by kernel_rfl) (by kernel_rfl) (by kernel_rfl) (fun _ _ _ h => h) (Or.inl ⟨by rfl, ?_⟩) ((And.intro x_b_s0 (And.intro x_g_s0 (And.intro x_h_s0 x_r_s0)))) ?_
  rotate_left
  · intro wq hSq
    go_simp
    exact rfl
  try simp only [Act.put, List.setIfInBounds_toArray, List.set_cons_zero, List.set_cons_succ]
  refine takeH 3 9 (v := ?vs3_4) rfl (by rfl) (by kernel_rfl) (by kernel_rfl) (by kernel_rfl) (fun _ _ _ h => h) (Or.inl ⟨by rfl, ?_⟩) ((And.intro x_b_s0 (And.intro x_g_s0 (And.intro x_h_s0 x_r_s0)))) ?_
  rotate_left
  · intro wq hSq
    have cq := hSq.1.c 0 _ rfl
    have zq := lt_of_cell cq
    go_simp
    exact rfl
  try simp only [Act.put, List.setIfInBounds_toArray, List.set_cons_zero, List.set_cons_succ]
  refine takeH 4 10 (v := ?vs4_5) rfl (by rfl) (by kernel_rfl) (by kernel_rfl) (by kernel_rfl) (fun _ _ _ h => h) (Or.inl ⟨by rfl, ?_⟩) ((And.intro x_b_s0 (And.intro x_g_s0 (And.intro x_h_s0 x_r_s0)))) ?_
  rotate_left
  · intro wq hSq
    go_simp
    exact rfl
  try simp only [Act.put, List.setIfInBounds_toArray, List.set_cons_zero, List.set_cons_succ]
  refine takeH 5 11 (v := ?vs5_6) rfl (by rfl) (by kernel_rfl) (by kernel_rfl) (by kernel_rfl) (fun _ _ _ h => h) (Or.inl ⟨by rfl, ?_⟩) ((And.intro x_b_s0 (And.intro x_g_s0 (And.intro x_h_s0 x_r_s0)))) ?_
  rotate_left
  · intro wq hSq
    go_simp
    exact rfl
  try simp only [Act.put, List.setIfInBounds_toArray, List.set_cons_zero, List.set_cons_succ]
  refine takeH 6 12 (v := ?vs6_7) rfl (by rfl) (by kernel_rfl) (by kernel_rfl) (by kernel_rfl) (fun _ _ _ h => h) (Or.inl ⟨by rfl, ?_⟩) ((And.intro x_b_s0 (And.intro x_g_s0 (And.intro x_h_s0 x_r_s0)))) ?_
  rotate_left
  · intro wq hSq
    have cq := hSq.2.1.c i _ CP
    have zq := lt_of_cell cq
    go_simp
    exact rfl
  try simp only [Act.put, List.setIfInBounds_toArray, List.set_cons_zero, List.set_cons_succ]
  refine takeH 7 13 (v := ?vs7_8) rfl (by rfl) (by kernel_rfl) (by kernel_rfl) (by kernel_rfl) (fun _ _ _ h => h) (Or.inl ⟨by rfl, ?_⟩) ((And.intro x_b_s0 (And.intro x_g_s0 (And.intro x_h_s0 x_r_s0)))) ?_
  rotate_left
  · intro wq hSq
    go_simp
    exact rfl
  try simp only [Act.put, List.setIfInBounds_toArray, List.set_cons_zero, List.set_cons_succ]
  refine takeH 8 14 (v := ?vs8_9) rfl (by rfl) (by kernel_rfl) (by kernel_rfl) (by kernel_rfl) (fun _ _ _ h => h) (Or.inl ⟨by rfl, ?_⟩) ((And.intro x_b_s0 (And.intro x_g_s0 (And.intro x_h_s0 x_r_s0)))) ?_
  rotate_left
  · intro wq hSq
    go_simp
    exact rfl
  try simp only [Act.put, List.setIfInBounds_toArray, List.set_cons_zero, List.set_cons_succ]
  refine takeH 9 15 (v := ?vs9_10) rfl (by rfl) (by kernel_rfl) (by kernel_rfl) (by kernel_rfl) (fun _ _ _ h => h) (Or.inl ⟨by rfl, ?_⟩) ((And.intro x_b_s0 (And.intro x_g_s0 (And.intro x_h_s0 x_r_s0)))) ?_
  rotate_left
  · intro wq hSq
    go_simp
    exact rfl
  try simp only [Act.put, List.setIfInBounds_toArray, List.set_cons_zero, List.set_cons_succ]
  refine takeH 10 16 (v := ?vs10_11) rfl (by rfl) (by kernel_rfl) (by kernel_rfl) (by kernel_rfl) (fun _ _ _ h => h) (Or.inl ⟨by rfl, ?_⟩) ((And.intro x_b_s0 (And.intro x_g_s0 (And.intro x_h_s0 x_r_s0)))) ?_
  rotate_left
  · intro wq hSq
    have cq := hSq.1.c 1 _ rfl
    have zq := lt_of_cell cq
    go_simp
    exact rfl
  try simp only [Act.put, List.setIfInBounds_toArray, List.set_cons_zero, List.set_cons_succ]
  refine takeH 11 17 (v := ?vs11_12) rfl (by rfl) (by kernel_rfl) (by kernel_rfl) (by kernel_rfl) (fun _ _ _ h => h) (Or.inl ⟨by rfl, ?_⟩) ((And.intro x_b_s0 (And.intro x_g_s0 (And.intro x_h_s0 x_r_s0)))) ?_
  rotate_left
  · intro wq hSq
    go_simp
    exact rfl
  try simp only [Act.put, List.setIfInBounds_toArray, List.set_cons_zero, List.set_cons_succ]
  refine takeH 12 18 (v := ?vs12_13) rfl (by rfl) (by kernel_rfl) (by kernel_rfl) (by kernel_rfl) (fun _ _ _ h => h) (Or.inl ⟨by rfl, ?_⟩) ((And.intro x_b_s0 (And.intro x_g_s0 (And.intro x_h_s0 x_r_s0)))) ?_
  rotate_left
  · intro wq hSq
    go_simp
    exact rfl
  try simp only [Act.put, List.setIfInBounds_toArray, List.set_cons_zero, List.set_cons_succ]
  refine takeH 13 19 (v := ?vs13_14) rfl (by rfl) (by kernel_rfl) (by kernel_rfl) (by kernel_rfl) (fun _ _ _ h => h) (Or.inl ⟨by rfl, ?_⟩) ((And.intro x_b_s0 (And.intro x_g_s0 (And.intro x_h_s0 x_r_s0)))) ?_
  rotate_left
  · intro wq hSq
    have cq := hSq.2.2.1.c i _ CX
    have zq := lt_of_cell cq
    go_simp
    exact rfl
  try simp only [Act.put, List.setIfInBounds_toArray, List.set_cons_zero, List.set_cons_succ]
  refine takeH 14 4 (v := ?vs14_15) rfl (by rfl) (by kernel_rfl) (by kernel_rfl) (by kernel_rfl) (fun _ _ _ h => h) (Or.inl ⟨by rfl, ?_⟩) ((And.intro x_b_s0 (And.intro x_g_s0 (And.intro x_h_s0 x_r_s0)))) ?_
  rotate_left
  · intro wq hSq
    go_simp
    exact rfl
  try simp only [Act.put, List.setIfInBounds_toArray, List.set_cons_zero, List.set_cons_succ]
  refine takeH 15 5 (v := ?vs15_16) rfl (by rfl) (by kernel_rfl) (by kernel_rfl) (by kernel_rfl) (fun _ _ _ h => h) (Or.inl ⟨by rfl, ?_⟩) ((And.intro x_b_s0 (And.intro x_g_s0 (And.intro x_h_s0 x_r_s0)))) ?_
  rotate_left
  · intro wq hSq
    go_simp
    exact rfl
  try simp only [Act.put, List.setIfInBounds_toArray, List.set_cons_zero, List.set_cons_succ]
  refine wpAnyH_done (by kernel_rfl) ?_ _
  have hB1 := Bs0; have hs1 := hB1.size
  have x_b1 := x_b_s0
  have x_g1 := x_g_s0
  have x_h1 := x_h_s0
  have x_r1 := x_r_s0
  clear Bs0 x_b_s0 x_g_s0 x_h_s0 x_r_s0
  clear CP CX
  have lr_b := (x_b1).lt
  have lr_g := (x_g1).lt
  have lr_h := (x_h1).lt
  have lr_r := (x_r1).lt
  go_upto_region 4 with (refine wpList_store_cell (k := 2) (ws := [.slice (some ⟨g, 0, none⟩) n c, .slice (some ⟨h, 0, none⟩) n d, .int .i64 (k : Int), .int .i64 TL]) (v := .int .i64 (k : Int)) rfl _ _ _ rfl x_b1 rfl rfl rfl rfl size_in (show 2 < 4 by decide) rfl ?_; intro W82 hW82)
  have x_g2 : Box W82 (g) ((P0).map (Value.int .i64)) := hW82.past _ _ (by omega) x_g1
  have x_h2 : Box W82 (h) ((X0).map (Value.int .i64)) := hW82.past _ _ (by omega) x_h1
  have x_r2 : Box W82 (r) (us) := hW82.past _ _ (by omega) x_r1
  have x_b2 : Box W82 (b) ([.slice (some ⟨g, 0, none⟩) n c, .slice (some ⟨h, 0, none⟩) n d, .int .i64 (k : Int), .int .i64 TL]) := hW82.box
  have hB2 : Below v0.heap.size v0 W82 := hW82.below _ _ (by omega) hB1; have hs2 := hB2.size
  clear hW82 hB1 hs1 x_b1 x_g1 x_h1 x_r1 lr_b lr_g lr_h lr_r  
  have cb := (x_b2).c 0 _ rfl
  have zb := (x_b2).lt
  have NL := Lib.hid (show k < (P0.map (Value.int .i64)).length by rw [List.length_map, HLP.out]; exact hk)
  have lr_b := (x_b2).lt
  have lr_g := (x_g2).lt
  have lr_h := (x_h2).lt
  have lr_r := (x_r2).lt
  go_upto_region 7 with (refine wpList_store_cell (k := k) (ws := ((P0.set k (-1))).map (Value.int .i64)) (v := .int .i64 (-1)) rfl _ _ _ rfl x_g2 rfl rfl rfl rfl size_in NL.out (set_ints _ _ _) ?_; intro W83 hW83)
  have x_b3 : Box W83 (b) ([.slice (some ⟨g, 0, none⟩) n c, .slice (some ⟨h, 0, none⟩) n d, .int .i64 (k : Int), .int .i64 TL]) := hW83.past _ _ (by omega) x_b2
  have x_h3 : Box W83 (h) ((X0).map (Value.int .i64)) := hW83.past _ _ (by omega) x_h2
  have x_r3 : Box W83 (r) (us) := hW83.past _ _ (by omega) x_r2
  have x_g3 : Box W83 (g) (((P0.set k (-1))).map (Value.int .i64)) := hW83.box
  have hB3 : Below v0.heap.size v0 W83 := hW83.below _ _ (by omega) hB2; have hs3 := hB3.size
  clear hW83 hB2 hs2 x_b2 x_g2 x_h2 x_r2 lr_b lr_g lr_h lr_r  
  clear NL cb zb
  have NG := Lib.hid (show i < (((P0.set k (-1))).map (Value.int .i64)).length by rw [List.length_map, List.length_set, HLP.out]; exact hi); have NH := Lib.hid (show i < ((X0).map (Value.int .i64)).length by rw [List.length_map, HLX.out]; exact hi)
  refine wp_region_held_drew (S := fun W => Box W (b) ([.slice (some ⟨g, 0, none⟩) n c, .slice (some ⟨h, 0, none⟩) n d, .int .i64 (k : Int), .int .i64 TL]) ∧ Box W (r) (us)) (by kernel_rfl) (And.intro (x_b3).drew (x_r3).drew) (fun _ => ?_)
  refine F_drew (F := fun W => wpAnyH _ _ _ _ _ _ _ _ W) ?_
  intro Wu0 hbu0
  clear hs3
  have x_b_u0 : Box Wu0 (b) ([.slice (some ⟨g, 0, none⟩) n c, .slice (some ⟨h, 0, none⟩) n d, .int .i64 (k : Int), .int .i64 TL]) := Box.below x_b3 hbu0
  have x_r_u0 : Box Wu0 (r) (us) := Box.below x_r3 hbu0
  have z_g_u0 : Box Wu0 (g) (((P0.set k (-1))).map (Value.int .i64)) := Box.below x_g3 hbu0
  have z_h_u0 : Box Wu0 (h) ((X0).map (Value.int .i64)) := Box.below x_h3 hbu0
  have Bu0 := below_thru hB3 hbu0
  clear x_b3 x_r3 x_g3 x_h3 hB3 hbu0
  refine takeH 0 46 (v := ?vu0_1) rfl (by rfl) (by kernel_rfl) (by kernel_rfl) (by kernel_rfl) (fun _ _ _ h => h) (Or.inl ⟨by rfl, ?_⟩) ((And.intro x_b_u0 x_r_u0)) ?_
  rotate_left
  · intro wq hSq
    go_simp
    exact rfl
  try simp only [Act.put, List.setIfInBounds_toArray, List.set_cons_zero, List.set_cons_succ]
  refine takeH 1 47 (v := ?vu1_2) rfl (by rfl) (by kernel_rfl) (by kernel_rfl) (by kernel_rfl) (fun _ _ _ h => h) (Or.inl ⟨by rfl, ?_⟩) ((And.intro x_b_u0 x_r_u0)) ?_
  rotate_left
  · intro wq hSq
    go_simp
    exact rfl
  try simp only [Act.put, List.setIfInBounds_toArray, List.set_cons_zero, List.set_cons_succ]
  refine takeH 2 48 (v := ?vu2_3) rfl (by rfl) (by kernel_rfl) (by kernel_rfl) (by kernel_rfl) (fun _ _ _ h => h) (Or.inl ⟨by rfl, ?_⟩) ((And.intro x_b_u0 x_r_u0)) ?_
  rotate_left
  · intro wq hSq
    go_simp
    exact rfl
  try simp only [Act.put, List.setIfInBounds_toArray, List.set_cons_zero, List.set_cons_succ]
  refine takeH 3 49 (v := ?vu3_4) rfl (by rfl) (by kernel_rfl) (by kernel_rfl) (by kernel_rfl) (fun _ _ _ h => h) (Or.inl ⟨by rfl, ?_⟩) ((And.intro x_b_u0 x_r_u0)) ?_
  rotate_left
  · intro wq hSq
    have cq := hSq.1.c 0 _ rfl
    have zq := lt_of_cell cq
    go_simp
    exact rfl
  try simp only [Act.put, List.setIfInBounds_toArray, List.set_cons_zero, List.set_cons_succ]
  refine takeH 4 50 (v := ?vu4_5) rfl (by rfl) (by kernel_rfl) (by kernel_rfl) (by kernel_rfl) (fun _ _ _ h => h) (Or.inl ⟨by rfl, ?_⟩) ((And.intro x_b_u0 x_r_u0)) ?_
  rotate_left
  · intro wq hSq
    go_simp
    exact rfl
  try simp only [Act.put, List.setIfInBounds_toArray, List.set_cons_zero, List.set_cons_succ]
  refine takeH 5 51 (v := ?vu5_6) rfl (by rfl) (by kernel_rfl) (by kernel_rfl) (by kernel_rfl) (fun _ _ _ h => h) (Or.inl ⟨by rfl, ?_⟩) ((And.intro x_b_u0 x_r_u0)) ?_
  rotate_left
  · intro wq hSq
    go_simp
    exact rfl
  try simp only [Act.put, List.setIfInBounds_toArray, List.set_cons_zero, List.set_cons_succ]
  refine takeH 6 52 (v := ?vu6_7) rfl (by rfl) (by kernel_rfl) (by kernel_rfl) (by kernel_rfl) (fun _ _ _ h => h) (Or.inl ⟨by rfl, ?_⟩) ((And.intro x_b_u0 x_r_u0)) ?_
  rotate_left
  · intro wq hSq
    go_simp
    exact rfl
  try simp only [Act.put, List.setIfInBounds_toArray, List.set_cons_zero, List.set_cons_succ]
  refine takeH 7 53 (v := ?vu7_8) rfl (by rfl) (by kernel_rfl) (by kernel_rfl) (by kernel_rfl) (fun _ _ _ h => h) (Or.inl ⟨by rfl, ?_⟩) ((And.intro x_b_u0 x_r_u0)) ?_
  rotate_left
  · intro wq hSq
    go_simp
    exact rfl
  try simp only [Act.put, List.setIfInBounds_toArray, List.set_cons_zero, List.set_cons_succ]
  refine takeH 8 54 (v := ?vu8_9) rfl (by rfl) (by kernel_rfl) (by kernel_rfl) (by kernel_rfl) (fun _ _ _ h => h) (Or.inl ⟨by rfl, ?_⟩) ((And.intro x_b_u0 x_r_u0)) ?_
  rotate_left
  · intro wq hSq
    have cq := hSq.1.c 1 _ rfl
    have zq := lt_of_cell cq
    go_simp
    exact rfl
  try simp only [Act.put, List.setIfInBounds_toArray, List.set_cons_zero, List.set_cons_succ]
  refine takeH 9 55 (v := ?vu9_10) rfl (by rfl) (by kernel_rfl) (by kernel_rfl) (by kernel_rfl) (fun _ _ _ h => h) (Or.inl ⟨by rfl, ?_⟩) ((And.intro x_b_u0 x_r_u0)) ?_
  rotate_left
  · intro wq hSq
    go_simp
    exact rfl
  try simp only [Act.put, List.setIfInBounds_toArray, List.set_cons_zero, List.set_cons_succ]
  refine takeH 10 56 (v := ?vu10_11) rfl (by rfl) (by kernel_rfl) (by kernel_rfl) (by kernel_rfl) (fun _ _ _ h => h) (Or.inl ⟨by rfl, ?_⟩) ((And.intro x_b_u0 x_r_u0)) ?_
  rotate_left
  · intro wq hSq
    go_simp
    exact rfl
  try simp only [Act.put, List.setIfInBounds_toArray, List.set_cons_zero, List.set_cons_succ]
  refine wpAnyH_ready (rs := [11]) (by kernel_rfl) (by simp) (AllReadyH.cons rfl (fun K hK => ?_) AllReadyH.nil)
  have mz_g := (z_g_u0).lt
  have mz_h := (z_h_u0).lt
  have nz_b := (x_b_u0).lt
  have nz_r := (x_r_u0).lt
  refine step_store_cell0 (k := i) (ws := ((P0.set k (-1)).set i (-1)).map (Value.int .i64)) (v := .int .i64 (-1)) rfl rfl _ _ _ rfl z_g_u0 rfl rfl rfl rfl size_in NG.out (set_ints _ _ _) ?_
  intro Wu12 hWu12
  have x_b_u12 : Box Wu12 (b) ([.slice (some ⟨g, 0, none⟩) n c, .slice (some ⟨h, 0, none⟩) n d, .int .i64 (k : Int), .int .i64 TL]) := hWu12.past _ _ (by omega) x_b_u0
  have x_r_u12 : Box Wu12 (r) (us) := hWu12.past _ _ (by omega) x_r_u0
  have z_g_u12 := hWu12.box
  have z_h_u12 : Box Wu12 (h) ((X0).map (Value.int .i64)) := hWu12.past _ _ (by omega) z_h_u0
  have Bu12 := hWu12.below _ _ (by omega) Bu0
  clear nz_b nz_r x_b_u0 x_r_u0 z_g_u0 z_h_u0 Bu0 hWu12
  refine hK.out _ _ (And.intro x_b_u12 x_r_u12) (fun _ => ?_); clear hK K
  refine takeH 12 57 (v := ?vu12_13) rfl (by rfl) (by kernel_rfl) (by kernel_rfl) (by kernel_rfl) (fun _ _ _ h => h) (Or.inl ⟨by rfl, ?_⟩) ((And.intro x_b_u12 x_r_u12)) ?_
  rotate_left
  · intro wq hSq
    go_simp
    exact rfl
  try simp only [Act.put, List.setIfInBounds_toArray, List.set_cons_zero, List.set_cons_succ]
  refine wpAnyH_ready (rs := [13]) (by kernel_rfl) (by simp) (AllReadyH.cons rfl (fun K hK => ?_) AllReadyH.nil)
  have mz_g := (z_g_u12).lt
  have mz_h := (z_h_u12).lt
  have nz_b := (x_b_u12).lt
  have nz_r := (x_r_u12).lt
  refine step_store_cell0 (k := i) (ws := (X0.set i (-1)).map (Value.int .i64)) (v := .int .i64 (-1)) rfl rfl _ _ _ rfl z_h_u12 rfl rfl rfl rfl size_in NH.out (set_ints _ _ _) ?_
  intro Wu14 hWu14
  have x_b_u14 : Box Wu14 (b) ([.slice (some ⟨g, 0, none⟩) n c, .slice (some ⟨h, 0, none⟩) n d, .int .i64 (k : Int), .int .i64 TL]) := hWu14.past _ _ (by omega) x_b_u12
  have x_r_u14 : Box Wu14 (r) (us) := hWu14.past _ _ (by omega) x_r_u12
  have z_g_u14 : Box Wu14 (g) (((P0.set k (-1)).set i (-1)).map (Value.int .i64)) := hWu14.past _ _ (by omega) z_g_u12
  have z_h_u14 := hWu14.box
  have Bu14 := hWu14.below _ _ (by omega) Bu12
  clear nz_b nz_r x_b_u12 x_r_u12 z_g_u12 z_h_u12 Bu12 hWu14
  refine hK.out _ _ (And.intro x_b_u14 x_r_u14) (fun _ => ?_); clear hK K
  refine wpAnyH_done (by kernel_rfl) ?_ _
  go_wp2_with fail
  go_returns
  rw [HE1.out, HE2.out, HR1.out, HR2.out]
  exact ⟨rfl, x_b_u14, z_g_u14, z_h_u14, x_r_u14, Bu14⟩

set_option maxRecDepth 100000 in
set_option maxHeartbeats 6400000 in
theorem ptko_sn {v0 : World} {b g h r c d n : Nat} {us : List Value} (lb : v0.heap.size ≤ b) (lg : v0.heap.size ≤ g) (lh : v0.heap.size ≤ h) (bg : b ≠ g) (bh : b ≠ h) (gh : g ≠ h) (rb : r ≠ b) (rg : r ≠ g) (rh : r ≠ h) {i e : Nat} {a : List Nat} (he : lstO (-1) a = (e : Int)) (hen : e < n) (hn : (a ++ i :: []).Nodup) (hi : i < n) (w : World) (hB : Below v0.heap.size v0 w) (xb : Box w b [.slice (some ⟨g, 0, none⟩) n c, .slice (some ⟨h, 0, none⟩) n d, .int .i64 (hdO (a ++ i :: [])), .int .i64 (lstO (-1) (a ++ i :: []))]) (xg : Box w g (((ofL n (a ++ i :: [])).pv).map (Value.int .i64))) (xh : Box w h (((ofL n (a ++ i :: [])).nx).map (Value.int .i64))) (xr : Box w r us) : Calls Try.prog 33 #[.pointer (some ⟨b, 0, none⟩), .int .i64 (i : Int)] w fun e w' => e = .returned (.tuple #[]) ∧ Box w' b [.slice (some ⟨g, 0, none⟩) n c, .slice (some ⟨h, 0, none⟩) n d, .int .i64 (hdO (a ++ [])), .int .i64 (lstO (-1) (a ++ []))] ∧ Box w' g (((ofL n (a ++ [])).pv).map (Value.int .i64)) ∧ Box w' h (((ofL n (a ++ [])).nx).map (Value.int .i64)) ∧ Box w' r us ∧ Below v0.heap.size v0 w' := by
  have hia : i ∉ a := fun q => (List.nodup_append.1 hn).2.2 i q i List.mem_cons_self rfl
  have CP := ofL_at_pv (l := (a ++ i :: [])) (x := (e : Int)) hi (by rw [prvO_mid hia, he])
  have CX := ofL_at_nx (l := (a ++ i :: [])) (x := (-1)) hi (show nxtO (a ++ i :: []) i = (-1) from nxtO_mid hia)
  have RP : (ofL n (a ++ [])).pv = (ofL n (a ++ i :: [])).pv.set i (-1) := out_pv_nil (n := n) (i := i) (a := a) hn; have RX := out_nx_cons (n := n) (i := i) (c := e) (a := a) (b := []) he hn
  have LP : (ofL n (a ++ i :: [])).pv.length = n := ofL_pv _ _; have LX : (ofL n (a ++ i :: [])).nx.length = n := ofL_nx _ _
  have E1 : (hdO (a ++ [])) = (hdO (a ++ i :: [])) := hdO_out (i := i) (a := a) (b := []) (fun q => by subst q; have he : (-1 : Int) = e := he; omega)
  have E2 : (lstO (-1) (a ++ [])) = (e : Int) := by rw [List.append_nil]; exact he
  obtain ⟨P0, hP0⟩ : ∃ P, (ofL n (a ++ i :: [])).pv = P := ⟨_, rfl⟩; obtain ⟨X0, hX0⟩ : ∃ P, (ofL n (a ++ i :: [])).nx = P := ⟨_, rfl⟩; rw [hP0] at CP RP LP xg; rw [hX0] at CX RX LX xh
  obtain ⟨HD, hHD⟩ : ∃ x, (hdO (a ++ i :: [])) = x := ⟨_, rfl⟩; obtain ⟨TL, hTL⟩ : ∃ x, (lstO (-1) (a ++ i :: [])) = x := ⟨_, rfl⟩; rw [hHD, hTL] at xb
  have HR1 := Lib.hid (show ((ofL n (a ++ [])).pv).map (Value.int .i64) = (P0.set i (-1)).map (Value.int .i64) by rw [RP]); have HR2 := Lib.hid (show ((ofL n (a ++ [])).nx).map (Value.int .i64) = ((X0.set e (-1)).set i (-1)).map (Value.int .i64) from congrArg (fun z => z.map (Value.int .i64)) RX)
  have HE1 := Lib.hid (show (hdO (a ++ [])) = HD from E1.trans hHD); have HE2 := Lib.hid (show (lstO (-1) (a ++ [])) = (e : Int) from E2)
  have HLP := Lib.hid LP; have HLX := Lib.hid LX; have i0 : (0 : Int) ≤ (i : Int) := (by omega); have i1 : (i : Int) < (n : Int) := (by omega)
  have e0 : (0 : Int) ≤ (e : Int) := (by omega); have e1 : (e : Int) < (n : Int) := (by omega); have dp : ((e : Int) == -1) = false := by rw [beq_eq_false_iff_ne]; omega
  clear hP0 hX0 hHD hTL RP RX LP LX E1 E2 hn he hia
  have hB0 := hB; have hs0 := hB0.size; have x_b0 := xb; have x_g0 := xg; have x_h0 := xh; have x_r0 := xr; clear hB xb xg xh xr
  go_enter Try.func33, Try.ntmps33
  go_upto_region 0 with fail
  refine wp_region_held_drew (S := fun W => Box W (b) ([.slice (some ⟨g, 0, none⟩) n c, .slice (some ⟨h, 0, none⟩) n d, .int .i64 HD, .int .i64 TL]) ∧ Box W (g) ((P0).map (Value.int .i64)) ∧ Box W (h) ((X0).map (Value.int .i64)) ∧ Box W (r) (us)) (by kernel_rfl) (And.intro (x_b0).drew (And.intro (x_g0).drew (And.intro (x_h0).drew (x_r0).drew))) (fun _ => ?_)
  refine F_drew (F := fun W => wpAnyH _ _ _ _ _ _ _ _ W) ?_
  intro Ws0 hbs0
  clear hs0
  have x_b_s0 : Box Ws0 (b) ([.slice (some ⟨g, 0, none⟩) n c, .slice (some ⟨h, 0, none⟩) n d, .int .i64 HD, .int .i64 TL]) := Box.below x_b0 hbs0
  have x_g_s0 : Box Ws0 (g) ((P0).map (Value.int .i64)) := Box.below x_g0 hbs0
  have x_h_s0 : Box Ws0 (h) ((X0).map (Value.int .i64)) := Box.below x_h0 hbs0
  have x_r_s0 : Box Ws0 (r) (us) := Box.below x_r0 hbs0
  have Bs0 := below_thru hB0 hbs0
  clear x_b0 x_g0 x_h0 x_r0 hB0 hbs0
  refine takeH 0 6 (v := ?vs0_1) rfl (by rfl) (by kernel_rfl) (by kernel_rfl) (by kernel_rfl) (fun _ _ _ h => h) (Or.inl ⟨by rfl, ?_⟩) ((And.intro x_b_s0 (And.intro x_g_s0 (And.intro x_h_s0 x_r_s0)))) ?_
  rotate_left
  · intro wq hSq
    go_simp
    exact rfl
  try simp only [Act.put, List.setIfInBounds_toArray, List.set_cons_zero, List.set_cons_succ]
  refine takeH 1 7 (v := ?vs1_2) rfl (by rfl) (by kernel_rfl) (by kernel_rfl) (by kernel_rfl) (fun _ _ _ h => h) (Or.inl ⟨by rfl, ?_⟩) ((And.intro x_b_s0 (And.intro x_g_s0 (And.intro x_h_s0 x_r_s0)))) ?_
  rotate_left
  · intro wq hSq
    go_simp
    exact rfl
  try simp only [Act.put, List.setIfInBounds_toArray, List.set_cons_zero, List.set_cons_succ]
  refine takeH 2 8 (v := ?vs2_3) rfl (by rfl) (by kernel_rfl) (by kernel_rfl) (by kernel_rfl) (fun _ _ _ h => h) (Or.inl ⟨by rfl, ?_⟩) ((And.intro x_b_s0 (And.intro x_g_s0 (And.intro x_h_s0 x_r_s0)))) ?_
  rotate_left
  · intro wq hSq
    go_simp
    exact rfl
  try simp only [Act.put, List.setIfInBounds_toArray, List.set_cons_zero, List.set_cons_succ]
  refine takeH 3 9 (v := ?vs3_4) rfl (by rfl) (by kernel_rfl) (by kernel_rfl) (by kernel_rfl) (fun _ _ _ h => h) (Or.inl ⟨by rfl, ?_⟩) ((And.intro x_b_s0 (And.intro x_g_s0 (And.intro x_h_s0 x_r_s0)))) ?_
  rotate_left
  · intro wq hSq
    have cq := hSq.1.c 0 _ rfl
    have zq := lt_of_cell cq
    go_simp
    exact rfl
  try simp only [Act.put, List.setIfInBounds_toArray, List.set_cons_zero, List.set_cons_succ]
  refine takeH 4 10 (v := ?vs4_5) rfl (by rfl) (by kernel_rfl) (by kernel_rfl) (by kernel_rfl) (fun _ _ _ h => h) (Or.inl ⟨by rfl, ?_⟩) ((And.intro x_b_s0 (And.intro x_g_s0 (And.intro x_h_s0 x_r_s0)))) ?_
  rotate_left
  · intro wq hSq
    go_simp
    exact rfl
  try simp only [Act.put, List.setIfInBounds_toArray, List.set_cons_zero, List.set_cons_succ]
  refine takeH 5 11 (v := ?vs5_6) rfl (by rfl) (by kernel_rfl) (by kernel_rfl) (by kernel_rfl) (fun _ _ _ h => h) (Or.inl ⟨by rfl, ?_⟩) ((And.intro x_b_s0 (And.intro x_g_s0 (And.intro x_h_s0 x_r_s0)))) ?_
  rotate_left
  · intro wq hSq
    go_simp
    exact rfl
  try simp only [Act.put, List.setIfInBounds_toArray, List.set_cons_zero, List.set_cons_succ]
  refine takeH 6 12 (v := ?vs6_7) rfl (by rfl) (by kernel_rfl) (by kernel_rfl) (by kernel_rfl) (fun _ _ _ h => h) (Or.inl ⟨by rfl, ?_⟩) ((And.intro x_b_s0 (And.intro x_g_s0 (And.intro x_h_s0 x_r_s0)))) ?_
  rotate_left
  · intro wq hSq
    have cq := hSq.2.1.c i _ CP
    have zq := lt_of_cell cq
    go_simp
    exact rfl
  try simp only [Act.put, List.setIfInBounds_toArray, List.set_cons_zero, List.set_cons_succ]
  refine takeH 7 13 (v := ?vs7_8) rfl (by rfl) (by kernel_rfl) (by kernel_rfl) (by kernel_rfl) (fun _ _ _ h => h) (Or.inl ⟨by rfl, ?_⟩) ((And.intro x_b_s0 (And.intro x_g_s0 (And.intro x_h_s0 x_r_s0)))) ?_
  rotate_left
  · intro wq hSq
    go_simp
    exact rfl
  try simp only [Act.put, List.setIfInBounds_toArray, List.set_cons_zero, List.set_cons_succ]
  refine takeH 8 14 (v := ?vs8_9) rfl (by rfl) (by kernel_rfl) (by kernel_rfl) (by kernel_rfl) (fun _ _ _ h => h) (Or.inl ⟨by rfl, ?_⟩) ((And.intro x_b_s0 (And.intro x_g_s0 (And.intro x_h_s0 x_r_s0)))) ?_
  rotate_left
  · intro wq hSq
    go_simp
    exact rfl
  try simp only [Act.put, List.setIfInBounds_toArray, List.set_cons_zero, List.set_cons_succ]
  refine takeH 9 15 (v := ?vs9_10) rfl (by rfl) (by kernel_rfl) (by kernel_rfl) (by kernel_rfl) (fun _ _ _ h => h) (Or.inl ⟨by rfl, ?_⟩) ((And.intro x_b_s0 (And.intro x_g_s0 (And.intro x_h_s0 x_r_s0)))) ?_
  rotate_left
  · intro wq hSq
    go_simp
    exact rfl
  try simp only [Act.put, List.setIfInBounds_toArray, List.set_cons_zero, List.set_cons_succ]
  refine takeH 10 16 (v := ?vs10_11) rfl (by rfl) (by kernel_rfl) (by kernel_rfl) (by kernel_rfl) (fun _ _ _ h => h) (Or.inl ⟨by rfl, ?_⟩) ((And.intro x_b_s0 (And.intro x_g_s0 (And.intro x_h_s0 x_r_s0)))) ?_
  rotate_left
  · intro wq hSq
    have cq := hSq.1.c 1 _ rfl
    have zq := lt_of_cell cq
    go_simp
    exact rfl
  try simp only [Act.put, List.setIfInBounds_toArray, List.set_cons_zero, List.set_cons_succ]
  refine takeH 11 17 (v := ?vs11_12) rfl (by rfl) (by kernel_rfl) (by kernel_rfl) (by kernel_rfl) (fun _ _ _ h => h) (Or.inl ⟨by rfl, ?_⟩) ((And.intro x_b_s0 (And.intro x_g_s0 (And.intro x_h_s0 x_r_s0)))) ?_
  rotate_left
  · intro wq hSq
    go_simp
    exact rfl
  try simp only [Act.put, List.setIfInBounds_toArray, List.set_cons_zero, List.set_cons_succ]
  refine takeH 12 18 (v := ?vs12_13) rfl (by rfl) (by kernel_rfl) (by kernel_rfl) (by kernel_rfl) (fun _ _ _ h => h) (Or.inl ⟨by rfl, ?_⟩) ((And.intro x_b_s0 (And.intro x_g_s0 (And.intro x_h_s0 x_r_s0)))) ?_
  rotate_left
  · intro wq hSq
    go_simp
    exact rfl
  try simp only [Act.put, List.setIfInBounds_toArray, List.set_cons_zero, List.set_cons_succ]
  refine takeH 13 19 (v := ?vs13_14) rfl (by rfl) (by kernel_rfl) (by kernel_rfl) (by kernel_rfl) (fun _ _ _ h => h) (Or.inl ⟨by rfl, ?_⟩) ((And.intro x_b_s0 (And.intro x_g_s0 (And.intro x_h_s0 x_r_s0)))) ?_
  rotate_left
  · intro wq hSq
    have cq := hSq.2.2.1.c i _ CX
    have zq := lt_of_cell cq
    go_simp
    exact rfl
  try simp only [Act.put, List.setIfInBounds_toArray, List.set_cons_zero, List.set_cons_succ]
  refine takeH 14 4 (v := ?vs14_15) rfl (by rfl) (by kernel_rfl) (by kernel_rfl) (by kernel_rfl) (fun _ _ _ h => h) (Or.inl ⟨by rfl, ?_⟩) ((And.intro x_b_s0 (And.intro x_g_s0 (And.intro x_h_s0 x_r_s0)))) ?_
  rotate_left
  · intro wq hSq
    go_simp
    exact rfl
  try simp only [Act.put, List.setIfInBounds_toArray, List.set_cons_zero, List.set_cons_succ]
  refine takeH 15 5 (v := ?vs15_16) rfl (by rfl) (by kernel_rfl) (by kernel_rfl) (by kernel_rfl) (fun _ _ _ h => h) (Or.inl ⟨by rfl, ?_⟩) ((And.intro x_b_s0 (And.intro x_g_s0 (And.intro x_h_s0 x_r_s0)))) ?_
  rotate_left
  · intro wq hSq
    go_simp
    exact rfl
  try simp only [Act.put, List.setIfInBounds_toArray, List.set_cons_zero, List.set_cons_succ]
  refine wpAnyH_done (by kernel_rfl) ?_ _
  have hB1 := Bs0; have hs1 := hB1.size
  have x_b1 := x_b_s0
  have x_g1 := x_g_s0
  have x_h1 := x_h_s0
  have x_r1 := x_r_s0
  clear Bs0 x_b_s0 x_g_s0 x_h_s0 x_r_s0
  clear CP CX
  have cb := (x_b1).c 1 _ rfl
  have zb := (x_b1).lt
  have NL := Lib.hid (show e < (X0.map (Value.int .i64)).length by rw [List.length_map, HLX.out]; exact hen)
  have lr_b := (x_b1).lt
  have lr_g := (x_g1).lt
  have lr_h := (x_h1).lt
  have lr_r := (x_r1).lt
  go_upto_region 4 with (refine wpList_store_cell (k := e) (ws := ((X0.set e (-1))).map (Value.int .i64)) (v := .int .i64 (-1)) rfl _ _ _ rfl x_h1 rfl rfl rfl rfl size_in NL.out (set_ints _ _ _) ?_; intro W82 hW82)
  have x_b2 : Box W82 (b) ([.slice (some ⟨g, 0, none⟩) n c, .slice (some ⟨h, 0, none⟩) n d, .int .i64 HD, .int .i64 TL]) := hW82.past _ _ (by omega) x_b1
  have x_g2 : Box W82 (g) ((P0).map (Value.int .i64)) := hW82.past _ _ (by omega) x_g1
  have x_r2 : Box W82 (r) (us) := hW82.past _ _ (by omega) x_r1
  have x_h2 : Box W82 (h) (((X0.set e (-1))).map (Value.int .i64)) := hW82.box
  have hB2 : Below v0.heap.size v0 W82 := hW82.below _ _ (by omega) hB1; have hs2 := hB2.size
  clear hW82 hB1 hs1 x_b1 x_g1 x_h1 x_r1 lr_b lr_g lr_h lr_r  
  clear NL cb zb
  have lr_b := (x_b2).lt
  have lr_g := (x_g2).lt
  have lr_h := (x_h2).lt
  have lr_r := (x_r2).lt
  go_upto_region 7 with (refine wpList_store_cell (k := 3) (ws := [.slice (some ⟨g, 0, none⟩) n c, .slice (some ⟨h, 0, none⟩) n d, .int .i64 HD, .int .i64 (e : Int)]) (v := .int .i64 (e : Int)) rfl _ _ _ rfl x_b2 rfl rfl rfl rfl size_in (show 3 < 4 by decide) rfl ?_; intro W83 hW83)
  have x_g3 : Box W83 (g) ((P0).map (Value.int .i64)) := hW83.past _ _ (by omega) x_g2
  have x_h3 : Box W83 (h) (((X0.set e (-1))).map (Value.int .i64)) := hW83.past _ _ (by omega) x_h2
  have x_r3 : Box W83 (r) (us) := hW83.past _ _ (by omega) x_r2
  have x_b3 : Box W83 (b) ([.slice (some ⟨g, 0, none⟩) n c, .slice (some ⟨h, 0, none⟩) n d, .int .i64 HD, .int .i64 (e : Int)]) := hW83.box
  have hB3 : Below v0.heap.size v0 W83 := hW83.below _ _ (by omega) hB2; have hs3 := hB3.size
  clear hW83 hB2 hs2 x_b2 x_g2 x_h2 x_r2 lr_b lr_g lr_h lr_r  
  have NG := Lib.hid (show i < ((P0).map (Value.int .i64)).length by rw [List.length_map, HLP.out]; exact hi); have NH := Lib.hid (show i < (((X0.set e (-1))).map (Value.int .i64)).length by rw [List.length_map, List.length_set, HLX.out]; exact hi)
  refine wp_region_held_drew (S := fun W => Box W (b) ([.slice (some ⟨g, 0, none⟩) n c, .slice (some ⟨h, 0, none⟩) n d, .int .i64 HD, .int .i64 (e : Int)]) ∧ Box W (r) (us)) (by kernel_rfl) (And.intro (x_b3).drew (x_r3).drew) (fun _ => ?_)
  refine F_drew (F := fun W => wpAnyH _ _ _ _ _ _ _ _ W) ?_
  intro Wu0 hbu0
  clear hs3
  have x_b_u0 : Box Wu0 (b) ([.slice (some ⟨g, 0, none⟩) n c, .slice (some ⟨h, 0, none⟩) n d, .int .i64 HD, .int .i64 (e : Int)]) := Box.below x_b3 hbu0
  have x_r_u0 : Box Wu0 (r) (us) := Box.below x_r3 hbu0
  have z_g_u0 : Box Wu0 (g) ((P0).map (Value.int .i64)) := Box.below x_g3 hbu0
  have z_h_u0 : Box Wu0 (h) (((X0.set e (-1))).map (Value.int .i64)) := Box.below x_h3 hbu0
  have Bu0 := below_thru hB3 hbu0
  clear x_b3 x_r3 x_g3 x_h3 hB3 hbu0
  refine takeH 0 46 (v := ?vu0_1) rfl (by rfl) (by kernel_rfl) (by kernel_rfl) (by kernel_rfl) (fun _ _ _ h => h) (Or.inl ⟨by rfl, ?_⟩) ((And.intro x_b_u0 x_r_u0)) ?_
  rotate_left
  · intro wq hSq
    go_simp
    exact rfl
  try simp only [Act.put, List.setIfInBounds_toArray, List.set_cons_zero, List.set_cons_succ]
  refine takeH 1 47 (v := ?vu1_2) rfl (by rfl) (by kernel_rfl) (by kernel_rfl) (by kernel_rfl) (fun _ _ _ h => h) (Or.inl ⟨by rfl, ?_⟩) ((And.intro x_b_u0 x_r_u0)) ?_
  rotate_left
  · intro wq hSq
    go_simp
    exact rfl
  try simp only [Act.put, List.setIfInBounds_toArray, List.set_cons_zero, List.set_cons_succ]
  refine takeH 2 48 (v := ?vu2_3) rfl (by rfl) (by kernel_rfl) (by kernel_rfl) (by kernel_rfl) (fun _ _ _ h => h) (Or.inl ⟨by rfl, ?_⟩) ((And.intro x_b_u0 x_r_u0)) ?_
  rotate_left
  · intro wq hSq
    go_simp
    exact rfl
  try simp only [Act.put, List.setIfInBounds_toArray, List.set_cons_zero, List.set_cons_succ]
  refine takeH 3 49 (v := ?vu3_4) rfl (by rfl) (by kernel_rfl) (by kernel_rfl) (by kernel_rfl) (fun _ _ _ h => h) (Or.inl ⟨by rfl, ?_⟩) ((And.intro x_b_u0 x_r_u0)) ?_
  rotate_left
  · intro wq hSq
    have cq := hSq.1.c 0 _ rfl
    have zq := lt_of_cell cq
    go_simp
    exact rfl
  try simp only [Act.put, List.setIfInBounds_toArray, List.set_cons_zero, List.set_cons_succ]
  refine takeH 4 50 (v := ?vu4_5) rfl (by rfl) (by kernel_rfl) (by kernel_rfl) (by kernel_rfl) (fun _ _ _ h => h) (Or.inl ⟨by rfl, ?_⟩) ((And.intro x_b_u0 x_r_u0)) ?_
  rotate_left
  · intro wq hSq
    go_simp
    exact rfl
  try simp only [Act.put, List.setIfInBounds_toArray, List.set_cons_zero, List.set_cons_succ]
  refine takeH 5 51 (v := ?vu5_6) rfl (by rfl) (by kernel_rfl) (by kernel_rfl) (by kernel_rfl) (fun _ _ _ h => h) (Or.inl ⟨by rfl, ?_⟩) ((And.intro x_b_u0 x_r_u0)) ?_
  rotate_left
  · intro wq hSq
    go_simp
    exact rfl
  try simp only [Act.put, List.setIfInBounds_toArray, List.set_cons_zero, List.set_cons_succ]
  refine takeH 6 52 (v := ?vu6_7) rfl (by rfl) (by kernel_rfl) (by kernel_rfl) (by kernel_rfl) (fun _ _ _ h => h) (Or.inl ⟨by rfl, ?_⟩) ((And.intro x_b_u0 x_r_u0)) ?_
  rotate_left
  · intro wq hSq
    go_simp
    exact rfl
  try simp only [Act.put, List.setIfInBounds_toArray, List.set_cons_zero, List.set_cons_succ]
  refine takeH 7 53 (v := ?vu7_8) rfl (by rfl) (by kernel_rfl) (by kernel_rfl) (by kernel_rfl) (fun _ _ _ h => h) (Or.inl ⟨by rfl, ?_⟩) ((And.intro x_b_u0 x_r_u0)) ?_
  rotate_left
  · intro wq hSq
    go_simp
    exact rfl
  try simp only [Act.put, List.setIfInBounds_toArray, List.set_cons_zero, List.set_cons_succ]
  refine takeH 8 54 (v := ?vu8_9) rfl (by rfl) (by kernel_rfl) (by kernel_rfl) (by kernel_rfl) (fun _ _ _ h => h) (Or.inl ⟨by rfl, ?_⟩) ((And.intro x_b_u0 x_r_u0)) ?_
  rotate_left
  · intro wq hSq
    have cq := hSq.1.c 1 _ rfl
    have zq := lt_of_cell cq
    go_simp
    exact rfl
  try simp only [Act.put, List.setIfInBounds_toArray, List.set_cons_zero, List.set_cons_succ]
  refine takeH 9 55 (v := ?vu9_10) rfl (by rfl) (by kernel_rfl) (by kernel_rfl) (by kernel_rfl) (fun _ _ _ h => h) (Or.inl ⟨by rfl, ?_⟩) ((And.intro x_b_u0 x_r_u0)) ?_
  rotate_left
  · intro wq hSq
    go_simp
    exact rfl
  try simp only [Act.put, List.setIfInBounds_toArray, List.set_cons_zero, List.set_cons_succ]
  refine takeH 10 56 (v := ?vu10_11) rfl (by rfl) (by kernel_rfl) (by kernel_rfl) (by kernel_rfl) (fun _ _ _ h => h) (Or.inl ⟨by rfl, ?_⟩) ((And.intro x_b_u0 x_r_u0)) ?_
  rotate_left
  · intro wq hSq
    go_simp
    exact rfl
  try simp only [Act.put, List.setIfInBounds_toArray, List.set_cons_zero, List.set_cons_succ]
  refine wpAnyH_ready (rs := [11]) (by kernel_rfl) (by simp) (AllReadyH.cons rfl (fun K hK => ?_) AllReadyH.nil)
  have mz_g := (z_g_u0).lt
  have mz_h := (z_h_u0).lt
  have nz_b := (x_b_u0).lt
  have nz_r := (x_r_u0).lt
  refine step_store_cell0 (k := i) (ws := (P0.set i (-1)).map (Value.int .i64)) (v := .int .i64 (-1)) rfl rfl _ _ _ rfl z_g_u0 rfl rfl rfl rfl size_in NG.out (set_ints _ _ _) ?_
  intro Wu12 hWu12
  have x_b_u12 : Box Wu12 (b) ([.slice (some ⟨g, 0, none⟩) n c, .slice (some ⟨h, 0, none⟩) n d, .int .i64 HD, .int .i64 (e : Int)]) := hWu12.past _ _ (by omega) x_b_u0
  have x_r_u12 : Box Wu12 (r) (us) := hWu12.past _ _ (by omega) x_r_u0
  have z_g_u12 := hWu12.box
  have z_h_u12 : Box Wu12 (h) (((X0.set e (-1))).map (Value.int .i64)) := hWu12.past _ _ (by omega) z_h_u0
  have Bu12 := hWu12.below _ _ (by omega) Bu0
  clear nz_b nz_r x_b_u0 x_r_u0 z_g_u0 z_h_u0 Bu0 hWu12
  refine hK.out _ _ (And.intro x_b_u12 x_r_u12) (fun _ => ?_); clear hK K
  refine takeH 12 57 (v := ?vu12_13) rfl (by rfl) (by kernel_rfl) (by kernel_rfl) (by kernel_rfl) (fun _ _ _ h => h) (Or.inl ⟨by rfl, ?_⟩) ((And.intro x_b_u12 x_r_u12)) ?_
  rotate_left
  · intro wq hSq
    go_simp
    exact rfl
  try simp only [Act.put, List.setIfInBounds_toArray, List.set_cons_zero, List.set_cons_succ]
  refine wpAnyH_ready (rs := [13]) (by kernel_rfl) (by simp) (AllReadyH.cons rfl (fun K hK => ?_) AllReadyH.nil)
  have mz_g := (z_g_u12).lt
  have mz_h := (z_h_u12).lt
  have nz_b := (x_b_u12).lt
  have nz_r := (x_r_u12).lt
  refine step_store_cell0 (k := i) (ws := ((X0.set e (-1)).set i (-1)).map (Value.int .i64)) (v := .int .i64 (-1)) rfl rfl _ _ _ rfl z_h_u12 rfl rfl rfl rfl size_in NH.out (set_ints _ _ _) ?_
  intro Wu14 hWu14
  have x_b_u14 : Box Wu14 (b) ([.slice (some ⟨g, 0, none⟩) n c, .slice (some ⟨h, 0, none⟩) n d, .int .i64 HD, .int .i64 (e : Int)]) := hWu14.past _ _ (by omega) x_b_u12
  have x_r_u14 : Box Wu14 (r) (us) := hWu14.past _ _ (by omega) x_r_u12
  have z_g_u14 : Box Wu14 (g) ((P0.set i (-1)).map (Value.int .i64)) := hWu14.past _ _ (by omega) z_g_u12
  have z_h_u14 := hWu14.box
  have Bu14 := hWu14.below _ _ (by omega) Bu12
  clear nz_b nz_r x_b_u12 x_r_u12 z_g_u12 z_h_u12 Bu12 hWu14
  refine hK.out _ _ (And.intro x_b_u14 x_r_u14) (fun _ => ?_); clear hK K
  refine wpAnyH_done (by kernel_rfl) ?_ _
  go_wp2_with fail
  go_returns
  rw [HE1.out, HE2.out, HR1.out, HR2.out]
  exact ⟨rfl, x_b_u14, z_g_u14, z_h_u14, x_r_u14, Bu14⟩

set_option maxRecDepth 100000 in
set_option maxHeartbeats 6400000 in
theorem ptko_ss {v0 : World} {b g h r c d n : Nat} {us : List Value} (lb : v0.heap.size ≤ b) (lg : v0.heap.size ≤ g) (lh : v0.heap.size ≤ h) (bg : b ≠ g) (bh : b ≠ h) (gh : g ≠ h) (rb : r ≠ b) (rg : r ≠ g) (rh : r ≠ h) {i e k : Nat} {a : List Nat} (he : lstO (-1) a = (e : Int)) (hen : e < n) {bs : List Nat} (hn : (a ++ i :: (k :: bs)).Nodup) (hi : i < n) (hk : k < n) (w : World) (hB : Below v0.heap.size v0 w) (xb : Box w b [.slice (some ⟨g, 0, none⟩) n c, .slice (some ⟨h, 0, none⟩) n d, .int .i64 (hdO (a ++ i :: (k :: bs))), .int .i64 (lstO (-1) (a ++ i :: (k :: bs)))]) (xg : Box w g (((ofL n (a ++ i :: (k :: bs))).pv).map (Value.int .i64))) (xh : Box w h (((ofL n (a ++ i :: (k :: bs))).nx).map (Value.int .i64))) (xr : Box w r us) : Calls Try.prog 33 #[.pointer (some ⟨b, 0, none⟩), .int .i64 (i : Int)] w fun e w' => e = .returned (.tuple #[]) ∧ Box w' b [.slice (some ⟨g, 0, none⟩) n c, .slice (some ⟨h, 0, none⟩) n d, .int .i64 (hdO (a ++ (k :: bs))), .int .i64 (lstO (-1) (a ++ (k :: bs)))] ∧ Box w' g (((ofL n (a ++ (k :: bs))).pv).map (Value.int .i64)) ∧ Box w' h (((ofL n (a ++ (k :: bs))).nx).map (Value.int .i64)) ∧ Box w' r us ∧ Below v0.heap.size v0 w' := by
  have _ := lb
  have hia : i ∉ a := fun q => (List.nodup_append.1 hn).2.2 i q i List.mem_cons_self rfl
  have CP := ofL_at_pv (l := (a ++ i :: (k :: bs))) (x := (e : Int)) hi (by rw [prvO_mid hia, he])
  have CX := ofL_at_nx (l := (a ++ i :: (k :: bs))) (x := (k : Int)) hi (show nxtO (a ++ i :: (k :: bs)) i = (k : Int) from nxtO_mid hia)
  have RP : (ofL n (a ++ (k :: bs))).pv = ((ofL n (a ++ i :: (k :: bs))).pv.set k (lstO (-1) a)).set i (-1) := out_pv_cons (n := n) (i := i) (k := k) (a := a) (b := bs) hn; have RX := out_nx_cons (n := n) (i := i) (c := e) (a := a) (b := (k :: bs)) he hn
  rw [he] at RP
  have LP : (ofL n (a ++ i :: (k :: bs))).pv.length = n := ofL_pv _ _; have LX : (ofL n (a ++ i :: (k :: bs))).nx.length = n := ofL_nx _ _
  have E1 : (hdO (a ++ (k :: bs))) = (hdO (a ++ i :: (k :: bs))) := hdO_out (i := i) (a := a) (b := (k :: bs)) (fun q => by subst q; have he : (-1 : Int) = e := he; omega)
  have E2 : (lstO (-1) (a ++ (k :: bs))) = (lstO (-1) (a ++ i :: (k :: bs))) := lstO_out (i := i) (a := a) (b := k :: bs) (by simp)
  obtain ⟨P0, hP0⟩ : ∃ P, (ofL n (a ++ i :: (k :: bs))).pv = P := ⟨_, rfl⟩; obtain ⟨X0, hX0⟩ : ∃ P, (ofL n (a ++ i :: (k :: bs))).nx = P := ⟨_, rfl⟩; rw [hP0] at CP RP LP xg; rw [hX0] at CX RX LX xh
  obtain ⟨HD, hHD⟩ : ∃ x, (hdO (a ++ i :: (k :: bs))) = x := ⟨_, rfl⟩; obtain ⟨TL, hTL⟩ : ∃ x, (lstO (-1) (a ++ i :: (k :: bs))) = x := ⟨_, rfl⟩; rw [hHD, hTL] at xb
  have HR1 := Lib.hid (show ((ofL n (a ++ (k :: bs))).pv).map (Value.int .i64) = ((P0.set k (e : Int)).set i (-1)).map (Value.int .i64) by rw [RP]); have HR2 := Lib.hid (show ((ofL n (a ++ (k :: bs))).nx).map (Value.int .i64) = ((X0.set e (k : Int)).set i (-1)).map (Value.int .i64) from congrArg (fun z => z.map (Value.int .i64)) RX)
  have HE1 := Lib.hid (show (hdO (a ++ (k :: bs))) = HD from E1.trans hHD); have HE2 := Lib.hid (show (lstO (-1) (a ++ (k :: bs))) = TL from E2.trans hTL)
  have HLP := Lib.hid LP; have HLX := Lib.hid LX; have i0 : (0 : Int) ≤ (i : Int) := (by omega); have i1 : (i : Int) < (n : Int) := (by omega)
  have e0 : (0 : Int) ≤ (e : Int) := (by omega); have e1 : (e : Int) < (n : Int) := (by omega); have dp : ((e : Int) == -1) = false := by rw [beq_eq_false_iff_ne]; omega
  have k0 : (0 : Int) ≤ (k : Int) := (by omega); have k1 : (k : Int) < (n : Int) := (by omega); have dn : ((k : Int) == -1) = false := by rw [beq_eq_false_iff_ne]; omega
  clear hP0 hX0 hHD hTL RP RX LP LX E1 E2 hn he hia
  have hB0 := hB; have hs0 := hB0.size; have x_b0 := xb; have x_g0 := xg; have x_h0 := xh; have x_r0 := xr; clear hB xb xg xh xr
  go_enter Try.func33, Try.ntmps33
  go_upto_region 0 with fail
  refine wp_region_held_drew (S := fun W => Box W (b) ([.slice (some ⟨g, 0, none⟩) n c, .slice (some ⟨h, 0, none⟩) n d, .int .i64 HD, .int .i64 TL]) ∧ Box W (g) ((P0).map (Value.int .i64)) ∧ Box W (h) ((X0).map (Value.int .i64)) ∧ Box W (r) (us)) (by kernel_rfl) (And.intro (x_b0).drew (And.intro (x_g0).drew (And.intro (x_h0).drew (x_r0).drew))) (fun _ => ?_)
  refine F_drew (F := fun W => wpAnyH _ _ _ _ _ _ _ _ W) ?_
  intro Ws0 hbs0
  clear hs0
  have x_b_s0 : Box Ws0 (b) ([.slice (some ⟨g, 0, none⟩) n c, .slice (some ⟨h, 0, none⟩) n d, .int .i64 HD, .int .i64 TL]) := Box.below x_b0 hbs0
  have x_g_s0 : Box Ws0 (g) ((P0).map (Value.int .i64)) := Box.below x_g0 hbs0
  have x_h_s0 : Box Ws0 (h) ((X0).map (Value.int .i64)) := Box.below x_h0 hbs0
  have x_r_s0 : Box Ws0 (r) (us) := Box.below x_r0 hbs0
  have Bs0 := below_thru hB0 hbs0
  clear x_b0 x_g0 x_h0 x_r0 hB0 hbs0
  refine takeH 0 6 (v := ?vs0_1) rfl (by rfl) (by kernel_rfl) (by kernel_rfl) (by kernel_rfl) (fun _ _ _ h => h) (Or.inl ⟨by rfl, ?_⟩) ((And.intro x_b_s0 (And.intro x_g_s0 (And.intro x_h_s0 x_r_s0)))) ?_
  rotate_left
  · intro wq hSq
    go_simp
    exact rfl
  try simp only [Act.put, List.setIfInBounds_toArray, List.set_cons_zero, List.set_cons_succ]
  refine takeH 1 7 (v := ?vs1_2) rfl (by rfl) (by kernel_rfl) (by kernel_rfl) (by kernel_rfl) (fun _ _ _ h => h) (Or.inl ⟨by rfl, ?_⟩) ((And.intro x_b_s0 (And.intro x_g_s0 (And.intro x_h_s0 x_r_s0)))) ?_
  rotate_left
  · intro wq hSq
    go_simp
    exact rfl
  try simp only [Act.put, List.setIfInBounds_toArray, List.set_cons_zero, List.set_cons_succ]
  refine takeH 2 8 (v := ?vs2_3) rfl (by rfl) (by kernel_rfl) (by kernel_rfl) (by kernel_rfl) (fun _ _ _ h => h) (Or.inl ⟨by rfl, ?_⟩) ((And.intro x_b_s0 (And.intro x_g_s0 (And.intro x_h_s0 x_r_s0)))) ?_
  rotate_left
  · intro wq hSq
    go_simp
    exact rfl
  try simp only [Act.put, List.setIfInBounds_toArray, List.set_cons_zero, List.set_cons_succ]
  refine takeH 3 9 (v := ?vs3_4) rfl (by rfl) (by kernel_rfl) (by kernel_rfl) (by kernel_rfl) (fun _ _ _ h => h) (Or.inl ⟨by rfl, ?_⟩) ((And.intro x_b_s0 (And.intro x_g_s0 (And.intro x_h_s0 x_r_s0)))) ?_
  rotate_left
  · intro wq hSq
    have cq := hSq.1.c 0 _ rfl
    have zq := lt_of_cell cq
    go_simp
    exact rfl
  try simp only [Act.put, List.setIfInBounds_toArray, List.set_cons_zero, List.set_cons_succ]
  refine takeH 4 10 (v := ?vs4_5) rfl (by rfl) (by kernel_rfl) (by kernel_rfl) (by kernel_rfl) (fun _ _ _ h => h) (Or.inl ⟨by rfl, ?_⟩) ((And.intro x_b_s0 (And.intro x_g_s0 (And.intro x_h_s0 x_r_s0)))) ?_
  rotate_left
  · intro wq hSq
    go_simp
    exact rfl
  try simp only [Act.put, List.setIfInBounds_toArray, List.set_cons_zero, List.set_cons_succ]
  refine takeH 5 11 (v := ?vs5_6) rfl (by rfl) (by kernel_rfl) (by kernel_rfl) (by kernel_rfl) (fun _ _ _ h => h) (Or.inl ⟨by rfl, ?_⟩) ((And.intro x_b_s0 (And.intro x_g_s0 (And.intro x_h_s0 x_r_s0)))) ?_
  rotate_left
  · intro wq hSq
    go_simp
    exact rfl
  try simp only [Act.put, List.setIfInBounds_toArray, List.set_cons_zero, List.set_cons_succ]
  refine takeH 6 12 (v := ?vs6_7) rfl (by rfl) (by kernel_rfl) (by kernel_rfl) (by kernel_rfl) (fun _ _ _ h => h) (Or.inl ⟨by rfl, ?_⟩) ((And.intro x_b_s0 (And.intro x_g_s0 (And.intro x_h_s0 x_r_s0)))) ?_
  rotate_left
  · intro wq hSq
    have cq := hSq.2.1.c i _ CP
    have zq := lt_of_cell cq
    go_simp
    exact rfl
  try simp only [Act.put, List.setIfInBounds_toArray, List.set_cons_zero, List.set_cons_succ]
  refine takeH 7 13 (v := ?vs7_8) rfl (by rfl) (by kernel_rfl) (by kernel_rfl) (by kernel_rfl) (fun _ _ _ h => h) (Or.inl ⟨by rfl, ?_⟩) ((And.intro x_b_s0 (And.intro x_g_s0 (And.intro x_h_s0 x_r_s0)))) ?_
  rotate_left
  · intro wq hSq
    go_simp
    exact rfl
  try simp only [Act.put, List.setIfInBounds_toArray, List.set_cons_zero, List.set_cons_succ]
  refine takeH 8 14 (v := ?vs8_9) rfl (by rfl) (by kernel_rfl) (by kernel_rfl) (by kernel_rfl) (fun _ _ _ h => h) (Or.inl ⟨by rfl, ?_⟩) ((And.intro x_b_s0 (And.intro x_g_s0 (And.intro x_h_s0 x_r_s0)))) ?_
  rotate_left
  · intro wq hSq
    go_simp
    exact rfl
  try simp only [Act.put, List.setIfInBounds_toArray, List.set_cons_zero, List.set_cons_succ]
  refine takeH 9 15 (v := ?vs9_10) rfl (by rfl) (by kernel_rfl) (by kernel_rfl) (by kernel_rfl) (fun _ _ _ h => h) (Or.inl ⟨by rfl, ?_⟩) ((And.intro x_b_s0 (And.intro x_g_s0 (And.intro x_h_s0 x_r_s0)))) ?_
  rotate_left
  · intro wq hSq
    go_simp
    exact rfl
  try simp only [Act.put, List.setIfInBounds_toArray, List.set_cons_zero, List.set_cons_succ]
  refine takeH 10 16 (v := ?vs10_11) rfl (by rfl) (by kernel_rfl) (by kernel_rfl) (by kernel_rfl) (fun _ _ _ h => h) (Or.inl ⟨by rfl, ?_⟩) ((And.intro x_b_s0 (And.intro x_g_s0 (And.intro x_h_s0 x_r_s0)))) ?_
  rotate_left
  · intro wq hSq
    have cq := hSq.1.c 1 _ rfl
    have zq := lt_of_cell cq
    go_simp
    exact rfl
  try simp only [Act.put, List.setIfInBounds_toArray, List.set_cons_zero, List.set_cons_succ]
  refine takeH 11 17 (v := ?vs11_12) rfl (by rfl) (by kernel_rfl) (by kernel_rfl) (by kernel_rfl) (fun _ _ _ h => h) (Or.inl ⟨by rfl, ?_⟩) ((And.intro x_b_s0 (And.intro x_g_s0 (And.intro x_h_s0 x_r_s0)))) ?_
  rotate_left
  · intro wq hSq
    go_simp
    exact rfl
  try simp only [Act.put, List.setIfInBounds_toArray, List.set_cons_zero, List.set_cons_succ]
  refine takeH 12 18 (v := ?vs12_13) rfl (by rfl) (by kernel_rfl) (by kernel_rfl) (by kernel_rfl) (fun _ _ _ h => h) (Or.inl ⟨by rfl, ?_⟩) ((And.intro x_b_s0 (And.intro x_g_s0 (And.intro x_h_s0 x_r_s0)))) ?_
  rotate_left
  · intro wq hSq
    go_simp
    exact rfl
  try simp only [Act.put, List.setIfInBounds_toArray, List.set_cons_zero, List.set_cons_succ]
  refine takeH 13 19 (v := ?vs13_14) rfl (by rfl) (by kernel_rfl) (by kernel_rfl) (by kernel_rfl) (fun _ _ _ h => h) (Or.inl ⟨by rfl, ?_⟩) ((And.intro x_b_s0 (And.intro x_g_s0 (And.intro x_h_s0 x_r_s0)))) ?_
  rotate_left
  · intro wq hSq
    have cq := hSq.2.2.1.c i _ CX
    have zq := lt_of_cell cq
    go_simp
    exact rfl
  try simp only [Act.put, List.setIfInBounds_toArray, List.set_cons_zero, List.set_cons_succ]
  refine takeH 14 4 (v := ?vs14_15) rfl (by rfl) (by kernel_rfl) (by kernel_rfl) (by kernel_rfl) (fun _ _ _ h => h) (Or.inl ⟨by rfl, ?_⟩) ((And.intro x_b_s0 (And.intro x_g_s0 (And.intro x_h_s0 x_r_s0)))) ?_
  rotate_left
  · intro wq hSq
    go_simp
    exact rfl
  try simp only [Act.put, List.setIfInBounds_toArray, List.set_cons_zero, List.set_cons_succ]
  refine takeH 15 5 (v := ?vs15_16) rfl (by rfl) (by kernel_rfl) (by kernel_rfl) (by kernel_rfl) (fun _ _ _ h => h) (Or.inl ⟨by rfl, ?_⟩) ((And.intro x_b_s0 (And.intro x_g_s0 (And.intro x_h_s0 x_r_s0)))) ?_
  rotate_left
  · intro wq hSq
    go_simp
    exact rfl
  try simp only [Act.put, List.setIfInBounds_toArray, List.set_cons_zero, List.set_cons_succ]
  refine wpAnyH_done (by kernel_rfl) ?_ _
  have hB1 := Bs0; have hs1 := hB1.size
  have x_b1 := x_b_s0
  have x_g1 := x_g_s0
  have x_h1 := x_h_s0
  have x_r1 := x_r_s0
  clear Bs0 x_b_s0 x_g_s0 x_h_s0 x_r_s0
  clear CP CX
  have cb := (x_b1).c 1 _ rfl
  have zb := (x_b1).lt
  have NL := Lib.hid (show e < (X0.map (Value.int .i64)).length by rw [List.length_map, HLX.out]; exact hen)
  have lr_b := (x_b1).lt
  have lr_g := (x_g1).lt
  have lr_h := (x_h1).lt
  have lr_r := (x_r1).lt
  go_upto_region 4 with (refine wpList_store_cell (k := e) (ws := ((X0.set e (k : Int))).map (Value.int .i64)) (v := .int .i64 (k : Int)) rfl _ _ _ rfl x_h1 rfl rfl rfl rfl size_in NL.out (set_ints _ _ _) ?_; intro W82 hW82)
  have x_b2 : Box W82 (b) ([.slice (some ⟨g, 0, none⟩) n c, .slice (some ⟨h, 0, none⟩) n d, .int .i64 HD, .int .i64 TL]) := hW82.past _ _ (by omega) x_b1
  have x_g2 : Box W82 (g) ((P0).map (Value.int .i64)) := hW82.past _ _ (by omega) x_g1
  have x_r2 : Box W82 (r) (us) := hW82.past _ _ (by omega) x_r1
  have x_h2 : Box W82 (h) (((X0.set e (k : Int))).map (Value.int .i64)) := hW82.box
  have hB2 : Below v0.heap.size v0 W82 := hW82.below _ _ (by omega) hB1; have hs2 := hB2.size
  clear hW82 hB1 hs1 x_b1 x_g1 x_h1 x_r1 lr_b lr_g lr_h lr_r  
  clear NL cb zb
  have cb := (x_b2).c 0 _ rfl
  have zb := (x_b2).lt
  have NL := Lib.hid (show k < (P0.map (Value.int .i64)).length by rw [List.length_map, HLP.out]; exact hk)
  have lr_b := (x_b2).lt
  have lr_g := (x_g2).lt
  have lr_h := (x_h2).lt
  have lr_r := (x_r2).lt
  go_upto_region 7 with (refine wpList_store_cell (k := k) (ws := ((P0.set k (e : Int))).map (Value.int .i64)) (v := .int .i64 (e : Int)) rfl _ _ _ rfl x_g2 rfl rfl rfl rfl size_in NL.out (set_ints _ _ _) ?_; intro W83 hW83)
  have x_b3 : Box W83 (b) ([.slice (some ⟨g, 0, none⟩) n c, .slice (some ⟨h, 0, none⟩) n d, .int .i64 HD, .int .i64 TL]) := hW83.past _ _ (by omega) x_b2
  have x_h3 : Box W83 (h) (((X0.set e (k : Int))).map (Value.int .i64)) := hW83.past _ _ (by omega) x_h2
  have x_r3 : Box W83 (r) (us) := hW83.past _ _ (by omega) x_r2
  have x_g3 : Box W83 (g) (((P0.set k (e : Int))).map (Value.int .i64)) := hW83.box
  have hB3 : Below v0.heap.size v0 W83 := hW83.below _ _ (by omega) hB2; have hs3 := hB3.size
  clear hW83 hB2 hs2 x_b2 x_g2 x_h2 x_r2 lr_b lr_g lr_h lr_r  
  clear NL cb zb
  have NG := Lib.hid (show i < (((P0.set k (e : Int))).map (Value.int .i64)).length by rw [List.length_map, List.length_set, HLP.out]; exact hi); have NH := Lib.hid (show i < (((X0.set e (k : Int))).map (Value.int .i64)).length by rw [List.length_map, List.length_set, HLX.out]; exact hi)
  refine wp_region_held_drew (S := fun W => Box W (b) ([.slice (some ⟨g, 0, none⟩) n c, .slice (some ⟨h, 0, none⟩) n d, .int .i64 HD, .int .i64 TL]) ∧ Box W (r) (us)) (by kernel_rfl) (And.intro (x_b3).drew (x_r3).drew) (fun _ => ?_)
  refine F_drew (F := fun W => wpAnyH _ _ _ _ _ _ _ _ W) ?_
  intro Wu0 hbu0
  clear hs3
  have x_b_u0 : Box Wu0 (b) ([.slice (some ⟨g, 0, none⟩) n c, .slice (some ⟨h, 0, none⟩) n d, .int .i64 HD, .int .i64 TL]) := Box.below x_b3 hbu0
  have x_r_u0 : Box Wu0 (r) (us) := Box.below x_r3 hbu0
  have z_g_u0 : Box Wu0 (g) (((P0.set k (e : Int))).map (Value.int .i64)) := Box.below x_g3 hbu0
  have z_h_u0 : Box Wu0 (h) (((X0.set e (k : Int))).map (Value.int .i64)) := Box.below x_h3 hbu0
  have Bu0 := below_thru hB3 hbu0
  clear x_b3 x_r3 x_g3 x_h3 hB3 hbu0
  refine takeH 0 46 (v := ?vu0_1) rfl (by rfl) (by kernel_rfl) (by kernel_rfl) (by kernel_rfl) (fun _ _ _ h => h) (Or.inl ⟨by rfl, ?_⟩) ((And.intro x_b_u0 x_r_u0)) ?_
  rotate_left
  · intro wq hSq
    go_simp
    exact rfl
  try simp only [Act.put, List.setIfInBounds_toArray, List.set_cons_zero, List.set_cons_succ]
  refine takeH 1 47 (v := ?vu1_2) rfl (by rfl) (by kernel_rfl) (by kernel_rfl) (by kernel_rfl) (fun _ _ _ h => h) (Or.inl ⟨by rfl, ?_⟩) ((And.intro x_b_u0 x_r_u0)) ?_
  rotate_left
  · intro wq hSq
    go_simp
    exact rfl
  try simp only [Act.put, List.setIfInBounds_toArray, List.set_cons_zero, List.set_cons_succ]
  refine takeH 2 48 (v := ?vu2_3) rfl (by rfl) (by kernel_rfl) (by kernel_rfl) (by kernel_rfl) (fun _ _ _ h => h) (Or.inl ⟨by rfl, ?_⟩) ((And.intro x_b_u0 x_r_u0)) ?_
  rotate_left
  · intro wq hSq
    go_simp
    exact rfl
  try simp only [Act.put, List.setIfInBounds_toArray, List.set_cons_zero, List.set_cons_succ]
  refine takeH 3 49 (v := ?vu3_4) rfl (by rfl) (by kernel_rfl) (by kernel_rfl) (by kernel_rfl) (fun _ _ _ h => h) (Or.inl ⟨by rfl, ?_⟩) ((And.intro x_b_u0 x_r_u0)) ?_
  rotate_left
  · intro wq hSq
    have cq := hSq.1.c 0 _ rfl
    have zq := lt_of_cell cq
    go_simp
    exact rfl
  try simp only [Act.put, List.setIfInBounds_toArray, List.set_cons_zero, List.set_cons_succ]
  refine takeH 4 50 (v := ?vu4_5) rfl (by rfl) (by kernel_rfl) (by kernel_rfl) (by kernel_rfl) (fun _ _ _ h => h) (Or.inl ⟨by rfl, ?_⟩) ((And.intro x_b_u0 x_r_u0)) ?_
  rotate_left
  · intro wq hSq
    go_simp
    exact rfl
  try simp only [Act.put, List.setIfInBounds_toArray, List.set_cons_zero, List.set_cons_succ]
  refine takeH 5 51 (v := ?vu5_6) rfl (by rfl) (by kernel_rfl) (by kernel_rfl) (by kernel_rfl) (fun _ _ _ h => h) (Or.inl ⟨by rfl, ?_⟩) ((And.intro x_b_u0 x_r_u0)) ?_
  rotate_left
  · intro wq hSq
    go_simp
    exact rfl
  try simp only [Act.put, List.setIfInBounds_toArray, List.set_cons_zero, List.set_cons_succ]
  refine takeH 6 52 (v := ?vu6_7) rfl (by rfl) (by kernel_rfl) (by kernel_rfl) (by kernel_rfl) (fun _ _ _ h => h) (Or.inl ⟨by rfl, ?_⟩) ((And.intro x_b_u0 x_r_u0)) ?_
  rotate_left
  · intro wq hSq
    go_simp
    exact rfl
  try simp only [Act.put, List.setIfInBounds_toArray, List.set_cons_zero, List.set_cons_succ]
  refine takeH 7 53 (v := ?vu7_8) rfl (by rfl) (by kernel_rfl) (by kernel_rfl) (by kernel_rfl) (fun _ _ _ h => h) (Or.inl ⟨by rfl, ?_⟩) ((And.intro x_b_u0 x_r_u0)) ?_
  rotate_left
  · intro wq hSq
    go_simp
    exact rfl
  try simp only [Act.put, List.setIfInBounds_toArray, List.set_cons_zero, List.set_cons_succ]
  refine takeH 8 54 (v := ?vu8_9) rfl (by rfl) (by kernel_rfl) (by kernel_rfl) (by kernel_rfl) (fun _ _ _ h => h) (Or.inl ⟨by rfl, ?_⟩) ((And.intro x_b_u0 x_r_u0)) ?_
  rotate_left
  · intro wq hSq
    have cq := hSq.1.c 1 _ rfl
    have zq := lt_of_cell cq
    go_simp
    exact rfl
  try simp only [Act.put, List.setIfInBounds_toArray, List.set_cons_zero, List.set_cons_succ]
  refine takeH 9 55 (v := ?vu9_10) rfl (by rfl) (by kernel_rfl) (by kernel_rfl) (by kernel_rfl) (fun _ _ _ h => h) (Or.inl ⟨by rfl, ?_⟩) ((And.intro x_b_u0 x_r_u0)) ?_
  rotate_left
  · intro wq hSq
    go_simp
    exact rfl
  try simp only [Act.put, List.setIfInBounds_toArray, List.set_cons_zero, List.set_cons_succ]
  refine takeH 10 56 (v := ?vu10_11) rfl (by rfl) (by kernel_rfl) (by kernel_rfl) (by kernel_rfl) (fun _ _ _ h => h) (Or.inl ⟨by rfl, ?_⟩) ((And.intro x_b_u0 x_r_u0)) ?_
  rotate_left
  · intro wq hSq
    go_simp
    exact rfl
  try simp only [Act.put, List.setIfInBounds_toArray, List.set_cons_zero, List.set_cons_succ]
  refine wpAnyH_ready (rs := [11]) (by kernel_rfl) (by simp) (AllReadyH.cons rfl (fun K hK => ?_) AllReadyH.nil)
  have mz_g := (z_g_u0).lt
  have mz_h := (z_h_u0).lt
  have nz_b := (x_b_u0).lt
  have nz_r := (x_r_u0).lt
  refine step_store_cell0 (k := i) (ws := ((P0.set k (e : Int)).set i (-1)).map (Value.int .i64)) (v := .int .i64 (-1)) rfl rfl _ _ _ rfl z_g_u0 rfl rfl rfl rfl size_in NG.out (set_ints _ _ _) ?_
  intro Wu12 hWu12
  have x_b_u12 : Box Wu12 (b) ([.slice (some ⟨g, 0, none⟩) n c, .slice (some ⟨h, 0, none⟩) n d, .int .i64 HD, .int .i64 TL]) := hWu12.past _ _ (by omega) x_b_u0
  have x_r_u12 : Box Wu12 (r) (us) := hWu12.past _ _ (by omega) x_r_u0
  have z_g_u12 := hWu12.box
  have z_h_u12 : Box Wu12 (h) (((X0.set e (k : Int))).map (Value.int .i64)) := hWu12.past _ _ (by omega) z_h_u0
  have Bu12 := hWu12.below _ _ (by omega) Bu0
  clear nz_b nz_r x_b_u0 x_r_u0 z_g_u0 z_h_u0 Bu0 hWu12
  refine hK.out _ _ (And.intro x_b_u12 x_r_u12) (fun _ => ?_); clear hK K
  refine takeH 12 57 (v := ?vu12_13) rfl (by rfl) (by kernel_rfl) (by kernel_rfl) (by kernel_rfl) (fun _ _ _ h => h) (Or.inl ⟨by rfl, ?_⟩) ((And.intro x_b_u12 x_r_u12)) ?_
  rotate_left
  · intro wq hSq
    go_simp
    exact rfl
  try simp only [Act.put, List.setIfInBounds_toArray, List.set_cons_zero, List.set_cons_succ]
  refine wpAnyH_ready (rs := [13]) (by kernel_rfl) (by simp) (AllReadyH.cons rfl (fun K hK => ?_) AllReadyH.nil)
  have mz_g := (z_g_u12).lt
  have mz_h := (z_h_u12).lt
  have nz_b := (x_b_u12).lt
  have nz_r := (x_r_u12).lt
  refine step_store_cell0 (k := i) (ws := ((X0.set e (k : Int)).set i (-1)).map (Value.int .i64)) (v := .int .i64 (-1)) rfl rfl _ _ _ rfl z_h_u12 rfl rfl rfl rfl size_in NH.out (set_ints _ _ _) ?_
  intro Wu14 hWu14
  have x_b_u14 : Box Wu14 (b) ([.slice (some ⟨g, 0, none⟩) n c, .slice (some ⟨h, 0, none⟩) n d, .int .i64 HD, .int .i64 TL]) := hWu14.past _ _ (by omega) x_b_u12
  have x_r_u14 : Box Wu14 (r) (us) := hWu14.past _ _ (by omega) x_r_u12
  have z_g_u14 : Box Wu14 (g) (((P0.set k (e : Int)).set i (-1)).map (Value.int .i64)) := hWu14.past _ _ (by omega) z_g_u12
  have z_h_u14 := hWu14.box
  have Bu14 := hWu14.below _ _ (by omega) Bu12
  clear nz_b nz_r x_b_u12 x_r_u12 z_g_u12 z_h_u12 Bu12 hWu14
  refine hK.out _ _ (And.intro x_b_u14 x_r_u14) (fun _ => ?_); clear hK K
  refine wpAnyH_done (by kernel_rfl) ?_ _
  go_wp2_with fail
  go_returns
  rw [HE1.out, HE2.out, HR1.out, HR2.out]
  exact ⟨rfl, x_b_u14, z_g_u14, z_h_u14, x_r_u14, Bu14⟩

set_option maxRecDepth 100000 in
set_option maxHeartbeats 6400000 in
theorem pput1_n {v0 : World} {b g h r c d n : Nat} {us : List Value} (lb : v0.heap.size ≤ b) (lg : v0.heap.size ≤ g) (lh : v0.heap.size ≤ h) (bg : b ≠ g) (bh : b ≠ h) (gh : g ≠ h) (rb : r ≠ b) (rg : r ≠ g) (rh : r ≠ h) {i : Nat} (hi : i < n) (w : World) (hB : Below v0.heap.size v0 w) (xb : Box w b [.slice (some ⟨g, 0, none⟩) n c, .slice (some ⟨h, 0, none⟩) n d, .int .i64 (hdO []), .int .i64 (lstO (-1) [])]) (xg : Box w g (((ofL n []).pv).map (Value.int .i64))) (xh : Box w h (((ofL n []).nx).map (Value.int .i64))) (xr : Box w r us) : Calls Try.prog 34 #[.pointer (some ⟨b, 0, none⟩), .int .i64 (i : Int)] w fun e w' => e = .returned (.tuple #[]) ∧ Box w' b [.slice (some ⟨g, 0, none⟩) n c, .slice (some ⟨h, 0, none⟩) n d, .int .i64 (hdO [i]), .int .i64 (lstO (-1) [i])] ∧ Box w' g (((ofL n [i]).pv).map (Value.int .i64)) ∧ Box w' h (((ofL n [i]).nx).map (Value.int .i64)) ∧ Box w' r us ∧ Below v0.heap.size v0 w' := by
  have _ := lg
  have RP : (ofL n [i]).pv = (ofL n []).pv := put_nil.1; have RX : (ofL n [i]).nx = (ofL n []).nx.set i (-1) := put_nil.2
  have LP : (ofL n []).pv.length = n := ofL_pv _ _; have LX : (ofL n []).nx.length = n := ofL_nx _ _
  have E1 : (hdO [i]) = (i : Int) := rfl; have E2 : (lstO (-1) [i]) = (i : Int) := rfl
  obtain ⟨P0, hP0⟩ : ∃ P, (ofL n []).pv = P := ⟨_, rfl⟩; obtain ⟨X0, hX0⟩ : ∃ P, (ofL n []).nx = P := ⟨_, rfl⟩; rw [hP0] at RP LP xg; rw [hX0] at RX LX xh
  have D1 : (hdO []) = (-1) := rfl; rw [D1] at xb; clear D1
  obtain ⟨TL, hTL⟩ : ∃ x, (lstO (-1) []) = x := ⟨_, rfl⟩; rw [hTL] at xb
  have HR1 := Lib.hid (show ((ofL n [i]).pv).map (Value.int .i64) = (P0).map (Value.int .i64) from congrArg (fun z => z.map (Value.int .i64)) RP); have HR2 := Lib.hid (show ((ofL n [i]).nx).map (Value.int .i64) = (X0.set i (-1)).map (Value.int .i64) from congrArg (fun z => z.map (Value.int .i64)) RX)
  have HE1 := Lib.hid E1; have HE2 := Lib.hid (show (lstO (-1) [i]) = (i : Int) from E2)
  have HLP := Lib.hid LP; have HLX := Lib.hid LX; have i0 : (0 : Int) ≤ (i : Int) := (by omega); have i1 : (i : Int) < (n : Int) := (by omega)
  clear hP0 hX0 hTL RP RX LP LX E1 E2
  have hB0 := hB; have hs0 := hB0.size; have x_b0 := xb; have x_g0 := xg; have x_h0 := xh; have x_r0 := xr; clear hB xb xg xh xr
  go_enter Try.func34, Try.ntmps34
  have cb := (x_b0).c 2 _ rfl
  have zb := (x_b0).lt
  have lr_b := (x_b0).lt
  have lr_g := (x_g0).lt
  have lr_h := (x_h0).lt
  have lr_r := (x_r0).lt
  go_upto_region 3 with (refine wpList_store_cell (k := 3) (ws := [.slice (some ⟨g, 0, none⟩) n c, .slice (some ⟨h, 0, none⟩) n d, .int .i64 (-1), .int .i64 (i : Int)]) (v := .int .i64 (i : Int)) rfl _ _ _ rfl x_b0 rfl rfl rfl rfl size_in (show 3 < 4 by decide) rfl ?_; intro W81 hW81)
  have x_g1 : Box W81 (g) ((P0).map (Value.int .i64)) := hW81.past _ _ (by omega) x_g0
  have x_h1 : Box W81 (h) ((X0).map (Value.int .i64)) := hW81.past _ _ (by omega) x_h0
  have x_r1 : Box W81 (r) (us) := hW81.past _ _ (by omega) x_r0
  have x_b1 : Box W81 (b) ([.slice (some ⟨g, 0, none⟩) n c, .slice (some ⟨h, 0, none⟩) n d, .int .i64 (-1), .int .i64 (i : Int)]) := hW81.box
  have hB1 : Below v0.heap.size v0 W81 := hW81.below _ _ (by omega) hB0; have hs1 := hB1.size
  clear hW81 hB0 hs0 x_b0 x_g0 x_h0 x_r0 lr_b lr_g lr_h lr_r  
  clear cb zb
  have NH := Lib.hid (show i < (X0.map (Value.int .i64)).length by rw [List.length_map, HLX.out]; exact hi)
  have cb1 := (x_b1).c 1 _ rfl; have cb2 := (x_b1).c 2 _ rfl
  refine wp_region_k_drew (S := fun W => Box W (r) (us) ∧ W.cell? ⟨b, 1, none⟩ = some (.slice (some ⟨h, 0, none⟩) n d) ∧ W.cell? ⟨b, 2, none⟩ = some (.int .i64 (-1))) 15 (by kernel_rfl) ?_
  refine F_drew (F := fun W => wpAnyK _ _ _ _ _ _ _ _ _ W) ?_
  intro Wu0 hbu0
  clear hs1
  have x_r_u0 : Box Wu0 (r) (us) := Box.below x_r1 hbu0
  have c_b1_u0 := cell_below hbu0 cb1
  have c_b2_u0 := cell_below hbu0 cb2
  have z_b_u0 : Box Wu0 (b) ([.slice (some ⟨g, 0, none⟩) n c, .slice (some ⟨h, 0, none⟩) n d, .int .i64 (-1), .int .i64 (i : Int)]) := Box.below x_b1 hbu0
  have z_g_u0 : Box Wu0 (g) ((P0).map (Value.int .i64)) := Box.below x_g1 hbu0
  have z_h_u0 : Box Wu0 (h) ((X0).map (Value.int .i64)) := Box.below x_h1 hbu0
  have Bu0 := below_thru hB1 hbu0
  clear x_r1 cb1 cb2 x_b1 x_g1 x_h1 hB1 hbu0
  refine takeK (k := 15) 0 23 (v := ?vu0_1) rfl (by rfl) (by kernel_rfl) (by kernel_rfl) (by kernel_rfl) (fun _ _ _ h => h) (by decide) (by kernel_rfl) (by kernel_rfl) (Or.inl ⟨by rfl, ?_⟩) ((And.intro x_r_u0 (And.intro c_b1_u0 c_b2_u0))) ?_
  rotate_left
  · intro wq hSq
    go_simp
    exact rfl
  try simp only [Act.put, List.setIfInBounds_toArray, List.set_cons_zero, List.set_cons_succ]
  refine takeK (k := 15) 1 24 (v := ?vu1_2) rfl (by rfl) (by kernel_rfl) (by kernel_rfl) (by kernel_rfl) (fun _ _ _ h => h) (by decide) (by kernel_rfl) (by kernel_rfl) (Or.inl ⟨by rfl, ?_⟩) ((And.intro x_r_u0 (And.intro c_b1_u0 c_b2_u0))) ?_
  rotate_left
  · intro wq hSq
    go_simp
    exact rfl
  try simp only [Act.put, List.setIfInBounds_toArray, List.set_cons_zero, List.set_cons_succ]
  refine takeK (k := 15) 2 25 (v := ?vu2_3) rfl (by rfl) (by kernel_rfl) (by kernel_rfl) (by kernel_rfl) (fun _ _ _ h => h) (by decide) (by kernel_rfl) (by kernel_rfl) (Or.inl ⟨by rfl, ?_⟩) ((And.intro x_r_u0 (And.intro c_b1_u0 c_b2_u0))) ?_
  rotate_left
  · intro wq hSq
    go_simp
    exact rfl
  try simp only [Act.put, List.setIfInBounds_toArray, List.set_cons_zero, List.set_cons_succ]
  refine takeK (k := 15) 3 26 (v := ?vu3_4) rfl (by rfl) (by kernel_rfl) (by kernel_rfl) (by kernel_rfl) (fun _ _ _ h => h) (by decide) (by kernel_rfl) (by kernel_rfl) (Or.inl ⟨by rfl, ?_⟩) ((And.intro x_r_u0 (And.intro c_b1_u0 c_b2_u0))) ?_
  rotate_left
  · intro wq hSq
    have cq := hSq.2.1
    have zq := lt_of_cell cq
    go_simp
    exact rfl
  try simp only [Act.put, List.setIfInBounds_toArray, List.set_cons_zero, List.set_cons_succ]
  refine takeK (k := 15) 4 27 (v := ?vu4_5) rfl (by rfl) (by kernel_rfl) (by kernel_rfl) (by kernel_rfl) (fun _ _ _ h => h) (by decide) (by kernel_rfl) (by kernel_rfl) (Or.inl ⟨by rfl, ?_⟩) ((And.intro x_r_u0 (And.intro c_b1_u0 c_b2_u0))) ?_
  rotate_left
  · intro wq hSq
    go_simp
    exact rfl
  try simp only [Act.put, List.setIfInBounds_toArray, List.set_cons_zero, List.set_cons_succ]
  refine takeK (k := 15) 5 28 (v := ?vu5_6) rfl (by rfl) (by kernel_rfl) (by kernel_rfl) (by kernel_rfl) (fun _ _ _ h => h) (by decide) (by kernel_rfl) (by kernel_rfl) (Or.inl ⟨by rfl, ?_⟩) ((And.intro x_r_u0 (And.intro c_b1_u0 c_b2_u0))) ?_
  rotate_left
  · intro wq hSq
    go_simp
    exact rfl
  try simp only [Act.put, List.setIfInBounds_toArray, List.set_cons_zero, List.set_cons_succ]
  refine takeK (k := 15) 6 29 (v := ?vu6_7) rfl (by rfl) (by kernel_rfl) (by kernel_rfl) (by kernel_rfl) (fun _ _ _ h => h) (by decide) (by kernel_rfl) (by kernel_rfl) (Or.inl ⟨by rfl, ?_⟩) ((And.intro x_r_u0 (And.intro c_b1_u0 c_b2_u0))) ?_
  rotate_left
  · intro wq hSq
    go_simp
    exact rfl
  try simp only [Act.put, List.setIfInBounds_toArray, List.set_cons_zero, List.set_cons_succ]
  refine takeK (k := 15) 7 30 (v := ?vu7_8) rfl (by rfl) (by kernel_rfl) (by kernel_rfl) (by kernel_rfl) (fun _ _ _ h => h) (by decide) (by kernel_rfl) (by kernel_rfl) (Or.inl ⟨by rfl, ?_⟩) ((And.intro x_r_u0 (And.intro c_b1_u0 c_b2_u0))) ?_
  rotate_left
  · intro wq hSq
    go_simp
    exact rfl
  try simp only [Act.put, List.setIfInBounds_toArray, List.set_cons_zero, List.set_cons_succ]
  refine takeK (k := 15) 8 31 (v := ?vu8_9) rfl (by rfl) (by kernel_rfl) (by kernel_rfl) (by kernel_rfl) (fun _ _ _ h => h) (by decide) (by kernel_rfl) (by kernel_rfl) (Or.inl ⟨by rfl, ?_⟩) ((And.intro x_r_u0 (And.intro c_b1_u0 c_b2_u0))) ?_
  rotate_left
  · intro wq hSq
    go_simp
    exact rfl
  try simp only [Act.put, List.setIfInBounds_toArray, List.set_cons_zero, List.set_cons_succ]
  refine takeK (k := 15) 9 32 (v := ?vu9_10) rfl (by rfl) (by kernel_rfl) (by kernel_rfl) (by kernel_rfl) (fun _ _ _ h => h) (by decide) (by kernel_rfl) (by kernel_rfl) (Or.inl ⟨by rfl, ?_⟩) ((And.intro x_r_u0 (And.intro c_b1_u0 c_b2_u0))) ?_
  rotate_left
  · intro wq hSq
    have cq := hSq.2.2
    have zq := lt_of_cell cq
    go_simp
    exact rfl
  try simp only [Act.put, List.setIfInBounds_toArray, List.set_cons_zero, List.set_cons_succ]
  refine takeK (k := 15) 10 33 (v := ?vu10_11) rfl (by rfl) (by kernel_rfl) (by kernel_rfl) (by kernel_rfl) (fun _ _ _ h => h) (by decide) (by kernel_rfl) (by kernel_rfl) (Or.inl ⟨by rfl, ?_⟩) ((And.intro x_r_u0 (And.intro c_b1_u0 c_b2_u0))) ?_
  rotate_left
  · intro wq hSq
    go_simp
    exact rfl
  try simp only [Act.put, List.setIfInBounds_toArray, List.set_cons_zero, List.set_cons_succ]
  refine takeK (k := 15) 11 34 (v := ?vu11_12) rfl (by rfl) (by kernel_rfl) (by kernel_rfl) (by kernel_rfl) (fun _ _ _ h => h) (by decide) (by kernel_rfl) (by kernel_rfl) (Or.inl ⟨by rfl, ?_⟩) ((And.intro x_r_u0 (And.intro c_b1_u0 c_b2_u0))) ?_
  rotate_left
  · intro wq hSq
    go_simp
    exact rfl
  try simp only [Act.put, List.setIfInBounds_toArray, List.set_cons_zero, List.set_cons_succ]
  refine wpAnyK_ready (rs := [12]) (by kernel_rfl) (by simp) (AllReadyK.cons rfl (fun K hK => ?_) AllReadyK.nil)
  have mz_b := (z_b_u0).lt
  have mz_g := (z_g_u0).lt
  have mz_h := (z_h_u0).lt
  have nz_r := (x_r_u0).lt
  refine step_store_cell0 (k := i) (ws := (X0.set i (-1)).map (Value.int .i64)) (v := .int .i64 (-1)) rfl rfl _ _ _ rfl z_h_u0 rfl rfl rfl rfl size_in NH.out (set_ints _ _ _) ?_
  intro Wu13 hWu13
  have x_r_u13 : Box Wu13 (r) (us) := hWu13.past _ _ (by omega) x_r_u0
  have c_b1_u13 := hWu13.cell _ _ _ (by omega) c_b1_u0
  have c_b2_u13 := hWu13.cell _ _ _ (by omega) c_b2_u0
  have z_b_u13 : Box Wu13 (b) ([.slice (some ⟨g, 0, none⟩) n c, .slice (some ⟨h, 0, none⟩) n d, .int .i64 (-1), .int .i64 (i : Int)]) := hWu13.past _ _ (by omega) z_b_u0
  have z_g_u13 : Box Wu13 (g) ((P0).map (Value.int .i64)) := hWu13.past _ _ (by omega) z_g_u0
  have z_h_u13 := hWu13.box
  have Bu13 := hWu13.below _ _ (by omega) Bu0
  clear nz_r x_r_u0 c_b1_u0 c_b2_u0 z_b_u0 z_g_u0 z_h_u0 Bu0 hWu13
  refine hK.out _ _ (fun _ => (And.intro x_r_u13 (And.intro c_b1_u13 c_b2_u13))) (fun _ => ?_); clear hK K
  refine takeY (k := 15) 13 35 (v := ?vu13_14) rfl (by rfl) (by kernel_rfl) (by kernel_rfl) (by kernel_rfl) (fun _ _ _ h => h) (by decide) (Or.inl ⟨by rfl, ?_⟩) (fun _ => (And.intro x_r_u13 (And.intro c_b1_u13 c_b2_u13))) ?_
  rotate_left
  · intro wq hSq
    go_simp
    exact rfl
  try simp only [Act.put, List.setIfInBounds_toArray, List.set_cons_zero, List.set_cons_succ]
  refine takeK (k := 15) 14 36 (v := ?vu14_15) rfl (by rfl) (by kernel_rfl) (by kernel_rfl) (by kernel_rfl) (fun _ _ _ h => h) (by decide) (by kernel_rfl) (by kernel_rfl) (Or.inl ⟨by rfl, ?_⟩) ((And.intro x_r_u13 (And.intro c_b1_u13 c_b2_u13))) ?_
  rotate_left
  · intro wq hSq
    go_simp
    exact rfl
  try simp only [Act.put, List.setIfInBounds_toArray, List.set_cons_zero, List.set_cons_succ]
  refine wpAnyK_ready (rs := [15]) (by kernel_rfl) (by simp) (AllReadyK.cons rfl (fun K hK => ?_) AllReadyK.nil)
  have mz_b := (z_b_u13).lt
  have mz_g := (z_g_u13).lt
  have mz_h := (z_h_u13).lt
  have nz_r := (x_r_u13).lt
  refine step_store_cell0 (k := 2) (ws := [.slice (some ⟨g, 0, none⟩) n c, .slice (some ⟨h, 0, none⟩) n d, .int .i64 (i : Int), .int .i64 (i : Int)]) (v := .int .i64 (i : Int)) rfl rfl _ _ _ rfl z_b_u13 rfl rfl rfl rfl size_in (show 2 < 4 by decide) rfl ?_
  intro Wu16 hWu16
  have x_r_u16 : Box Wu16 (r) (us) := hWu16.past _ _ (by omega) x_r_u13
  have z_b_u16 := hWu16.box
  have z_g_u16 : Box Wu16 (g) ((P0).map (Value.int .i64)) := hWu16.past _ _ (by omega) z_g_u13
  have z_h_u16 : Box Wu16 (h) ((X0.set i (-1)).map (Value.int .i64)) := hWu16.past _ _ (by omega) z_h_u13
  have Bu16 := hWu16.below _ _ (by omega) Bu13
  clear nz_r x_r_u13 z_b_u13 z_g_u13 z_h_u13 Bu13 hWu16
  refine hK.out _ _ (fun h => (Bool.false_ne_true (h.symm.trans (by kernel_rfl))).elim) (fun _ => ?_); clear hK K
  refine wpAnyK_done (by kernel_rfl) ?_ _
  go_wp2_with fail
  go_returns
  rw [HE1.out, HE2.out, HR1.out, HR2.out]
  exact ⟨rfl, z_b_u16, z_g_u16, z_h_u16, x_r_u16, Bu16⟩

set_option maxRecDepth 100000 in
set_option maxHeartbeats 6400000 in
theorem pput1_s {v0 : World} {b g h r c d n : Nat} {us : List Value} (lb : v0.heap.size ≤ b) (lg : v0.heap.size ≤ g) (lh : v0.heap.size ≤ h) (bg : b ≠ g) (bh : b ≠ h) (gh : g ≠ h) (rb : r ≠ b) (rg : r ≠ g) (rh : r ≠ h) {i k : Nat} {bs : List Nat} (hn : i ∉ k :: bs) (hi : i < n) (hk : k < n) (w : World) (hB : Below v0.heap.size v0 w) (xb : Box w b [.slice (some ⟨g, 0, none⟩) n c, .slice (some ⟨h, 0, none⟩) n d, .int .i64 (hdO (k :: bs)), .int .i64 (lstO (-1) (k :: bs))]) (xg : Box w g (((ofL n (k :: bs)).pv).map (Value.int .i64))) (xh : Box w h (((ofL n (k :: bs)).nx).map (Value.int .i64))) (xr : Box w r us) : Calls Try.prog 34 #[.pointer (some ⟨b, 0, none⟩), .int .i64 (i : Int)] w fun e w' => e = .returned (.tuple #[]) ∧ Box w' b [.slice (some ⟨g, 0, none⟩) n c, .slice (some ⟨h, 0, none⟩) n d, .int .i64 (hdO (i :: (k :: bs))), .int .i64 (lstO (-1) (i :: (k :: bs)))] ∧ Box w' g (((ofL n (i :: (k :: bs))).pv).map (Value.int .i64)) ∧ Box w' h (((ofL n (i :: (k :: bs))).nx).map (Value.int .i64)) ∧ Box w' r us ∧ Below v0.heap.size v0 w' := by
  have RP : (ofL n (i :: (k :: bs))).pv = (ofL n (k :: bs)).pv.set k (i : Int) := (put_cons hn).1; have RX : (ofL n (i :: (k :: bs))).nx = (ofL n (k :: bs)).nx.set i (k : Int) := (put_cons hn).2
  have LP : (ofL n (k :: bs)).pv.length = n := ofL_pv _ _; have LX : (ofL n (k :: bs)).nx.length = n := ofL_nx _ _
  have E1 : (hdO (i :: (k :: bs))) = (i : Int) := rfl; have E2 : (lstO (-1) (i :: (k :: bs))) = (lstO (-1) (k :: bs)) := rfl
  obtain ⟨P0, hP0⟩ : ∃ P, (ofL n (k :: bs)).pv = P := ⟨_, rfl⟩; obtain ⟨X0, hX0⟩ : ∃ P, (ofL n (k :: bs)).nx = P := ⟨_, rfl⟩; rw [hP0] at RP LP xg; rw [hX0] at RX LX xh
  have D1 : (hdO (k :: bs)) = (k : Int) := rfl; rw [D1] at xb; clear D1
  obtain ⟨TL, hTL⟩ : ∃ x, (lstO (-1) (k :: bs)) = x := ⟨_, rfl⟩; rw [hTL] at xb
  have HR1 := Lib.hid (show ((ofL n (i :: (k :: bs))).pv).map (Value.int .i64) = (P0.set k (i : Int)).map (Value.int .i64) from congrArg (fun z => z.map (Value.int .i64)) RP); have HR2 := Lib.hid (show ((ofL n (i :: (k :: bs))).nx).map (Value.int .i64) = (X0.set i (k : Int)).map (Value.int .i64) from congrArg (fun z => z.map (Value.int .i64)) RX)
  have HE1 := Lib.hid E1; have HE2 := Lib.hid (show (lstO (-1) (i :: (k :: bs))) = TL from E2.trans hTL)
  have HLP := Lib.hid LP; have HLX := Lib.hid LX; have i0 : (0 : Int) ≤ (i : Int) := (by omega); have i1 : (i : Int) < (n : Int) := (by omega)
  have k0 : (0 : Int) ≤ (k : Int) := (by omega); have k1 : (k : Int) < (n : Int) := (by omega); have dn : ((k : Int) == -1) = false := by rw [beq_eq_false_iff_ne]; omega
  clear hP0 hX0 hTL RP RX LP LX E1 E2 hn
  have hB0 := hB; have hs0 := hB0.size; have x_b0 := xb; have x_g0 := xg; have x_h0 := xh; have x_r0 := xr; clear hB xb xg xh xr
  go_enter Try.func34, Try.ntmps34
  have cb := (x_b0).c 2 _ rfl
  have zb := (x_b0).lt
  go_upto_region 2 with fail
  clear cb zb
  have NL := Lib.hid (show k < (P0.map (Value.int .i64)).length by rw [List.length_map, HLP.out]; exact hk)
  refine wp_region_held_drew (S := fun W => Box W (b) ([.slice (some ⟨g, 0, none⟩) n c, .slice (some ⟨h, 0, none⟩) n d, .int .i64 (k : Int), .int .i64 TL]) ∧ Box W (h) ((X0).map (Value.int .i64)) ∧ Box W (r) (us)) (by kernel_rfl) (And.intro (x_b0).drew (And.intro (x_h0).drew (x_r0).drew)) (fun _ => ?_)
  refine F_drew (F := fun W => wpAnyH _ _ _ _ _ _ _ _ W) ?_
  intro Ws0 hbs0
  clear hs0
  have x_b_s0 : Box Ws0 (b) ([.slice (some ⟨g, 0, none⟩) n c, .slice (some ⟨h, 0, none⟩) n d, .int .i64 (k : Int), .int .i64 TL]) := Box.below x_b0 hbs0
  have x_h_s0 : Box Ws0 (h) ((X0).map (Value.int .i64)) := Box.below x_h0 hbs0
  have x_r_s0 : Box Ws0 (r) (us) := Box.below x_r0 hbs0
  have z_g_s0 : Box Ws0 (g) ((P0).map (Value.int .i64)) := Box.below x_g0 hbs0
  have Bs0 := below_thru hB0 hbs0
  clear x_b0 x_h0 x_r0 x_g0 hB0 hbs0
  refine takeH 0 13 (v := ?vs0_1) rfl (by rfl) (by kernel_rfl) (by kernel_rfl) (by kernel_rfl) (fun _ _ _ h => h) (Or.inl ⟨by rfl, ?_⟩) ((And.intro x_b_s0 (And.intro x_h_s0 x_r_s0))) ?_
  rotate_left
  · intro wq hSq
    go_simp
    exact rfl
  try simp only [Act.put, List.setIfInBounds_toArray, List.set_cons_zero, List.set_cons_succ]
  refine takeH 1 14 (v := ?vs1_2) rfl (by rfl) (by kernel_rfl) (by kernel_rfl) (by kernel_rfl) (fun _ _ _ h => h) (Or.inl ⟨by rfl, ?_⟩) ((And.intro x_b_s0 (And.intro x_h_s0 x_r_s0))) ?_
  rotate_left
  · intro wq hSq
    go_simp
    exact rfl
  try simp only [Act.put, List.setIfInBounds_toArray, List.set_cons_zero, List.set_cons_succ]
  refine takeH 2 15 (v := ?vs2_3) rfl (by rfl) (by kernel_rfl) (by kernel_rfl) (by kernel_rfl) (fun _ _ _ h => h) (Or.inl ⟨by rfl, ?_⟩) ((And.intro x_b_s0 (And.intro x_h_s0 x_r_s0))) ?_
  rotate_left
  · intro wq hSq
    go_simp
    exact rfl
  try simp only [Act.put, List.setIfInBounds_toArray, List.set_cons_zero, List.set_cons_succ]
  refine takeH 3 16 (v := ?vs3_4) rfl (by rfl) (by kernel_rfl) (by kernel_rfl) (by kernel_rfl) (fun _ _ _ h => h) (Or.inl ⟨by rfl, ?_⟩) ((And.intro x_b_s0 (And.intro x_h_s0 x_r_s0))) ?_
  rotate_left
  · intro wq hSq
    have cq := hSq.1.c 0 _ rfl
    have zq := lt_of_cell cq
    go_simp
    exact rfl
  try simp only [Act.put, List.setIfInBounds_toArray, List.set_cons_zero, List.set_cons_succ]
  refine takeH 4 17 (v := ?vs4_5) rfl (by rfl) (by kernel_rfl) (by kernel_rfl) (by kernel_rfl) (fun _ _ _ h => h) (Or.inl ⟨by rfl, ?_⟩) ((And.intro x_b_s0 (And.intro x_h_s0 x_r_s0))) ?_
  rotate_left
  · intro wq hSq
    go_simp
    exact rfl
  try simp only [Act.put, List.setIfInBounds_toArray, List.set_cons_zero, List.set_cons_succ]
  refine takeH 5 18 (v := ?vs5_6) rfl (by rfl) (by kernel_rfl) (by kernel_rfl) (by kernel_rfl) (fun _ _ _ h => h) (Or.inl ⟨by rfl, ?_⟩) ((And.intro x_b_s0 (And.intro x_h_s0 x_r_s0))) ?_
  rotate_left
  · intro wq hSq
    go_simp
    exact rfl
  try simp only [Act.put, List.setIfInBounds_toArray, List.set_cons_zero, List.set_cons_succ]
  refine takeH 6 19 (v := ?vs6_7) rfl (by rfl) (by kernel_rfl) (by kernel_rfl) (by kernel_rfl) (fun _ _ _ h => h) (Or.inl ⟨by rfl, ?_⟩) ((And.intro x_b_s0 (And.intro x_h_s0 x_r_s0))) ?_
  rotate_left
  · intro wq hSq
    go_simp
    exact rfl
  try simp only [Act.put, List.setIfInBounds_toArray, List.set_cons_zero, List.set_cons_succ]
  refine takeH 7 20 (v := ?vs7_8) rfl (by rfl) (by kernel_rfl) (by kernel_rfl) (by kernel_rfl) (fun _ _ _ h => h) (Or.inl ⟨by rfl, ?_⟩) ((And.intro x_b_s0 (And.intro x_h_s0 x_r_s0))) ?_
  rotate_left
  · intro wq hSq
    have cq := hSq.1.c 2 _ rfl
    have zq := lt_of_cell cq
    go_simp
    exact rfl
  try simp only [Act.put, List.setIfInBounds_toArray, List.set_cons_zero, List.set_cons_succ]
  refine takeH 8 21 (v := ?vs8_9) rfl (by rfl) (by kernel_rfl) (by kernel_rfl) (by kernel_rfl) (fun _ _ _ h => h) (Or.inl ⟨by rfl, ?_⟩) ((And.intro x_b_s0 (And.intro x_h_s0 x_r_s0))) ?_
  rotate_left
  · intro wq hSq
    go_simp
    exact rfl
  try simp only [Act.put, List.setIfInBounds_toArray, List.set_cons_zero, List.set_cons_succ]
  refine takeH 9 22 (v := ?vs9_10) rfl (by rfl) (by kernel_rfl) (by kernel_rfl) (by kernel_rfl) (fun _ _ _ h => h) (Or.inl ⟨by rfl, ?_⟩) ((And.intro x_b_s0 (And.intro x_h_s0 x_r_s0))) ?_
  rotate_left
  · intro wq hSq
    go_simp
    exact rfl
  try simp only [Act.put, List.setIfInBounds_toArray, List.set_cons_zero, List.set_cons_succ]
  refine wpAnyH_ready (rs := [10]) (by kernel_rfl) (by simp) (AllReadyH.cons rfl (fun K hK => ?_) AllReadyH.nil)
  have mz_g := (z_g_s0).lt
  have nz_b := (x_b_s0).lt
  have nz_h := (x_h_s0).lt
  have nz_r := (x_r_s0).lt
  refine step_store_cell0 (k := k) (ws := (P0.set k (i : Int)).map (Value.int .i64)) (v := .int .i64 (i : Int)) rfl rfl _ _ _ rfl z_g_s0 rfl rfl rfl rfl size_in NL.out (set_ints _ _ _) ?_
  intro Ws11 hWs11
  have x_b_s11 : Box Ws11 (b) ([.slice (some ⟨g, 0, none⟩) n c, .slice (some ⟨h, 0, none⟩) n d, .int .i64 (k : Int), .int .i64 TL]) := hWs11.past _ _ (by omega) x_b_s0
  have x_h_s11 : Box Ws11 (h) ((X0).map (Value.int .i64)) := hWs11.past _ _ (by omega) x_h_s0
  have x_r_s11 : Box Ws11 (r) (us) := hWs11.past _ _ (by omega) x_r_s0
  have z_g_s11 := hWs11.box
  have Bs11 := hWs11.below _ _ (by omega) Bs0
  clear nz_b nz_h nz_r x_b_s0 x_h_s0 x_r_s0 z_g_s0 Bs0 hWs11
  refine hK.out _ _ (And.intro x_b_s11 (And.intro x_h_s11 x_r_s11)) (fun _ => ?_); clear hK K
  refine wpAnyH_done (by kernel_rfl) ?_ _
  have hB1 := Bs11; have hs1 := hB1.size
  have x_b1 := x_b_s11
  have x_h1 := x_h_s11
  have x_r1 := x_r_s11
  have x_g1 := z_g_s11
  clear Bs11 x_b_s11 x_h_s11 x_r_s11 z_g_s11
  clear NL
  go_upto_region 3 with fail
  have NH := Lib.hid (show i < (X0.map (Value.int .i64)).length by rw [List.length_map, HLX.out]; exact hi)
  have cb1 := (x_b1).c 1 _ rfl; have cb2 := (x_b1).c 2 _ rfl
  refine wp_region_k_drew (S := fun W => Box W (r) (us) ∧ W.cell? ⟨b, 1, none⟩ = some (.slice (some ⟨h, 0, none⟩) n d) ∧ W.cell? ⟨b, 2, none⟩ = some (.int .i64 (k : Int))) 15 (by kernel_rfl) ?_
  refine F_drew (F := fun W => wpAnyK _ _ _ _ _ _ _ _ _ W) ?_
  intro Wu0 hbu0
  clear hs1
  have x_r_u0 : Box Wu0 (r) (us) := Box.below x_r1 hbu0
  have c_b1_u0 := cell_below hbu0 cb1
  have c_b2_u0 := cell_below hbu0 cb2
  have z_b_u0 : Box Wu0 (b) ([.slice (some ⟨g, 0, none⟩) n c, .slice (some ⟨h, 0, none⟩) n d, .int .i64 (k : Int), .int .i64 TL]) := Box.below x_b1 hbu0
  have z_g_u0 : Box Wu0 (g) ((P0.set k (i : Int)).map (Value.int .i64)) := Box.below x_g1 hbu0
  have z_h_u0 : Box Wu0 (h) ((X0).map (Value.int .i64)) := Box.below x_h1 hbu0
  have Bu0 := below_thru hB1 hbu0
  clear x_r1 cb1 cb2 x_b1 x_g1 x_h1 hB1 hbu0
  refine takeK (k := 15) 0 23 (v := ?vu0_1) rfl (by rfl) (by kernel_rfl) (by kernel_rfl) (by kernel_rfl) (fun _ _ _ h => h) (by decide) (by kernel_rfl) (by kernel_rfl) (Or.inl ⟨by rfl, ?_⟩) ((And.intro x_r_u0 (And.intro c_b1_u0 c_b2_u0))) ?_
  rotate_left
  · intro wq hSq
    go_simp
    exact rfl
  try simp only [Act.put, List.setIfInBounds_toArray, List.set_cons_zero, List.set_cons_succ]
  refine takeK (k := 15) 1 24 (v := ?vu1_2) rfl (by rfl) (by kernel_rfl) (by kernel_rfl) (by kernel_rfl) (fun _ _ _ h => h) (by decide) (by kernel_rfl) (by kernel_rfl) (Or.inl ⟨by rfl, ?_⟩) ((And.intro x_r_u0 (And.intro c_b1_u0 c_b2_u0))) ?_
  rotate_left
  · intro wq hSq
    go_simp
    exact rfl
  try simp only [Act.put, List.setIfInBounds_toArray, List.set_cons_zero, List.set_cons_succ]
  refine takeK (k := 15) 2 25 (v := ?vu2_3) rfl (by rfl) (by kernel_rfl) (by kernel_rfl) (by kernel_rfl) (fun _ _ _ h => h) (by decide) (by kernel_rfl) (by kernel_rfl) (Or.inl ⟨by rfl, ?_⟩) ((And.intro x_r_u0 (And.intro c_b1_u0 c_b2_u0))) ?_
  rotate_left
  · intro wq hSq
    go_simp
    exact rfl
  try simp only [Act.put, List.setIfInBounds_toArray, List.set_cons_zero, List.set_cons_succ]
  refine takeK (k := 15) 3 26 (v := ?vu3_4) rfl (by rfl) (by kernel_rfl) (by kernel_rfl) (by kernel_rfl) (fun _ _ _ h => h) (by decide) (by kernel_rfl) (by kernel_rfl) (Or.inl ⟨by rfl, ?_⟩) ((And.intro x_r_u0 (And.intro c_b1_u0 c_b2_u0))) ?_
  rotate_left
  · intro wq hSq
    have cq := hSq.2.1
    have zq := lt_of_cell cq
    go_simp
    exact rfl
  try simp only [Act.put, List.setIfInBounds_toArray, List.set_cons_zero, List.set_cons_succ]
  refine takeK (k := 15) 4 27 (v := ?vu4_5) rfl (by rfl) (by kernel_rfl) (by kernel_rfl) (by kernel_rfl) (fun _ _ _ h => h) (by decide) (by kernel_rfl) (by kernel_rfl) (Or.inl ⟨by rfl, ?_⟩) ((And.intro x_r_u0 (And.intro c_b1_u0 c_b2_u0))) ?_
  rotate_left
  · intro wq hSq
    go_simp
    exact rfl
  try simp only [Act.put, List.setIfInBounds_toArray, List.set_cons_zero, List.set_cons_succ]
  refine takeK (k := 15) 5 28 (v := ?vu5_6) rfl (by rfl) (by kernel_rfl) (by kernel_rfl) (by kernel_rfl) (fun _ _ _ h => h) (by decide) (by kernel_rfl) (by kernel_rfl) (Or.inl ⟨by rfl, ?_⟩) ((And.intro x_r_u0 (And.intro c_b1_u0 c_b2_u0))) ?_
  rotate_left
  · intro wq hSq
    go_simp
    exact rfl
  try simp only [Act.put, List.setIfInBounds_toArray, List.set_cons_zero, List.set_cons_succ]
  refine takeK (k := 15) 6 29 (v := ?vu6_7) rfl (by rfl) (by kernel_rfl) (by kernel_rfl) (by kernel_rfl) (fun _ _ _ h => h) (by decide) (by kernel_rfl) (by kernel_rfl) (Or.inl ⟨by rfl, ?_⟩) ((And.intro x_r_u0 (And.intro c_b1_u0 c_b2_u0))) ?_
  rotate_left
  · intro wq hSq
    go_simp
    exact rfl
  try simp only [Act.put, List.setIfInBounds_toArray, List.set_cons_zero, List.set_cons_succ]
  refine takeK (k := 15) 7 30 (v := ?vu7_8) rfl (by rfl) (by kernel_rfl) (by kernel_rfl) (by kernel_rfl) (fun _ _ _ h => h) (by decide) (by kernel_rfl) (by kernel_rfl) (Or.inl ⟨by rfl, ?_⟩) ((And.intro x_r_u0 (And.intro c_b1_u0 c_b2_u0))) ?_
  rotate_left
  · intro wq hSq
    go_simp
    exact rfl
  try simp only [Act.put, List.setIfInBounds_toArray, List.set_cons_zero, List.set_cons_succ]
  refine takeK (k := 15) 8 31 (v := ?vu8_9) rfl (by rfl) (by kernel_rfl) (by kernel_rfl) (by kernel_rfl) (fun _ _ _ h => h) (by decide) (by kernel_rfl) (by kernel_rfl) (Or.inl ⟨by rfl, ?_⟩) ((And.intro x_r_u0 (And.intro c_b1_u0 c_b2_u0))) ?_
  rotate_left
  · intro wq hSq
    go_simp
    exact rfl
  try simp only [Act.put, List.setIfInBounds_toArray, List.set_cons_zero, List.set_cons_succ]
  refine takeK (k := 15) 9 32 (v := ?vu9_10) rfl (by rfl) (by kernel_rfl) (by kernel_rfl) (by kernel_rfl) (fun _ _ _ h => h) (by decide) (by kernel_rfl) (by kernel_rfl) (Or.inl ⟨by rfl, ?_⟩) ((And.intro x_r_u0 (And.intro c_b1_u0 c_b2_u0))) ?_
  rotate_left
  · intro wq hSq
    have cq := hSq.2.2
    have zq := lt_of_cell cq
    go_simp
    exact rfl
  try simp only [Act.put, List.setIfInBounds_toArray, List.set_cons_zero, List.set_cons_succ]
  refine takeK (k := 15) 10 33 (v := ?vu10_11) rfl (by rfl) (by kernel_rfl) (by kernel_rfl) (by kernel_rfl) (fun _ _ _ h => h) (by decide) (by kernel_rfl) (by kernel_rfl) (Or.inl ⟨by rfl, ?_⟩) ((And.intro x_r_u0 (And.intro c_b1_u0 c_b2_u0))) ?_
  rotate_left
  · intro wq hSq
    go_simp
    exact rfl
  try simp only [Act.put, List.setIfInBounds_toArray, List.set_cons_zero, List.set_cons_succ]
  refine takeK (k := 15) 11 34 (v := ?vu11_12) rfl (by rfl) (by kernel_rfl) (by kernel_rfl) (by kernel_rfl) (fun _ _ _ h => h) (by decide) (by kernel_rfl) (by kernel_rfl) (Or.inl ⟨by rfl, ?_⟩) ((And.intro x_r_u0 (And.intro c_b1_u0 c_b2_u0))) ?_
  rotate_left
  · intro wq hSq
    go_simp
    exact rfl
  try simp only [Act.put, List.setIfInBounds_toArray, List.set_cons_zero, List.set_cons_succ]
  refine wpAnyK_ready (rs := [12]) (by kernel_rfl) (by simp) (AllReadyK.cons rfl (fun K hK => ?_) AllReadyK.nil)
  have mz_b := (z_b_u0).lt
  have mz_g := (z_g_u0).lt
  have mz_h := (z_h_u0).lt
  have nz_r := (x_r_u0).lt
  refine step_store_cell0 (k := i) (ws := (X0.set i (k : Int)).map (Value.int .i64)) (v := .int .i64 (k : Int)) rfl rfl _ _ _ rfl z_h_u0 rfl rfl rfl rfl size_in NH.out (set_ints _ _ _) ?_
  intro Wu13 hWu13
  have x_r_u13 : Box Wu13 (r) (us) := hWu13.past _ _ (by omega) x_r_u0
  have c_b1_u13 := hWu13.cell _ _ _ (by omega) c_b1_u0
  have c_b2_u13 := hWu13.cell _ _ _ (by omega) c_b2_u0
  have z_b_u13 : Box Wu13 (b) ([.slice (some ⟨g, 0, none⟩) n c, .slice (some ⟨h, 0, none⟩) n d, .int .i64 (k : Int), .int .i64 TL]) := hWu13.past _ _ (by omega) z_b_u0
  have z_g_u13 : Box Wu13 (g) ((P0.set k (i : Int)).map (Value.int .i64)) := hWu13.past _ _ (by omega) z_g_u0
  have z_h_u13 := hWu13.box
  have Bu13 := hWu13.below _ _ (by omega) Bu0
  clear nz_r x_r_u0 c_b1_u0 c_b2_u0 z_b_u0 z_g_u0 z_h_u0 Bu0 hWu13
  refine hK.out _ _ (fun _ => (And.intro x_r_u13 (And.intro c_b1_u13 c_b2_u13))) (fun _ => ?_); clear hK K
  refine takeY (k := 15) 13 35 (v := ?vu13_14) rfl (by rfl) (by kernel_rfl) (by kernel_rfl) (by kernel_rfl) (fun _ _ _ h => h) (by decide) (Or.inl ⟨by rfl, ?_⟩) (fun _ => (And.intro x_r_u13 (And.intro c_b1_u13 c_b2_u13))) ?_
  rotate_left
  · intro wq hSq
    go_simp
    exact rfl
  try simp only [Act.put, List.setIfInBounds_toArray, List.set_cons_zero, List.set_cons_succ]
  refine takeK (k := 15) 14 36 (v := ?vu14_15) rfl (by rfl) (by kernel_rfl) (by kernel_rfl) (by kernel_rfl) (fun _ _ _ h => h) (by decide) (by kernel_rfl) (by kernel_rfl) (Or.inl ⟨by rfl, ?_⟩) ((And.intro x_r_u13 (And.intro c_b1_u13 c_b2_u13))) ?_
  rotate_left
  · intro wq hSq
    go_simp
    exact rfl
  try simp only [Act.put, List.setIfInBounds_toArray, List.set_cons_zero, List.set_cons_succ]
  refine wpAnyK_ready (rs := [15]) (by kernel_rfl) (by simp) (AllReadyK.cons rfl (fun K hK => ?_) AllReadyK.nil)
  have mz_b := (z_b_u13).lt
  have mz_g := (z_g_u13).lt
  have mz_h := (z_h_u13).lt
  have nz_r := (x_r_u13).lt
  refine step_store_cell0 (k := 2) (ws := [.slice (some ⟨g, 0, none⟩) n c, .slice (some ⟨h, 0, none⟩) n d, .int .i64 (i : Int), .int .i64 TL]) (v := .int .i64 (i : Int)) rfl rfl _ _ _ rfl z_b_u13 rfl rfl rfl rfl size_in (show 2 < 4 by decide) rfl ?_
  intro Wu16 hWu16
  have x_r_u16 : Box Wu16 (r) (us) := hWu16.past _ _ (by omega) x_r_u13
  have z_b_u16 := hWu16.box
  have z_g_u16 : Box Wu16 (g) ((P0.set k (i : Int)).map (Value.int .i64)) := hWu16.past _ _ (by omega) z_g_u13
  have z_h_u16 : Box Wu16 (h) ((X0.set i (k : Int)).map (Value.int .i64)) := hWu16.past _ _ (by omega) z_h_u13
  have Bu16 := hWu16.below _ _ (by omega) Bu13
  clear nz_r x_r_u13 z_b_u13 z_g_u13 z_h_u13 Bu13 hWu16
  refine hK.out _ _ (fun h => (Bool.false_ne_true (h.symm.trans (by kernel_rfl))).elim) (fun _ => ?_); clear hK K
  refine wpAnyK_done (by kernel_rfl) ?_ _
  go_wp2_with fail
  go_returns
  rw [HE1.out, HE2.out, HR1.out, HR2.out]
  exact ⟨rfl, z_b_u16, z_g_u16, z_h_u16, x_r_u16, Bu16⟩


end Go.Proofs.Ytjhlpkkefdohjaa
