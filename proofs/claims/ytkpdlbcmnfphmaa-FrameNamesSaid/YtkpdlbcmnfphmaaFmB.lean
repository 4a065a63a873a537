/-
  Package frame, walked: onlyUsed.
-/
import Derived.Test.YtkpdlbcmnfphmaaFmLaw
import Derived.Test.YtkpdlbcmnfphmaaFmA
import Derived.Test.YtkpdlbcmnfphmaaGP5
namespace Go.Proofs.Ytkpdlbcmnfphmaa
open Go.RowKit

/-- A command with neither limits nor capacities nor a user. -/
def Cmd.base (c : Cmd) : Cmd := ⟨c.op, c.t, 0, Lm.zero, Lm.zero, Lm.zero, 0, 0, c.x, c.g, c.hop, c.ht, by decide, by decide, by decide, c.hx, c.hg, c.hgb⟩
set_option maxRecDepth 100000 in
theorem build_base (op t x : Int) {g : List Int} (h : g.length = 32) (W : World) : (Instr.build 31 #[(0, .int .u8 op), (1, .int .u32 t), (6, .int .u64 x), (7, .agg (g.map (Value.int .u8)).toArray)]).run Try.prog W =
    .ok (.agg (.int .u8 op :: .int .u32 t :: .int .u32 0 :: .int .i64 0 :: .int .i64 0 :: .int .i64 0 :: .int .i64 0 :: .int .i64 0 :: .int .i64 0 :: .int .i64 0 :: .int .i64 0 :: .int .i64 0 :: .int .u8 0 :: .int .u8 0 :: .int .u64 x :: g.map (Value.int .u8)).toArray) W := by
  obtain ⟨x0, x1, x2, x3, x4, x5, x6, x7, x8, x9, x10, x11, x12, x13, x14, x15, x16, x17, x18, x19, x20, x21, x22, x23, x24, x25, x26, x27, x28, x29, x30, x31, rfl⟩ := list32 h
  kernel_rfl
theorem sizeLim : (Try.prog.info? 24).map (·.size) = some 3 := by kernel_rfl
theorem sizeArr : (Try.prog.info? 25).map (·.size) = some 9 := by kernel_rfl
theorem size_arr (c : Cmd) : (Try.prog.info? 25).map (·.size) = some (lcell c).length := by rw [sizeArr]; rfl
theorem one_arr (c : Cmd) : (lcell c).toArray.all (·.oneCell') = true := all_oneCell_toArray (fun u hu => by
  simp [lcell] at hu
  rcases hu with rfl | rfl | rfl | rfl | rfl | rfl | rfl | rfl | rfl <;> rfl)
theorem size_u8n : (Try.prog.info? 5).map (·.size) = some 1 := by kernel_rfl
theorem size_u32n : (Try.prog.info? 22).map (·.size) = some 1 := by kernel_rfl
theorem size_u64n : (Try.prog.info? 27).map (·.size) = some 1 := by kernel_rfl
theorem size_dg9 {g : List Int} (h : g.length = 32) : (Try.prog.info? 29).map (·.size) = some (g.map (Value.int .u8)).length := by rw [sizeDig, List.length_map, h]
/-- A command's cells behind its limits, and behind its first three. -/
def acell (c : Cmd) : List Value := .int .u8 c.us :: .int .u8 c.en :: .int .u64 c.x :: c.g.map (Value.int .u8)
theorem ccell_drop3 (c : Cmd) : (ccell c).drop 3 = lcell c ++ acell c := rfl
theorem ccell_drop15 (c : Cmd) : (ccell c).drop 15 = c.g.map (Value.int .u8) ++ [] := by rw [List.append_nil]; rfl

set_option maxRecDepth 100000 in
set_option maxHeartbeats 3200000 in
theorem only_1 (c : Cmd) (h1 : c.op = 1) (w : World) : Calls Try.prog 45 #[.agg (ccell c).toArray] w fun e w' => e = .returned (.agg (ccell c.only).toArray) ∧ Below w.heap.size w w' := by
  have SV := Lib.hid (size_cmd c)
  have SZ := Lib.hid (size_cmd Cmd.zero)
  have SU := Lib.hid (size_cmd c.base)
  have LU := Lib.hid (len_cmd Cmd.zero c.base)
  have OU := Lib.hid (one_cmd c.base)
  have SF := Lib.hid (size_cmd c.only)
  have LF := Lib.hid (len_cmd Cmd.zero c.only)
  have OF := Lib.hid (one_cmd c.only)
  have SG := Lib.hid (size_dg9 c.hg)
  have SA := Lib.hid (size_arr c)
  have OA := Lib.hid (one_arr c)
  have D15 := Lib.hid (ccell_drop15 c)
  have D3 := Lib.hid (ccell_drop3 c)
  have BT := fun W => build_base c.op c.t c.x c.hg W
  obtain ⟨U1, W1⟩ : ∃ U1, Hid (U1 = (ccell c.base).take 3 ++ lcell c ++ (ccell c.base).drop (3 + (lcell c).length)) := ⟨_, Lib.hid rfl⟩
  obtain ⟨U2, W2⟩ : ∃ U2, Hid (U2 = U1.set 12 (.int .u8 c.us)) := ⟨_, Lib.hid rfl⟩
  have W3 : Hid (ccell c.only = U2.set 13 (.int .u8 c.en)) := Lib.hid (by rw [W2.out, W1.out]; simp [ccell, Cmd.only, Cmd.base, lcell, h1])
  have N1 : Hid (U1.length = 47) := Lib.hid (by rw [W1.out]; simp [lcell, ccell_len])
  have N2 : Hid (U2.length = 47) := Lib.hid (by rw [W2.out, List.length_set, N1.out])
  have N0 : Hid ((ccell c.base).length = 47) := Lib.hid (ccell_len _)
  have NA : Hid ((lcell c).length = 9) := Lib.hid rfl
  obtain ⟨V, hV⟩ : ∃ V, ccell c = V := ⟨_, rfl⟩
  have v0 : V[0]? = some (.int .u8 1) := by rw [← hV]; rw [← h1]; rfl
  have v0b : V[0]? = some (.int .u8 c.op) := by rw [← hV]; rfl
  have v1 : V[1]? = some (.int .u32 c.t) := by rw [← hV]; rfl
  have v2 : V[2]? = some (.int .u32 c.u) := by rw [← hV]; rfl
  have v12 : V[12]? = some (.int .u8 c.us) := by rw [← hV]; rfl
  have v13 : V[13]? = some (.int .u8 c.en) := by rw [← hV]; rfl
  have v14 : V[14]? = some (.int .u64 c.x) := by rw [← hV]; rfl
  have U0e : Hid (ccell c.base = .int .u8 c.op :: .int .u32 c.t :: .int .u32 0 :: .int .i64 0 :: .int .i64 0 :: .int .i64 0 :: .int .i64 0 :: .int .i64 0 :: .int .i64 0 :: .int .i64 0 :: .int .i64 0 :: .int .i64 0 :: .int .u8 0 :: .int .u8 0 :: .int .u64 c.x :: c.g.map (Value.int .u8)) := Lib.hid rfl
  rw [← U0e.out] at BT
  clear U0e
  rw [hV] at SV D15 D3 ⊢
  obtain ⟨U, hU⟩ : ∃ V, ccell c.base = V := ⟨_, rfl⟩
  obtain ⟨F, hF⟩ : ∃ V, ccell c.only = V := ⟨_, rfl⟩
  obtain ⟨LC, hLC⟩ : ∃ V, lcell c = V := ⟨_, rfl⟩
  obtain ⟨R3, hR3⟩ : ∃ V, acell c = V := ⟨_, rfl⟩
  rw [hU] at SU LU OU BT N0 W1
  rw [hF] at SF LF OF W3 ⊢
  rw [hLC] at SA OA D3 NA W1
  rw [hR3] at D3
  clear h1
  clear hV hU hF hLC hR3
  go_enter Try.func45, Try.ntmps45
  go_upto_region 1 with fail
  refine F_gen (F := fun W => Code.wp _ _ _ _ W) (J := fun W => Box W (w.heap.size) (V) ∧ Box W (w.heap.size + 1) (ccell Cmd.zero) ∧ Below w.heap.size w W) (And.intro (Box.alloc (Box.newc rfl rfl) _) (And.intro (Box.newc rfl (by simp)) (by go_grown))) ?_
  intro w0 ⟨e_c, e_r, hB0⟩
  have hs0 := hB0.size
  have x_c0 := e_c; clear e_c
  have x_r0 := e_r; clear e_r
  have ca := (x_c0).c 0 _ v0b
  have za := (x_c0).lt
  have cb := (x_c0).c 1 _ v1
  have zb := (x_c0).lt
  have cd := (x_c0).c 14 _ v14
  have zd := (x_c0).lt
  have d_u_c := (x_c0).lt
  have d_u_r := (x_r0).lt
  have d_u_0 := hs0
  go_upto_region 2 with (first
    | (refine wpList_load_rangew rfl _ _ rfl (Box.rangeMid x_c0 15 (c.g.map (Value.int .u8)) ([]) D15.out) rfl Try.underlying29 rfl SG.out ?_)
    | (refine wpList_build9 rfl 31 _ rfl (us := #[(0, .int .u8 c.op), (1, .int .u32 c.t), (6, .int .u64 c.x), (7, .agg (c.g.map (Value.int .u8)).toArray)]) (by rfl) (BT _) ?_)
    | (refine wpList_store_box (cs := U) rfl _ _ _ rfl (Box.newc (l := ccell Cmd.zero) rfl rfl) rfl rfl SU.out LU.out OU.out ?_; intro W0_0 hW0_0))
  have hN : Below w0.heap.size w0 W0_0 := (hW0_0.below _ _ (by omega) ((Below.refl _ w0).alloc (Nat.le_refl _) _))
  have x_u1 : Box W0_0 (w0.heap.size) (U) := hW0_0.box
  have hB1 : Below w.heap.size w W0_0 := below_thru hB0 hN
  have hs1 := hB1.size
  have x_c1 : Box W0_0 (w.heap.size) (V) := Box.below x_c0 hN
  have x_r1 : Box W0_0 (w.heap.size + 1) (ccell Cmd.zero) := Box.below x_r0 hN
  clear hB0 hs0 x_c0 x_r0
  clear hN hW0_0
  clear ca za cb zb cd zd
  have ca := (x_c1).c 0 _ v0
  have za := (x_c1).lt
  go_upto_region 4 with fail
  clear ca za
  refine wp_region_held_drew (S := fun W => Box W w.heap.size V) (by kernel_rfl) (x_c1).drew (fun _ => ?_)
  refine F_drew (F := fun W => wpAnyH _ _ _ _ _ _ _ _ W) ?_
  intro W0 hb0
  have xc0 := x_c1.below hb0; have xr0 := x_r1.below hb0; have xu0 := x_u1.below hb0; have hB_0 := below_thru hB1 hb0
  clear x_c1 x_r1 x_u1 hB1 hb0
  refine takeH 0 17 (v := ?vt0_1) rfl (by rfl) (by kernel_rfl) (by kernel_rfl) (by kernel_rfl) (fun _ _ _ h => h) (Or.inl ⟨by rfl, ?_⟩) (xc0) ?_
  rotate_left
  · intro wq hSq
    go_simp
    exact rfl
  try simp only [Act.put, List.setIfInBounds_toArray, List.set_cons_zero, List.set_cons_succ]
  refine takeH 2 19 (v := ?vt2_2) rfl (by rfl) (by kernel_rfl) (by kernel_rfl) (by kernel_rfl) (fun _ _ _ h => h) (Or.inl ⟨by rfl, ?_⟩) (xc0) ?_
  rotate_left
  · intro wq hSq
    go_simp
    exact rfl
  try simp only [Act.put, List.setIfInBounds_toArray, List.set_cons_zero, List.set_cons_succ]
  refine takeH 3 20 (v := ?vt3_3) rfl (by rfl) (by kernel_rfl) (by kernel_rfl) (by kernel_rfl) (fun _ _ _ h => h) (Or.inl ⟨by rfl, ?_⟩) (xc0) ?_
  rotate_left
  · intro wq hSq
    have cq := hSq.c 12 _ v12
    have zq := lt_of_cell cq
    go_simp
    exact rfl
  try simp only [Act.put, List.setIfInBounds_toArray, List.set_cons_zero, List.set_cons_succ]
  refine takeH 4 21 (v := ?vt4_4) rfl (by rfl) (by kernel_rfl) (by kernel_rfl) (by kernel_rfl) (fun _ _ _ h => h) (Or.inl ⟨by rfl, ?_⟩) (xc0) ?_
  rotate_left
  · intro wq hSq
    go_simp
    exact rfl
  try simp only [Act.put, List.setIfInBounds_toArray, List.set_cons_zero, List.set_cons_succ]
  refine takeH 5 22 (v := ?vt5_5) rfl (by rfl) (by kernel_rfl) (by kernel_rfl) (by kernel_rfl) (fun _ _ _ h => h) (Or.inl ⟨by rfl, ?_⟩) (xc0) ?_
  rotate_left
  · intro wq hSq
    have cq := hSq.c 13 _ v13
    have zq := lt_of_cell cq
    go_simp
    exact rfl
  try simp only [Act.put, List.setIfInBounds_toArray, List.set_cons_zero, List.set_cons_succ]
  refine takeH 1 18 (v := .agg LC.toArray) rfl (by rfl) (by kernel_rfl) (by kernel_rfl) (by kernel_rfl) (fun _ _ _ h => h) (yieldsIf_load_mid (by rfl) _ _ rfl _ _ rfl LC _ (fun wq hq => Box.rangeMid hq 3 LC R3 D3.out) Try.underlying25 rfl SA.out) (xc0) ?_
  try simp only [Act.put, List.setIfInBounds_toArray, List.set_cons_zero, List.set_cons_succ]
  refine takeH 6 23 (v := ?vt6_6) rfl (by rfl) (by kernel_rfl) (by kernel_rfl) (by kernel_rfl) (fun _ _ _ h => h) (Or.inl ⟨by rfl, ?_⟩) (xc0) ?_
  rotate_left
  · intro wq hSq
    go_simp
    exact rfl
  try simp only [Act.put, List.setIfInBounds_toArray, List.set_cons_zero, List.set_cons_succ]
  refine wpAnyH_ready (rs := [7]) (by kernel_rfl) (by simp) (AllReadyH.cons rfl (fun K hK => ?_) AllReadyH.nil)
  refine step_store_part0 (cs := LC) (ws := U1) rfl rfl _ _ _ rfl xu0 rfl rfl SA.out (by rw [NA.out, N0.out]; decide) (by rw [W1.out]) OA.out ?_
  intro W7 hW7
  have xc7 := hW7.past _ _ (by omega) xc0; have xr7 := hW7.past _ _ (by omega) xr0; have xu7 := hW7.box; have hB_7 := hW7.below _ _ (by omega) hB_0
  refine hK.out _ _ xc7 (fun _ => ?_); clear hK K
  refine takeH 8 24 (v := ?vt8_8) rfl (by rfl) (by kernel_rfl) (by kernel_rfl) (by kernel_rfl) (fun _ _ _ h => h) (Or.inl ⟨by rfl, ?_⟩) (xc7) ?_
  rotate_left
  · intro wq hSq
    go_simp
    exact rfl
  try simp only [Act.put, List.setIfInBounds_toArray, List.set_cons_zero, List.set_cons_succ]
  refine wpAnyH_ready (rs := [9]) (by kernel_rfl) (by simp) (AllReadyH.cons rfl (fun K hK => ?_) AllReadyH.nil)
  refine step_store_cell0 (ws := U2) (v := .int .u8 c.us) rfl rfl _ _ _ rfl xu7 rfl rfl rfl rfl size_u8n (by rw [N1.out]; decide) (by rw [W2.out]) ?_
  intro W9 hW9
  have xc9 := hW9.past _ _ (by omega) xc7; have xr9 := hW9.past _ _ (by omega) xr7; have xu9 := hW9.box; have hB_9 := hW9.below _ _ (by omega) hB_7
  refine hK.out _ _ xc9 (fun _ => ?_); clear hK K
  refine takeH 10 25 (v := ?vt10_10) rfl (by rfl) (by kernel_rfl) (by kernel_rfl) (by kernel_rfl) (fun _ _ _ h => h) (Or.inl ⟨by rfl, ?_⟩) (xc9) ?_
  rotate_left
  · intro wq hSq
    go_simp
    exact rfl
  try simp only [Act.put, List.setIfInBounds_toArray, List.set_cons_zero, List.set_cons_succ]
  refine wpAnyH_ready (rs := [11]) (by kernel_rfl) (by simp) (AllReadyH.cons rfl (fun K hK => ?_) AllReadyH.nil)
  refine step_store_cell0 (ws := F) (v := .int .u8 c.en) rfl rfl _ _ _ rfl xu9 rfl rfl rfl rfl size_u8n (by rw [N2.out]; decide) (by rw [W3.out]) ?_
  intro W11 hW11
  have xc11 := hW11.past _ _ (by omega) xc9; have xr11 := hW11.past _ _ (by omega) xr9; have xu11 := hW11.box; have hB_11 := hW11.below _ _ (by omega) hB_9
  refine hK.out _ _ xc11 (fun _ => ?_); clear hK K
  refine wpAnyH_done (by kernel_rfl) ?_ _
  go_wp2_with (first | (refine wpList_load_box9 rfl _ _ rfl xu11 rfl Try.underlying31 rfl SF.out ?_) | (refine wpList_store_box (cs := F) rfl _ _ _ rfl xr11 rfl rfl SF.out LF.out OF.out ?_; intro W9 hW9))
  exact bodyPost_ret (results_box Try.results45 hW9.box rfl Try.underlying31 rfl SF.out) rfl ⟨rfl, hW9.below _ _ (by omega) hB_11⟩

set_option maxRecDepth 100000 in
set_option maxHeartbeats 3200000 in
theorem only_3 (c : Cmd) (h1 : c.op = 3) (w : World) : Calls Try.prog 45 #[.agg (ccell c).toArray] w fun e w' => e = .returned (.agg (ccell c.only).toArray) ∧ Below w.heap.size w w' := by
  have SV := Lib.hid (size_cmd c)
  have SZ := Lib.hid (size_cmd Cmd.zero)
  have SU := Lib.hid (size_cmd c.base)
  have LU := Lib.hid (len_cmd Cmd.zero c.base)
  have OU := Lib.hid (one_cmd c.base)
  have SF := Lib.hid (size_cmd c.only)
  have LF := Lib.hid (len_cmd Cmd.zero c.only)
  have OF := Lib.hid (one_cmd c.only)
  have SG := Lib.hid (size_dg9 c.hg)
  have SA := Lib.hid (size_arr c)
  have OA := Lib.hid (one_arr c)
  have D15 := Lib.hid (ccell_drop15 c)
  have D3 := Lib.hid (ccell_drop3 c)
  have BT := fun W => build_base c.op c.t c.x c.hg W
  have W1 : Hid (ccell c.only = (ccell c.base).take 3 ++ lcell c ++ (ccell c.base).drop (3 + (lcell c).length)) := Lib.hid (by simp [ccell, Cmd.only, Cmd.base, lcell, h1])
  have N0 : Hid ((ccell c.base).length = 47) := Lib.hid (ccell_len _)
  have NA : Hid ((lcell c).length = 9) := Lib.hid rfl
  obtain ⟨V, hV⟩ : ∃ V, ccell c = V := ⟨_, rfl⟩
  have v0 : V[0]? = some (.int .u8 3) := by rw [← hV]; rw [← h1]; rfl
  have v0b : V[0]? = some (.int .u8 c.op) := by rw [← hV]; rfl
  have v1 : V[1]? = some (.int .u32 c.t) := by rw [← hV]; rfl
  have v2 : V[2]? = some (.int .u32 c.u) := by rw [← hV]; rfl
  have v12 : V[12]? = some (.int .u8 c.us) := by rw [← hV]; rfl
  have v13 : V[13]? = some (.int .u8 c.en) := by rw [← hV]; rfl
  have v14 : V[14]? = some (.int .u64 c.x) := by rw [← hV]; rfl
  have U0e : Hid (ccell c.base = .int .u8 c.op :: .int .u32 c.t :: .int .u32 0 :: .int .i64 0 :: .int .i64 0 :: .int .i64 0 :: .int .i64 0 :: .int .i64 0 :: .int .i64 0 :: .int .i64 0 :: .int .i64 0 :: .int .i64 0 :: .int .u8 0 :: .int .u8 0 :: .int .u64 c.x :: c.g.map (Value.int .u8)) := Lib.hid rfl
  rw [← U0e.out] at BT
  clear U0e
  rw [hV] at SV D15 D3 ⊢
  obtain ⟨U, hU⟩ : ∃ V, ccell c.base = V := ⟨_, rfl⟩
  obtain ⟨F, hF⟩ : ∃ V, ccell c.only = V := ⟨_, rfl⟩
  obtain ⟨LC, hLC⟩ : ∃ V, lcell c = V := ⟨_, rfl⟩
  obtain ⟨R3, hR3⟩ : ∃ V, acell c = V := ⟨_, rfl⟩
  rw [hU] at SU LU OU BT N0 W1
  rw [hF] at SF LF OF W1 ⊢
  rw [hLC] at SA OA D3 NA W1
  rw [hR3] at D3
  clear h1
  clear hV hU hF hLC hR3
  go_enter Try.func45, Try.ntmps45
  go_upto_region 1 with fail
  refine F_gen (F := fun W => Code.wp _ _ _ _ W) (J := fun W => Box W (w.heap.size) (V) ∧ Box W (w.heap.size + 1) (ccell Cmd.zero) ∧ Below w.heap.size w W) (And.intro (Box.alloc (Box.newc rfl rfl) _) (And.intro (Box.newc rfl (by simp)) (by go_grown))) ?_
  intro w0 ⟨e_c, e_r, hB0⟩
  have hs0 := hB0.size
  have x_c0 := e_c; clear e_c
  have x_r0 := e_r; clear e_r
  have ca := (x_c0).c 0 _ v0b
  have za := (x_c0).lt
  have cb := (x_c0).c 1 _ v1
  have zb := (x_c0).lt
  have cd := (x_c0).c 14 _ v14
  have zd := (x_c0).lt
  have d_u_c := (x_c0).lt
  have d_u_r := (x_r0).lt
  have d_u_0 := hs0
  go_upto_region 2 with (first
    | (refine wpList_load_rangew rfl _ _ rfl (Box.rangeMid x_c0 15 (c.g.map (Value.int .u8)) ([]) D15.out) rfl Try.underlying29 rfl SG.out ?_)
    | (refine wpList_build9 rfl 31 _ rfl (us := #[(0, .int .u8 c.op), (1, .int .u32 c.t), (6, .int .u64 c.x), (7, .agg (c.g.map (Value.int .u8)).toArray)]) (by rfl) (BT _) ?_)
    | (refine wpList_store_box (cs := U) rfl _ _ _ rfl (Box.newc (l := ccell Cmd.zero) rfl rfl) rfl rfl SU.out LU.out OU.out ?_; intro W0_0 hW0_0))
  have hN : Below w0.heap.size w0 W0_0 := (hW0_0.below _ _ (by omega) ((Below.refl _ w0).alloc (Nat.le_refl _) _))
  have x_u1 : Box W0_0 (w0.heap.size) (U) := hW0_0.box
  have hB1 : Below w.heap.size w W0_0 := below_thru hB0 hN
  have hs1 := hB1.size
  have x_c1 : Box W0_0 (w.heap.size) (V) := Box.below x_c0 hN
  have x_r1 : Box W0_0 (w.heap.size + 1) (ccell Cmd.zero) := Box.below x_r0 hN
  clear hB0 hs0 x_c0 x_r0
  clear hN hW0_0
  clear ca za cb zb cd zd
  have ca := (x_c1).c 0 _ v0
  have za := (x_c1).lt
  go_upto_region 9 with (first | (refine wpList_load_rangew rfl _ _ rfl (Box.rangeMid x_c1 3 (LC) (R3) D3.out) rfl Try.underlying25 rfl SA.out ?_) | (refine wpList_store_part (cs := LC) (ws := F) rfl _ _ _ rfl x_u1 rfl rfl SA.out (by rw [NA.out, N0.out]; decide) W1.out OA.out ?_; intro W8 hW8))
  have xu8 := hW8.box; have xr8 := hW8.past _ _ (by omega) x_r1; have hB8 := hW8.below _ _ (by omega) hB1
  clear hW8
  have z8 := xr8.lt
  go_wp2_with (first | (refine wpList_load_box9 rfl _ _ rfl xu8 rfl Try.underlying31 rfl SF.out ?_) | (refine wpList_store_box (cs := F) rfl _ _ _ rfl xr8 rfl rfl SF.out LF.out OF.out ?_; intro W9 hW9))
  exact bodyPost_ret (results_box Try.results45 hW9.box rfl Try.underlying31 rfl SF.out) rfl ⟨rfl, hW9.below _ _ (by omega) hB8⟩

set_option maxRecDepth 100000 in
set_option maxHeartbeats 3200000 in
theorem only_5 (c : Cmd) (h1 : c.op = 5) (w : World) : Calls Try.prog 45 #[.agg (ccell c).toArray] w fun e w' => e = .returned (.agg (ccell c.only).toArray) ∧ Below w.heap.size w w' := by
  have SV := Lib.hid (size_cmd c)
  have SZ := Lib.hid (size_cmd Cmd.zero)
  have SU := Lib.hid (size_cmd c.base)
  have LU := Lib.hid (len_cmd Cmd.zero c.base)
  have OU := Lib.hid (one_cmd c.base)
  have SF := Lib.hid (size_cmd c.only)
  have LF := Lib.hid (len_cmd Cmd.zero c.only)
  have OF := Lib.hid (one_cmd c.only)
  have SG := Lib.hid (size_dg9 c.hg)
  have SA := Lib.hid (size_arr c)
  have OA := Lib.hid (one_arr c)
  have D15 := Lib.hid (ccell_drop15 c)
  have D3 := Lib.hid (ccell_drop3 c)
  have BT := fun W => build_base c.op c.t c.x c.hg W
  have W1 : Hid (ccell c.only = (ccell c.base).set 2 (.int .u32 c.u)) := Lib.hid (by simp [ccell, Cmd.only, Cmd.base, h1])
  have N0 : Hid ((ccell c.base).length = 47) := Lib.hid (ccell_len _)
  have NA : Hid ((lcell c).length = 9) := Lib.hid rfl
  obtain ⟨V, hV⟩ : ∃ V, ccell c = V := ⟨_, rfl⟩
  have v0 : V[0]? = some (.int .u8 5) := by rw [← hV]; rw [← h1]; rfl
  have v0b : V[0]? = some (.int .u8 c.op) := by rw [← hV]; rfl
  have v1 : V[1]? = some (.int .u32 c.t) := by rw [← hV]; rfl
  have v2 : V[2]? = some (.int .u32 c.u) := by rw [← hV]; rfl
  have v12 : V[12]? = some (.int .u8 c.us) := by rw [← hV]; rfl
  have v13 : V[13]? = some (.int .u8 c.en) := by rw [← hV]; rfl
  have v14 : V[14]? = some (.int .u64 c.x) := by rw [← hV]; rfl
  have U0e : Hid (ccell c.base = .int .u8 c.op :: .int .u32 c.t :: .int .u32 0 :: .int .i64 0 :: .int .i64 0 :: .int .i64 0 :: .int .i64 0 :: .int .i64 0 :: .int .i64 0 :: .int .i64 0 :: .int .i64 0 :: .int .i64 0 :: .int .u8 0 :: .int .u8 0 :: .int .u64 c.x :: c.g.map (Value.int .u8)) := Lib.hid rfl
  rw [← U0e.out] at BT
  clear U0e
  rw [hV] at SV D15 D3 ⊢
  obtain ⟨U, hU⟩ : ∃ V, ccell c.base = V := ⟨_, rfl⟩
  obtain ⟨F, hF⟩ : ∃ V, ccell c.only = V := ⟨_, rfl⟩
  obtain ⟨LC, hLC⟩ : ∃ V, lcell c = V := ⟨_, rfl⟩
  obtain ⟨R3, hR3⟩ : ∃ V, acell c = V := ⟨_, rfl⟩
  rw [hU] at SU LU OU BT N0 W1
  rw [hF] at SF LF OF W1 ⊢
  rw [hLC] at SA OA D3 NA
  rw [hR3] at D3
  clear h1
  clear hV hU hF hLC hR3
  go_enter Try.func45, Try.ntmps45
  go_upto_region 1 with fail
  refine F_gen (F := fun W => Code.wp _ _ _ _ W) (J := fun W => Box W (w.heap.size) (V) ∧ Box W (w.heap.size + 1) (ccell Cmd.zero) ∧ Below w.heap.size w W) (And.intro (Box.alloc (Box.newc rfl rfl) _) (And.intro (Box.newc rfl (by simp)) (by go_grown))) ?_
  intro w0 ⟨e_c, e_r, hB0⟩
  have hs0 := hB0.size
  have x_c0 := e_c; clear e_c
  have x_r0 := e_r; clear e_r
  have ca := (x_c0).c 0 _ v0b
  have za := (x_c0).lt
  have cb := (x_c0).c 1 _ v1
  have zb := (x_c0).lt
  have cd := (x_c0).c 14 _ v14
  have zd := (x_c0).lt
  have d_u_c := (x_c0).lt
  have d_u_r := (x_r0).lt
  have d_u_0 := hs0
  go_upto_region 2 with (first
    | (refine wpList_load_rangew rfl _ _ rfl (Box.rangeMid x_c0 15 (c.g.map (Value.int .u8)) ([]) D15.out) rfl Try.underlying29 rfl SG.out ?_)
    | (refine wpList_build9 rfl 31 _ rfl (us := #[(0, .int .u8 c.op), (1, .int .u32 c.t), (6, .int .u64 c.x), (7, .agg (c.g.map (Value.int .u8)).toArray)]) (by rfl) (BT _) ?_)
    | (refine wpList_store_box (cs := U) rfl _ _ _ rfl (Box.newc (l := ccell Cmd.zero) rfl rfl) rfl rfl SU.out LU.out OU.out ?_; intro W0_0 hW0_0))
  have hN : Below w0.heap.size w0 W0_0 := (hW0_0.below _ _ (by omega) ((Below.refl _ w0).alloc (Nat.le_refl _) _))
  have x_u1 : Box W0_0 (w0.heap.size) (U) := hW0_0.box
  have hB1 : Below w.heap.size w W0_0 := below_thru hB0 hN
  have hs1 := hB1.size
  have x_c1 : Box W0_0 (w.heap.size) (V) := Box.below x_c0 hN
  have x_r1 : Box W0_0 (w.heap.size + 1) (ccell Cmd.zero) := Box.below x_r0 hN
  clear hB0 hs0 x_c0 x_r0
  clear hN hW0_0
  clear ca za cb zb cd zd
  have ca := (x_c1).c 0 _ v0
  have za := (x_c1).lt
  have cb := (x_c1).c 2 _ v2
  have zb := (x_c1).lt
  go_upto_region 9 with (first | (refine wpList_store_cell (ws := F) rfl _ _ _ rfl x_u1 rfl rfl rfl rfl size_u32n (by rw [N0.out]; decide) W1.out ?_; intro W8 hW8))
  have xu8 := hW8.box; have xr8 := hW8.past _ _ (by omega) x_r1; have hB8 := hW8.below _ _ (by omega) hB1
  clear hW8
  have z8 := xr8.lt
  go_wp2_with (first | (refine wpList_load_box9 rfl _ _ rfl xu8 rfl Try.underlying31 rfl SF.out ?_) | (refine wpList_store_box (cs := F) rfl _ _ _ rfl xr8 rfl rfl SF.out LF.out OF.out ?_; intro W9 hW9))
  exact bodyPost_ret (results_box Try.results45 hW9.box rfl Try.underlying31 rfl SF.out) rfl ⟨rfl, hW9.below _ _ (by omega) hB8⟩

set_option maxRecDepth 100000 in
set_option maxHeartbeats 3200000 in
theorem only_n (c : Cmd) (h1 : c.op ≠ 1) (h3 : c.op ≠ 3) (h5 : c.op ≠ 5) (e1 : (c.op == 1) = false) (e3 : (c.op == 3) = false) (e5 : (c.op == 5) = false) (w : World) : Calls Try.prog 45 #[.agg (ccell c).toArray] w fun e w' => e = .returned (.agg (ccell c.only).toArray) ∧ Below w.heap.size w w' := by
  have SV := Lib.hid (size_cmd c)
  have SZ := Lib.hid (size_cmd Cmd.zero)
  have SU := Lib.hid (size_cmd c.base)
  have LU := Lib.hid (len_cmd Cmd.zero c.base)
  have OU := Lib.hid (one_cmd c.base)
  have SF := Lib.hid (size_cmd c.only)
  have LF := Lib.hid (len_cmd Cmd.zero c.only)
  have OF := Lib.hid (one_cmd c.only)
  have SG := Lib.hid (size_dg9 c.hg)
  have SA := Lib.hid (size_arr c)
  have OA := Lib.hid (one_arr c)
  have D15 := Lib.hid (ccell_drop15 c)
  have D3 := Lib.hid (ccell_drop3 c)
  have BT := fun W => build_base c.op c.t c.x c.hg W
  have W1 : Hid (ccell c.only = ccell c.base) := Lib.hid (by simp [ccell, Cmd.only, Cmd.base, h1, h3, h5])
  have N0 : Hid ((ccell c.base).length = 47) := Lib.hid (ccell_len _)
  have NA : Hid ((lcell c).length = 9) := Lib.hid rfl
  obtain ⟨V, hV⟩ : ∃ V, ccell c = V := ⟨_, rfl⟩
  have v0 : V[0]? = some (.int .u8 c.op) := by rw [← hV]; rfl
  have v0b : V[0]? = some (.int .u8 c.op) := by rw [← hV]; rfl
  have v1 : V[1]? = some (.int .u32 c.t) := by rw [← hV]; rfl
  have v2 : V[2]? = some (.int .u32 c.u) := by rw [← hV]; rfl
  have v12 : V[12]? = some (.int .u8 c.us) := by rw [← hV]; rfl
  have v13 : V[13]? = some (.int .u8 c.en) := by rw [← hV]; rfl
  have v14 : V[14]? = some (.int .u64 c.x) := by rw [← hV]; rfl
  have U0e : Hid (ccell c.base = .int .u8 c.op :: .int .u32 c.t :: .int .u32 0 :: .int .i64 0 :: .int .i64 0 :: .int .i64 0 :: .int .i64 0 :: .int .i64 0 :: .int .i64 0 :: .int .i64 0 :: .int .i64 0 :: .int .i64 0 :: .int .u8 0 :: .int .u8 0 :: .int .u64 c.x :: c.g.map (Value.int .u8)) := Lib.hid rfl
  rw [← U0e.out] at BT
  clear U0e
  rw [hV] at SV D15 D3 ⊢
  obtain ⟨U, hU⟩ : ∃ V, ccell c.base = V := ⟨_, rfl⟩
  obtain ⟨F, hF⟩ : ∃ V, ccell c.only = V := ⟨_, rfl⟩
  obtain ⟨LC, hLC⟩ : ∃ V, lcell c = V := ⟨_, rfl⟩
  obtain ⟨R3, hR3⟩ : ∃ V, acell c = V := ⟨_, rfl⟩
  rw [hU] at SU LU OU BT N0 W1
  rw [hF] at SF LF OF W1 ⊢
  rw [hLC] at SA OA D3 NA
  rw [hR3] at D3
  clear hV hU hF hLC hR3
  go_enter Try.func45, Try.ntmps45
  go_upto_region 1 with fail
  refine F_gen (F := fun W => Code.wp _ _ _ _ W) (J := fun W => Box W (w.heap.size) (V) ∧ Box W (w.heap.size + 1) (ccell Cmd.zero) ∧ Below w.heap.size w W) (And.intro (Box.alloc (Box.newc rfl rfl) _) (And.intro (Box.newc rfl (by simp)) (by go_grown))) ?_
  intro w0 ⟨e_c, e_r, hB0⟩
  have hs0 := hB0.size
  have x_c0 := e_c; clear e_c
  have x_r0 := e_r; clear e_r
  have ca := (x_c0).c 0 _ v0b
  have za := (x_c0).lt
  have cb := (x_c0).c 1 _ v1
  have zb := (x_c0).lt
  have cd := (x_c0).c 14 _ v14
  have zd := (x_c0).lt
  have d_u_c := (x_c0).lt
  have d_u_r := (x_r0).lt
  have d_u_0 := hs0
  go_upto_region 2 with (first
    | (refine wpList_load_rangew rfl _ _ rfl (Box.rangeMid x_c0 15 (c.g.map (Value.int .u8)) ([]) D15.out) rfl Try.underlying29 rfl SG.out ?_)
    | (refine wpList_build9 rfl 31 _ rfl (us := #[(0, .int .u8 c.op), (1, .int .u32 c.t), (6, .int .u64 c.x), (7, .agg (c.g.map (Value.int .u8)).toArray)]) (by rfl) (BT _) ?_)
    | (refine wpList_store_box (cs := U) rfl _ _ _ rfl (Box.newc (l := ccell Cmd.zero) rfl rfl) rfl rfl SU.out LU.out OU.out ?_; intro W0_0 hW0_0))
  have hN : Below w0.heap.size w0 W0_0 := (hW0_0.below _ _ (by omega) ((Below.refl _ w0).alloc (Nat.le_refl _) _))
  have x_u1 : Box W0_0 (w0.heap.size) (U) := hW0_0.box
  have hB1 : Below w.heap.size w W0_0 := below_thru hB0 hN
  have hs1 := hB1.size
  have x_c1 : Box W0_0 (w.heap.size) (V) := Box.below x_c0 hN
  have x_r1 : Box W0_0 (w.heap.size + 1) (ccell Cmd.zero) := Box.below x_r0 hN
  clear hB0 hs0 x_c0 x_r0
  clear hN hW0_0
  clear ca za cb zb cd zd
  have ca := (x_c1).c 0 _ v0
  have za := (x_c1).lt
  rw [← W1.out] at x_u1
  have xu8 := x_u1; have xr8 := x_r1; have hB8 := hB1
  have z8 := xr8.lt
  go_wp2_with (first | (refine wpList_load_box9 rfl _ _ rfl xu8 rfl Try.underlying31 rfl SF.out ?_) | (refine wpList_store_box (cs := F) rfl _ _ _ rfl xr8 rfl rfl SF.out LF.out OF.out ?_; intro W9 hW9))
  exact bodyPost_ret (results_box Try.results45 hW9.box rfl Try.underlying31 rfl SF.out) rfl ⟨rfl, hW9.below _ _ (by omega) hB8⟩

theorem only_is (c : Cmd) (w : World) : Calls Try.prog 45 #[.agg (ccell c).toArray] w fun e w' => e = .returned (.agg (ccell c.only).toArray) ∧ Below w.heap.size w w' := by
  by_cases h1 : c.op = 1
  · exact only_1 c h1 w
  by_cases h3 : c.op = 3
  · exact only_3 c h3 w
  by_cases h5 : c.op = 5
  · exact only_5 c h5 w
  exact only_n c h1 h3 h5 (by simpa using h1) (by simpa using h3) (by simpa using h5) w

end Go.Proofs.Ytkpdlbcmnfphmaa
