/-
  Package frame, walked: Write, Tenant.
-/
import Derived.Test.YtkpdlbcmnfphmaaFmG
namespace Go.Proofs.Ytkpdlbcmnfphmaa
open Go.RowKit

def GivesOE (xs : List Int) (q : Int) (w : World) (e : Ending) (w' : World) : Prop := ∃ v, e = .returned (.tuple #[v, .int .i64 q]) ∧ w'.ownsRow w.heap.size 5 1 v xs.length (xs.map (Value.int .u8)) ∧ Below w.heap.size w w'
set_option maxRecDepth 100000 in
set_option maxHeartbeats 3200000 in
theorem wr_f (f : Frm) (h : ¬ f.Ok) (w : World) : Calls Try.prog 10 #[.agg (mcell f).toArray] w (GivesOE [] 8 w) := by
  have SV := Lib.hid (size_frm f)
  have SC := Lib.hid (size_cmd f.c)
  have SR := Lib.hid (size_req f.r)
  have DC := Lib.hid (mcell_c f)
  have DR := Lib.hid (mcell_r f)
  have DG := Lib.hid (mcell_g f)
  have CK := fun W => chk_is f (q := 8) (Lib.hid (Or.inr ⟨rfl, h⟩)) W
  have v0 : (mcell f)[0]? = some (.int .u8 f.kd) := by rfl
  have v1 := mcell_kt f; have v40 := mcell_ct f
  obtain ⟨V, hV⟩ : ∃ V, mcell f = V := ⟨_, rfl⟩
  obtain ⟨C, hC⟩ : ∃ V, ccell f.c = V := ⟨_, rfl⟩
  obtain ⟨R, hR⟩ : ∃ V, rcell f.r = V := ⟨_, rfl⟩
  rw [hV] at SV DC DR DG CK v0 v1 v40 ⊢
  rw [hC] at SC DC DR
  rw [hR] at SR DR
  clear hV hC hR h
  go_enter Try.func10, Try.ntmps10
  go_upto_region 1 with fail
  refine F_gen (F := fun W => Code.wp _ _ _ _ W) (J := fun W => Box W (w.heap.size) (V) ∧ Below w.heap.size w W) (And.intro (Box.newc rfl rfl) (by go_grown)) ?_
  intro w0 ⟨e_f, hB0⟩
  have hs0 := hB0.size
  have x_f0 := e_f; clear e_f
  go_wp2_with (refine wpList_load_box9 rfl _ _ rfl x_f0 rfl Try.underlying43 rfl SV.out ?_)
  refine (CK _).mono ?_
  rintro e w1 ⟨rfl, hb⟩
  have hB1 : Below w.heap.size w w1 := below_thru hB0 hb
  have hs1 := hB1.size
  have x_f1 : Box w1 (w.heap.size) (V) := Box.below x_f0 hb
  clear hB0 hs0 x_f0
  clear hb
  go_wp2_with fail
  go_returns
  exact ⟨_, rfl, ownU_nil, hB1⟩
set_option maxRecDepth 100000 in
set_option maxHeartbeats 3200000 in
theorem wr_1 (f : Frm) (h : f.Ok) (h0 : f.kd = 1) (w : World) : Calls Try.prog 10 #[.agg (mcell f).toArray] w (GivesOE (1 :: f.r.bs) 0 w) := by
  have SV := Lib.hid (size_frm f)
  have SC := Lib.hid (size_cmd f.c)
  have SR := Lib.hid (size_req f.r)
  have DC := Lib.hid (mcell_c f)
  have DR := Lib.hid (mcell_r f)
  have DG := Lib.hid (mcell_g f)
  have CK := fun W => chk_is f (q := 0) (Lib.hid (Or.inl ⟨rfl, h⟩)) W
  have v0 : (mcell f)[0]? = some (.int .u8 1) := by rw [← h0]; rfl
  have v1 := mcell_kt f; have v40 := mcell_ct f
  have RB := fun W => reqb_is f.r W
  obtain ⟨X, hX⟩ : ∃ X, 1 :: f.r.bs = X := ⟨_, rfl⟩
  rw [hX] at RB ⊢
  clear hX
  obtain ⟨V, hV⟩ : ∃ V, mcell f = V := ⟨_, rfl⟩
  obtain ⟨C, hC⟩ : ∃ V, ccell f.c = V := ⟨_, rfl⟩
  obtain ⟨R, hR⟩ : ∃ V, rcell f.r = V := ⟨_, rfl⟩
  rw [hV] at SV DC DR DG CK v0 v1 v40 ⊢
  rw [hC] at SC DC DR
  rw [hR] at SR DR RB
  clear hV hC hR h h0
  go_enter Try.func10, Try.ntmps10
  go_upto_region 1 with fail
  refine F_gen (F := fun W => Code.wp _ _ _ _ W) (J := fun W => Box W (w.heap.size) (V) ∧ Below w.heap.size w W) (And.intro (Box.newc rfl rfl) (by go_grown)) ?_
  intro w0 ⟨e_f, hB0⟩
  have hs0 := hB0.size
  have x_f0 := e_f; clear e_f
  go_wp2_with (refine wpList_load_box9 rfl _ _ rfl x_f0 rfl Try.underlying43 rfl SV.out ?_)
  refine (CK _).mono ?_
  rintro e w1 ⟨rfl, hb⟩
  have hB1 : Below w.heap.size w w1 := below_thru hB0 hb
  have hs1 := hB1.size
  have x_f1 : Box w1 (w.heap.size) (V) := Box.below x_f0 hb
  clear hB0 hs0 x_f0
  clear hb
  have ca := (x_f1).c 0 _ v0
  have za := (x_f1).lt
  go_wp2_with (refine wpList_load_rangew rfl _ _ rfl (Box.rangeMid x_f1 1 (R) (C) DR.out) rfl Try.underlying41 rfl SR.out ?_)
  refine (RB _).mono ?_
  rintro e w2 ⟨vr, rfl, ho, hb⟩
  have ho := ownR_base ho hs1
  have hB2 := below_thru hB1 hb
  clear hb ca za
  go_wp2_with fail
  go_returns
  exact ⟨_, rfl, ho, hB2⟩
set_option maxRecDepth 100000 in
set_option maxHeartbeats 3200000 in
theorem wr_2 (f : Frm) (h : f.Ok) (hc : f.c.wd) (h0 : f.kd = 2) (w : World) : Calls Try.prog 10 #[.agg (mcell f).toArray] w (GivesOE (f.c.msg ++ f.c.g) 0 w) := by
  have SV := Lib.hid (size_frm f)
  have SC := Lib.hid (size_cmd f.c)
  have SR := Lib.hid (size_req f.r)
  have DC := Lib.hid (mcell_c f)
  have DR := Lib.hid (mcell_r f)
  have DG := Lib.hid (mcell_g f)
  have CK := fun W => chk_is f (q := 0) (Lib.hid (Or.inl ⟨rfl, h⟩)) W
  have v0 : (mcell f)[0]? = some (.int .u8 2) := by rw [← h0]; rfl
  have v1 := mcell_kt f; have v40 := mcell_ct f
  have MR := fun W => msg_is f.c hc W
  have HM := Lib.hid (Cmd.msg_len hc)
  have HG := Lib.hid f.c.hg
  obtain ⟨M, hM⟩ : ∃ X, f.c.msg = X := ⟨_, rfl⟩
  rw [hM] at MR HM ⊢
  clear hM hc
  obtain ⟨V, hV⟩ : ∃ V, mcell f = V := ⟨_, rfl⟩
  obtain ⟨C, hC⟩ : ∃ V, ccell f.c = V := ⟨_, rfl⟩
  obtain ⟨R, hR⟩ : ∃ V, rcell f.r = V := ⟨_, rfl⟩
  rw [hV] at SV DC DR DG CK v0 v1 v40 ⊢
  rw [hC] at SC DC DR MR
  rw [hR] at SR DR
  clear hV hC hR h h0
  obtain ⟨G, hG⟩ : ∃ X, f.c.g = X := ⟨_, rfl⟩
  rw [hG] at HG DG ⊢
  clear hG
  go_enter Try.func10, Try.ntmps10
  go_upto_region 1 with fail
  refine F_gen (F := fun W => Code.wp _ _ _ _ W) (J := fun W => Box W (w.heap.size) (V) ∧ Below w.heap.size w W) (And.intro (Box.newc rfl rfl) (by go_grown)) ?_
  intro w0 ⟨e_f, hB0⟩
  have hs0 := hB0.size
  have x_f0 := e_f; clear e_f
  go_wp2_with (refine wpList_load_box9 rfl _ _ rfl x_f0 rfl Try.underlying43 rfl SV.out ?_)
  refine (CK _).mono ?_
  rintro e w1 ⟨rfl, hb⟩
  have hB1 : Below w.heap.size w w1 := below_thru hB0 hb
  have hs1 := hB1.size
  have x_f1 : Box w1 (w.heap.size) (V) := Box.below x_f0 hb
  clear hB0 hs0 x_f0
  clear hb
  have ca := (x_f1).c 0 _ v0
  have za := (x_f1).lt
  go_upto_region 6 with fail
  clear ca za
  refine wp_region_held_drew (S := fun W => Box W w.heap.size V) (by kernel_rfl) (x_f1).drew (fun _ => ?_)
  refine F_drew (F := fun W => wpAnyH _ _ _ _ _ _ _ _ W) ?_
  intro W0 hb0
  have xc0 := x_f1.below hb0; have Bc0 := below_thru hB1 hb0
  clear x_f1 hB1 hs1 hb0
  refine takeH 0 16 (v := ?vt0_1) rfl (by rfl) (by kernel_rfl) (by kernel_rfl) (by kernel_rfl) (fun _ _ _ h => h) (Or.inl ⟨by rfl, ?_⟩) (xc0) ?_
  rotate_left
  · intro wq hSq
    go_simp
    exact rfl
  try simp only [Act.put, List.setIfInBounds_toArray, List.set_cons_zero, List.set_cons_succ]
  refine takeH 3 19 (v := ?vt3_2) rfl (by rfl) (by kernel_rfl) (by kernel_rfl) (by kernel_rfl) (fun _ _ _ h => h) (Or.inl ⟨by rfl, ?_⟩) (xc0) ?_
  rotate_left
  · intro wq hSq
    go_simp
    exact rfl
  try simp only [Act.put, List.setIfInBounds_toArray, List.set_cons_zero, List.set_cons_succ]
  refine takeH 4 20 (v := ?vt4_3) rfl (by rfl) (by kernel_rfl) (by kernel_rfl) (by kernel_rfl) (fun _ _ _ h => h) (Or.inl ⟨by rfl, ?_⟩) (xc0) ?_
  rotate_left
  · intro wq hSq
    go_simp
    exact rfl
  try simp only [Act.put, List.setIfInBounds_toArray, List.set_cons_zero, List.set_cons_succ]
  refine takeH 5 21 (v := ?vt5_4) rfl (by rfl) (by kernel_rfl) (by kernel_rfl) (by kernel_rfl) (fun _ _ _ h => h) (Or.inl ⟨by rfl, ?_⟩) (xc0) ?_
  rotate_left
  · intro wq hSq
    go_simp
    exact rfl
  try simp only [Act.put, List.setIfInBounds_toArray, List.set_cons_zero, List.set_cons_succ]
  refine takeH 1 17 (v := .agg C.toArray) rfl (by rfl) (by kernel_rfl) (by kernel_rfl) (by kernel_rfl) (fun _ _ _ h => h) (yieldsIf_load_mid (by rfl) _ _ rfl _ _ rfl C _ (fun wq hq => Box.rangeMid hq 39 C [] DC.out) Try.underlying31 rfl SC.out) (xc0) ?_
  try simp only [Act.put, List.setIfInBounds_toArray, List.set_cons_zero, List.set_cons_succ]
  refine wpAnyH_ready (rs := [2]) (by kernel_rfl) (by simp) (AllReadyH.cons rfl (fun K hK => ?_) AllReadyH.nil)
  go_simp
  refine (MR _).mono ?_
  rintro e W5 ⟨vm, rfl, hm, hb5⟩
  have xc5 := Box.below xc0 hb5; have Bc5 := below_thru Bc0 hb5
  clear xc0 Bc0
  obtain ⟨am, cm, rfl, hm2⟩ := id hm
  clear hm2 hb5
  have Jc5 := Lib.hid hm
  clear hm
  refine hK.out _ _ xc5 (fun _ => ?_); clear hK K
  refine wpAnyH_ready (rs := [6]) (by kernel_rfl) (by simp) (AllReadyH.cons rfl (fun K hK => ?_) AllReadyH.nil)
  go_simp
  refine hK.out _ _ (Box.alloc xc5 _) (fun _ => ?_); clear hK K
  refine F_gen (F := fun W => wpAnyH _ _ _ _ _ _ _ _ W) (J := fun W => Box W W5.heap.size [.slice am M.length cm, .slice (some ⟨w.heap.size, 54, none⟩) 32 32] ∧ Below W5.heap.size W5 W) (And.intro (Box.newc rfl rfl) ((Below.refl _ _).alloc (Nat.le_refl _) _)) ?_
  intro W6 ⟨hv, hb6⟩
  have xc6 := Box.below xc5 hb6; have Bc6 := below_thru Bc5 hb6
  clear xc5 Bc5
  have Jc6 := Lib.hid (Jc5.out.below hb6)
  refine wpAnyH_ready (rs := [7]) (by kernel_rfl) (by simp) (AllReadyH.cons rfl (fun K hK => ?_) AllReadyH.nil)
  go_simp
  have L2 := IsL.range 32 32 HG.out (Box.rangeMid xc6 54 (G.map (Value.int .u8)) [] DG.out) (by omega) (by omega)
  have C := concat_is (n := 2) (xss := [M, G]) _ hv (fun i v xs h1 h2 => by match i, h1, h2 with | 0, h1, h2 => (cases h1; cases h2; exact Jc6.out) | 1, h1, h2 => (cases h1; cases h2; exact L2)) rfl rfl (by decide) (by simp [HM.out, HG.out])
  rw [show [M, G].flatten = M ++ G by simp] at C
  refine C.mono ?_
  rintro e W7 ⟨vr, rfl, ho, hb7⟩
  have ho := ownR_base ho (Below.size Bc6)
  clear L2 C
  have xc7 := Box.below xc6 hb7; have Bc7 := below_thru Bc6 hb7
  clear xc6 Bc6
  refine hK.out _ _ xc7 (fun _ => ?_); clear hK K
  refine takeH 8 2 (v := ?vt8_8) rfl (by rfl) (by kernel_rfl) (by kernel_rfl) (by kernel_rfl) (fun _ _ _ h => h) (Or.inl ⟨by rfl, ?_⟩) (xc7) ?_
  rotate_left
  · intro wq hSq
    go_simp
    exact rfl
  try simp only [Act.put, List.setIfInBounds_toArray, List.set_cons_zero, List.set_cons_succ]
  refine takeH 9 3 (v := ?vt9_9) rfl (by rfl) (by kernel_rfl) (by kernel_rfl) (by kernel_rfl) (fun _ _ _ h => h) (Or.inl ⟨by rfl, ?_⟩) (xc7) ?_
  rotate_left
  · intro wq hSq
    go_simp
    exact rfl
  try simp only [Act.put, List.setIfInBounds_toArray, List.set_cons_zero, List.set_cons_succ]
  refine wpAnyH_done (by kernel_rfl) ?_ _
  go_wp2_with fail
  go_returns
  exact ⟨_, rfl, ho, Bc7⟩
theorem wr_is (f : Frm) {xs : List Int} {q : Int} (h : (q = 0 ∧ f.Ok ∧ xs = f.bs) ∨ (q = 8 ∧ ¬ f.Ok ∧ xs = [])) (w : World) : Calls Try.prog 10 #[.agg (mcell f).toArray] w (GivesOE xs q w) := by
  rcases h with ⟨rfl, h, rfl⟩ | ⟨rfl, h, rfl⟩
  · rcases Frm.ok_two h with ⟨_, _, h0, e, _⟩ | ⟨_, hc, h0, e, _⟩
    · rw [e]
      exact wr_1 f h h0 w
    · rw [e]
      exact wr_2 f h (Cmd.ok_wd hc) h0 w
  · exact wr_f f h w

set_option maxRecDepth 100000 in
set_option maxHeartbeats 3200000 in
theorem ten_f (f : Frm) (h : ¬ f.Ok) (w : World) : Calls Try.prog 14 #[.agg (mcell f).toArray] w (fun e w' => e = .returned (.tuple #[.int .u32 0, .int .i64 8]) ∧ Below w.heap.size w w') := by
  have SV := Lib.hid (size_frm f)
  have SC := Lib.hid (size_cmd f.c)
  have SR := Lib.hid (size_req f.r)
  have DC := Lib.hid (mcell_c f)
  have DR := Lib.hid (mcell_r f)
  have DG := Lib.hid (mcell_g f)
  have CK := fun W => chk_is f (q := 8) (Lib.hid (Or.inr ⟨rfl, h⟩)) W
  have v0 : (mcell f)[0]? = some (.int .u8 f.kd) := by rfl
  have v1 := mcell_kt f; have v40 := mcell_ct f
  obtain ⟨V, hV⟩ : ∃ V, mcell f = V := ⟨_, rfl⟩
  obtain ⟨C, hC⟩ : ∃ V, ccell f.c = V := ⟨_, rfl⟩
  obtain ⟨R, hR⟩ : ∃ V, rcell f.r = V := ⟨_, rfl⟩
  rw [hV] at SV DC DR DG CK v0 v1 v40 ⊢
  rw [hC] at SC DC DR
  rw [hR] at SR DR
  clear hV hC hR h
  go_enter Try.func14, Try.ntmps14
  go_upto_region 1 with fail
  refine F_gen (F := fun W => Code.wp _ _ _ _ W) (J := fun W => Box W (w.heap.size) (V) ∧ Below w.heap.size w W) (And.intro (Box.newc rfl rfl) (by go_grown)) ?_
  intro w0 ⟨e_f, hB0⟩
  have hs0 := hB0.size
  have x_f0 := e_f; clear e_f
  go_wp2_with (refine wpList_load_box9 rfl _ _ rfl x_f0 rfl Try.underlying43 rfl SV.out ?_)
  refine (CK _).mono ?_
  rintro e w1 ⟨rfl, hb⟩
  have hB1 : Below w.heap.size w w1 := below_thru hB0 hb
  have hs1 := hB1.size
  have x_f1 : Box w1 (w.heap.size) (V) := Box.below x_f0 hb
  clear hB0 hs0 x_f0
  clear hb
  go_wp2_with fail
  go_returns
  exact ⟨rfl, hB1⟩
set_option maxRecDepth 100000 in
set_option maxHeartbeats 3200000 in
theorem ten_1 (f : Frm) (h : f.Ok) (h0 : f.kd = 1) (w : World) : Calls Try.prog 14 #[.agg (mcell f).toArray] w (fun e w' => e = .returned (.tuple #[.int .u32 f.r.k.t, .int .i64 0]) ∧ Below w.heap.size w w') := by
  have SV := Lib.hid (size_frm f)
  have SC := Lib.hid (size_cmd f.c)
  have SR := Lib.hid (size_req f.r)
  have DC := Lib.hid (mcell_c f)
  have DR := Lib.hid (mcell_r f)
  have DG := Lib.hid (mcell_g f)
  have CK := fun W => chk_is f (q := 0) (Lib.hid (Or.inl ⟨rfl, h⟩)) W
  have v0 : (mcell f)[0]? = some (.int .u8 1) := by rw [← h0]; rfl
  have v1 := mcell_kt f; have v40 := mcell_ct f
  obtain ⟨V, hV⟩ : ∃ V, mcell f = V := ⟨_, rfl⟩
  obtain ⟨C, hC⟩ : ∃ V, ccell f.c = V := ⟨_, rfl⟩
  obtain ⟨R, hR⟩ : ∃ V, rcell f.r = V := ⟨_, rfl⟩
  rw [hV] at SV DC DR DG CK v0 v1 v40 ⊢
  rw [hC] at SC DC DR
  rw [hR] at SR DR
  clear hV hC hR h h0
  go_enter Try.func14, Try.ntmps14
  go_upto_region 1 with fail
  refine F_gen (F := fun W => Code.wp _ _ _ _ W) (J := fun W => Box W (w.heap.size) (V) ∧ Below w.heap.size w W) (And.intro (Box.newc rfl rfl) (by go_grown)) ?_
  intro w0 ⟨e_f, hB0⟩
  have hs0 := hB0.size
  have x_f0 := e_f; clear e_f
  go_wp2_with (refine wpList_load_box9 rfl _ _ rfl x_f0 rfl Try.underlying43 rfl SV.out ?_)
  refine (CK _).mono ?_
  rintro e w1 ⟨rfl, hb⟩
  have hB1 : Below w.heap.size w w1 := below_thru hB0 hb
  have hs1 := hB1.size
  have x_f1 : Box w1 (w.heap.size) (V) := Box.below x_f0 hb
  clear hB0 hs0 x_f0
  clear hb
  have ca := (x_f1).c 0 _ v0
  have za := (x_f1).lt
  have cb := (x_f1).c 1 _ v1
  have zb := (x_f1).lt
  go_wp2_with fail
  go_returns
  exact ⟨rfl, hB1⟩
set_option maxRecDepth 100000 in
set_option maxHeartbeats 3200000 in
theorem ten_2 (f : Frm) (h : f.Ok) (h0 : f.kd = 2) (w : World) : Calls Try.prog 14 #[.agg (mcell f).toArray] w (fun e w' => e = .returned (.tuple #[.int .u32 f.c.t, .int .i64 0]) ∧ Below w.heap.size w w') := by
  have SV := Lib.hid (size_frm f)
  have SC := Lib.hid (size_cmd f.c)
  have SR := Lib.hid (size_req f.r)
  have DC := Lib.hid (mcell_c f)
  have DR := Lib.hid (mcell_r f)
  have DG := Lib.hid (mcell_g f)
  have CK := fun W => chk_is f (q := 0) (Lib.hid (Or.inl ⟨rfl, h⟩)) W
  have v0 : (mcell f)[0]? = some (.int .u8 2) := by rw [← h0]; rfl
  have v1 := mcell_kt f; have v40 := mcell_ct f
  obtain ⟨V, hV⟩ : ∃ V, mcell f = V := ⟨_, rfl⟩
  obtain ⟨C, hC⟩ : ∃ V, ccell f.c = V := ⟨_, rfl⟩
  obtain ⟨R, hR⟩ : ∃ V, rcell f.r = V := ⟨_, rfl⟩
  rw [hV] at SV DC DR DG CK v0 v1 v40 ⊢
  rw [hC] at SC DC DR
  rw [hR] at SR DR
  clear hV hC hR h h0
  go_enter Try.func14, Try.ntmps14
  go_upto_region 1 with fail
  refine F_gen (F := fun W => Code.wp _ _ _ _ W) (J := fun W => Box W (w.heap.size) (V) ∧ Below w.heap.size w W) (And.intro (Box.newc rfl rfl) (by go_grown)) ?_
  intro w0 ⟨e_f, hB0⟩
  have hs0 := hB0.size
  have x_f0 := e_f; clear e_f
  go_wp2_with (refine wpList_load_box9 rfl _ _ rfl x_f0 rfl Try.underlying43 rfl SV.out ?_)
  refine (CK _).mono ?_
  rintro e w1 ⟨rfl, hb⟩
  have hB1 : Below w.heap.size w w1 := below_thru hB0 hb
  have hs1 := hB1.size
  have x_f1 : Box w1 (w.heap.size) (V) := Box.below x_f0 hb
  clear hB0 hs0 x_f0
  clear hb
  have ca := (x_f1).c 0 _ v0
  have za := (x_f1).lt
  have cb := (x_f1).c 40 _ v40
  have zb := (x_f1).lt
  go_wp2_with fail
  go_returns
  exact ⟨rfl, hB1⟩
theorem ten_is (f : Frm) {n q : Int} (h : (q = 0 ∧ f.Ok ∧ n = f.te) ∨ (q = 8 ∧ ¬ f.Ok ∧ n = 0)) (w : World) : Calls Try.prog 14 #[.agg (mcell f).toArray] w fun e w' => e = .returned (.tuple #[.int .u32 n, .int .i64 q]) ∧ Below w.heap.size w w' := by
  rcases h with ⟨rfl, h, rfl⟩ | ⟨rfl, h, rfl⟩
  · unfold Frm.te
    rcases Frm.ok_two h with ⟨_, _, h0, _, _⟩ | ⟨_, _, h0, _, _⟩
    · rw [if_neg (by omega)]
      exact ten_1 f h h0 w
    · rw [if_pos h0]
      exact ten_2 f h h0 w
  · exact ten_f f h w

end Go.Proofs.Ytkpdlbcmnfphmaa
