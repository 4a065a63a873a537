/-
  The reference of layer 9, walked: Of, Bytes, Write, Tenant, Before.
-/
import Derived.Test.YtkpdlbcmnfphmaaRFmB
import Derived.Test.YtkpdlbcmnfphmaaRFmC
import Derived.Test.YtkpdlbcmnfphmaaFmH
import Derived.Test.YtkpdlbcmnfphmaaGP5
namespace Go.Proofs.Ytkpdlbcmnfphmaa
open Go.RowKit

set_option maxRecDepth 100000 in
set_option maxHeartbeats 6400000 in
theorem rof_2 (f : Frm) (h0 : f.kd = 2) (w : World) : Calls Try.prog 31 #[.agg (mcell f).toArray] w fun e w' => e = .returned (.int .u32 f.c.t) ∧ Below w.heap.size w w' := by
  have SV := Lib.hid (size_frm f); have SC := Lib.hid (size_cmd f.c); have DC := Lib.hid (mcell_c f); have DG := Lib.hid (mcell_g f); have ST := Lib.hid (size_tok f.r.k f.r.hg); have DT := Lib.hid (mcell_t f)
  have v0 : (mcell f)[0]? = some (.int .u8 2) := by rw [← h0]; rfl
  have v1 := mcell_kt f; have v40 := mcell_ct f; have v37 := mcell_ep f; have v38 := mcell_co f
  obtain ⟨V, hV⟩ : ∃ V, mcell f = V := ⟨_, rfl⟩
  rw [hV] at SV DC DG DT v0 v1 v40 v37 v38 ⊢
  clear hV
  clear h0
  go_enter Try.func31, Try.ntmps31
  go_upto_region 1 with fail
  refine F_gen (F := fun W => Code.wp _ _ _ _ W) (J := fun W => Box W (w.heap.size) (V) ∧ Below w.heap.size w W) (And.intro (Box.newc rfl rfl) (by go_grown)) ?_
  intro w0 ⟨e_f, hB0⟩
  have hs0 := hB0.size
  have x_f0 := e_f; clear e_f
  have ca := (x_f0).c 0 _ v0
  have za := (x_f0).lt
  have cb := (x_f0).c 40 _ v40
  have zb := (x_f0).lt
  go_wp2_with fail
  go_returns
  exact ⟨rfl, hB0⟩
set_option maxRecDepth 100000 in
set_option maxHeartbeats 6400000 in
theorem rof_1 (f : Frm) (e0 : (f.kd == 2) = false) (w : World) : Calls Try.prog 31 #[.agg (mcell f).toArray] w fun e w' => e = .returned (.int .u32 f.r.k.t) ∧ Below w.heap.size w w' := by
  have SV := Lib.hid (size_frm f); have SC := Lib.hid (size_cmd f.c); have DC := Lib.hid (mcell_c f); have DG := Lib.hid (mcell_g f); have ST := Lib.hid (size_tok f.r.k f.r.hg); have DT := Lib.hid (mcell_t f)
  have v0 : (mcell f)[0]? = some (.int .u8 f.kd) := by rfl
  have v1 := mcell_kt f; have v40 := mcell_ct f; have v37 := mcell_ep f; have v38 := mcell_co f
  obtain ⟨V, hV⟩ : ∃ V, mcell f = V := ⟨_, rfl⟩
  rw [hV] at SV DC DG DT v0 v1 v40 v37 v38 ⊢
  clear hV
  go_enter Try.func31, Try.ntmps31
  go_upto_region 1 with fail
  refine F_gen (F := fun W => Code.wp _ _ _ _ W) (J := fun W => Box W (w.heap.size) (V) ∧ Below w.heap.size w W) (And.intro (Box.newc rfl rfl) (by go_grown)) ?_
  intro w0 ⟨e_f, hB0⟩
  have hs0 := hB0.size
  have x_f0 := e_f; clear e_f
  have ca := (x_f0).c 0 _ v0
  have za := (x_f0).lt
  have cb := (x_f0).c 1 _ v1
  have zb := (x_f0).lt
  go_wp2_with fail
  go_returns
  exact ⟨rfl, hB0⟩
theorem rof_is (f : Frm) (w : World) : Calls Try.prog 31 #[.agg (mcell f).toArray] w fun e w' => e = .returned (.int .u32 f.te) ∧ Below w.heap.size w w' := by
  unfold Frm.te
  by_cases h : f.kd = 2
  · rw [if_pos h]
    exact rof_2 f h w
  · rw [if_neg h]
    exact rof_1 f (by simpa using h) w

set_option maxRecDepth 100000 in
set_option maxHeartbeats 6400000 in
theorem rby_2 (f : Frm) (h0 : f.kd = 2) (hw : f.c.wd) (w : World) : Calls Try.prog 30 #[.agg (mcell f).toArray] w (GivesOwn (f.c.msg ++ f.c.g) w) := by
  obtain ⟨ti, hin, hz0, hz1, hz2⟩ := info_parts info_u8'
  have SV := Lib.hid (size_frm f); have SC := Lib.hid (size_cmd f.c); have DC := Lib.hid (mcell_c f); have DG := Lib.hid (mcell_g f); have ST := Lib.hid (size_tok f.r.k f.r.hg); have DT := Lib.hid (mcell_t f)
  have v0 : (mcell f)[0]? = some (.int .u8 2) := by rw [← h0]; rfl
  have v1 := mcell_kt f; have v40 := mcell_ct f; have v37 := mcell_ep f; have v38 := mcell_co f
  have RM := fun W => rmsg9_is f.c hw W
  have HM := Lib.hid (Cmd.msg_len hw); have HG := Lib.hid f.c.hg; have HX : Hid ((f.c.msg ++ f.c.g).length = 88) := Lib.hid (by rw [List.length_append, Cmd.msg_len hw, f.c.hg])
  have HQ : Hid (f.c.msg.map (Value.int .u8) ++ f.c.g.map (Value.int .u8) = (f.c.msg ++ f.c.g).map (Value.int .u8)) := Lib.hid (by rw [List.map_append])
  obtain ⟨X, hX⟩ : ∃ X, f.c.msg ++ f.c.g = X := ⟨_, rfl⟩
  obtain ⟨M, hM⟩ : ∃ X, f.c.msg = X := ⟨_, rfl⟩
  obtain ⟨G, hG⟩ : ∃ X, f.c.g = X := ⟨_, rfl⟩
  obtain ⟨C, hC⟩ : ∃ X, ccell f.c = X := ⟨_, rfl⟩
  rw [hX] at HX HQ ⊢
  rw [hM] at RM HM HQ
  rw [hG] at HG HQ DG
  rw [hC] at RM SC DC
  obtain ⟨V, hV⟩ : ∃ V, mcell f = V := ⟨_, rfl⟩
  rw [hV] at SV DC DG DT v0 v1 v40 v37 v38 ⊢
  clear hV
  clear h0 hw hX hM hG hC
  go_enter Try.func30, Try.ntmps30
  go_upto_region 1 with fail
  refine F_gen (F := fun W => Code.wp _ _ _ _ W) (J := fun W => Box W (w.heap.size) (V) ∧ Below w.heap.size w W) (And.intro (Box.newc rfl rfl) (by go_grown)) ?_
  intro w0 ⟨e_f, hB0⟩
  have hs0 := hB0.size
  have x_f0 := e_f; clear e_f
  have ca := (x_f0).c 0 _ v0
  have za := (x_f0).lt
  go_upto_region 2 with fail
  clear ca za
  refine wp_region_held_drew (S := fun W => Box W (w.heap.size) (V)) (by kernel_rfl) (x_f0).drew (fun _ => ?_)
  refine F_drew (F := fun W => wpAnyH _ _ _ _ _ _ _ _ W) ?_
  intro Ws0 hbs0
  clear hs0
  have x_f_s0 : Box Ws0 (w.heap.size) (V) := Box.below x_f0 hbs0
  have Bs0 := below_thru hB0 hbs0
  clear x_f0 hB0 hbs0
  refine takeH 0 7 (v := ?vs0_1) rfl (by rfl) (by kernel_rfl) (by kernel_rfl) (by kernel_rfl) (fun _ _ _ h => h) (Or.inl ⟨by rfl, ?_⟩) (x_f_s0) ?_
  rotate_left
  · intro wq hSq
    go_simp
    exact rfl
  try simp only [Act.put, List.setIfInBounds_toArray, List.set_cons_zero, List.set_cons_succ]
  refine takeH 3 10 (v := ?vs3_2) rfl (by rfl) (by kernel_rfl) (by kernel_rfl) (by kernel_rfl) (fun _ _ _ h => h) (Or.inl ⟨by rfl, ?_⟩) (x_f_s0) ?_
  rotate_left
  · intro wq hSq
    go_simp
    exact rfl
  try simp only [Act.put, List.setIfInBounds_toArray, List.set_cons_zero, List.set_cons_succ]
  refine takeH 4 11 (v := ?vs4_3) rfl (by rfl) (by kernel_rfl) (by kernel_rfl) (by kernel_rfl) (fun _ _ _ h => h) (Or.inl ⟨by rfl, ?_⟩) (x_f_s0) ?_
  rotate_left
  · intro wq hSq
    go_simp
    exact rfl
  try simp only [Act.put, List.setIfInBounds_toArray, List.set_cons_zero, List.set_cons_succ]
  refine takeH 5 12 (v := ?vs5_4) rfl (by rfl) (by kernel_rfl) (by kernel_rfl) (by kernel_rfl) (fun _ _ _ h => h) (Or.inl ⟨by rfl, ?_⟩) (x_f_s0) ?_
  rotate_left
  · intro wq hSq
    go_simp
    exact rfl
  try simp only [Act.put, List.setIfInBounds_toArray, List.set_cons_zero, List.set_cons_succ]
  refine takeH 1 8 (v := .agg (C).toArray) rfl (by rfl) (by kernel_rfl) (by kernel_rfl) (by kernel_rfl) (fun _ _ _ h => h) (yieldsIf_load_mid (by rfl) _ _ rfl _ _ rfl (C) _ (fun wq hq => Box.rangeMid (hq) 39 (C) ([]) DC.out) Try.underlying31 rfl SC.out) (x_f_s0) ?_
  try simp only [Act.put, List.setIfInBounds_toArray, List.set_cons_zero, List.set_cons_succ]
  refine wpAnyH_ready (rs := [2]) (by kernel_rfl) (by simp) (AllReadyH.cons rfl (fun K hK => ?_) AllReadyH.nil)
  have pz5 := (x_f_s0).lt
  go_simp
  refine (RM _).mono ?_
  rintro e Ws5 ⟨vm, rfl, hom, hbs5⟩
  have x_f_s5 : Box Ws5 (w.heap.size) (V) := Box.below x_f_s0 hbs5
  have Bs5 := below_thru Bs0 hbs5
  clear x_f_s0 Bs0 hbs5
  have o_r_s5 := Lib.hid (ownR_base hom (pz5 : w.heap.size + 1 ≤ _))
  rw [HM.out] at o_r_s5
  clear hom pz5
  refine hK.out _ _ x_f_s5 (fun _ => ?_); clear hK K
  refine wpAnyH_ready (rs := [6]) (by kernel_rfl) (by simp) (AllReadyH.cons rfl (fun K hK => ?_) AllReadyH.nil)
  have j_g_s907 : Hid (IsL Ws5 .u8 (.slice (some ⟨w.heap.size, 54, none⟩) 32 32) (G)) := Lib.hid (IsL.range 32 32 HG.out (Box.rangeMid x_f_s5 54 (G.map (Value.int .u8)) [] DG.out) (by omega) (by omega))
  have zz6 : w.heap.size + 1 ≤ Ws5.heap.size := (x_f_s5).lt
  refine step_append_intsG 13 rfl rfl _ _ 33 rfl (w.heap.size + 1) 5 ti _ 1 .u8 Try.underlying33 hin hz0 hz1 hz2 rfl _ (56) _ rfl o_r_s5.out _ (G) rfl j_g_s907.out (by unfold maxLen; rw [HG.out]; decide) (by rw [HG.out]; decide) zz6 ?_
  intro vs6 Ws6 hown hgr
  have hKB := (Below.refl (w.heap.size + 1) _).grown hgr zz6 (ownR_block o_r_s5.out)
  have x_f_s6 : Box Ws6 (w.heap.size) (V) := Box.keepR x_f_s5 hKB (by omega)
  rw [HG.out, HQ.out] at hown
  have o_r_s6 := Lib.hid hown
  have Bs6 := (Bs5).trans (hKB.mono (by omega))
  clear x_f_s5 o_r_s5 j_g_s907 Bs5 hown hgr hKB zz6
  refine hK.out _ _ x_f_s6 (fun _ => ?_); clear hK K
  refine takeH 7 2 (v := ?vs7_8) rfl (by rfl) (by kernel_rfl) (by kernel_rfl) (by kernel_rfl) (fun _ _ _ h => h) (Or.inl ⟨by rfl, ?_⟩) (x_f_s6) ?_
  rotate_left
  · intro wq hSq
    go_simp
    exact rfl
  try simp only [Act.put, List.setIfInBounds_toArray, List.set_cons_zero, List.set_cons_succ]
  refine wpAnyH_done (by kernel_rfl) ?_ _
  have ho := o_r_s6.out
  go_wp2_with fail
  go_returns
  exact ⟨vs6, rfl, ownR_base (by rw [HX.out]; exact ho) (by omega), Bs6⟩

set_option maxRecDepth 100000 in
set_option maxHeartbeats 6400000 in
theorem rby_1 (f : Frm) (e0 : (f.kd == 2) = false) (w : World) : Calls Try.prog 30 #[.agg (mcell f).toArray] w (GivesOwn (1 :: f.r.bs) w) := by
  obtain ⟨ti, hin, hz0, hz1, hz2⟩ := info_parts info_u8'
  have SV := Lib.hid (size_frm f); have SC := Lib.hid (size_cmd f.c); have DC := Lib.hid (mcell_c f); have DG := Lib.hid (mcell_g f); have ST := Lib.hid (size_tok f.r.k f.r.hg); have DT := Lib.hid (mcell_t f)
  have v0 : (mcell f)[0]? = some (.int .u8 f.kd) := by rfl
  have v1 := mcell_kt f; have v40 := mcell_ct f; have v37 := mcell_ep f; have v38 := mcell_co f
  have WT := fun W => rwrite_is f.r.k f.r.hg W
  have hep := f.r.hep; have hco := f.r.hco
  have we : IntKind.u64.wrap f.r.ep = f.r.ep := by rw [IntKind.wrap_u64]; omega
  have wc : IntKind.u64.wrap f.r.co = f.r.co := by rw [IntKind.wrap_u64]; omega
  have CE := fun W => rbytes_own f.r.ep 2 W hep.1 (by omega) (by omega)
  have CC := fun W => rbytes_own f.r.co 4 W hco.1 (by omega) (by omega)
  have LE := Lib.hid (be_len 2 f.r.ep); have LC := Lib.hid (be_len 4 f.r.co)
  have LT : Hid ((f.r.k.msg ++ f.r.g).length = 52) := Lib.hid (by rw [List.length_append, f.r.k.msg_len, f.r.hg])
  have HX : Hid ((1 :: f.r.bs).length = 59) := Lib.hid (by rw [List.length_cons, f.r.bs_len])
  have EX : (1 :: f.r.bs) = (1 :: (f.r.k.msg ++ f.r.g)) ++ be 2 f.r.ep ++ be 4 f.r.co := by unfold Req.bs; simp
  rw [EX] at HX ⊢
  clear EX
  obtain ⟨TT, hT⟩ : ∃ X, f.r.k.msg ++ f.r.g = X := ⟨_, rfl⟩
  obtain ⟨E, hE⟩ : ∃ X, be 2 f.r.ep = X := ⟨_, rfl⟩
  obtain ⟨KO, hK⟩ : ∃ X, be 4 f.r.co = X := ⟨_, rfl⟩
  rw [hT] at WT LT HX ⊢
  rw [hE] at CE LE HX ⊢
  rw [hK] at CC LC HX ⊢
  have HQ1 : Hid ([Value.int .u8 1] ++ TT.map (Value.int .u8) = (1 :: TT).map (Value.int .u8)) := Lib.hid rfl
  obtain ⟨Q1, hQ1⟩ : ∃ X, 1 :: TT = X := ⟨_, rfl⟩
  rw [hQ1] at HQ1 HX ⊢
  obtain ⟨Q2, hQ2⟩ : ∃ X, Q1 ++ E = X := ⟨_, rfl⟩
  have HQ2 : Hid (Q1.map (Value.int .u8) ++ E.map (Value.int .u8) = Q2.map (Value.int .u8)) := Lib.hid (by rw [← hQ2, List.map_append])
  rw [hQ2] at HX ⊢
  obtain ⟨Q3, hQ3⟩ : ∃ X, Q2 ++ KO = X := ⟨_, rfl⟩
  have HQ3 : Hid (Q2.map (Value.int .u8) ++ KO.map (Value.int .u8) = Q3.map (Value.int .u8)) := Lib.hid (by rw [← hQ3, List.map_append])
  rw [hQ3] at HX ⊢
  obtain ⟨TC, hTC⟩ : ∃ X, tcell f.r.k f.r.g = X := ⟨_, rfl⟩
  rw [hTC] at ST DT WT
  obtain ⟨TR, hTR⟩ : ∃ X, (Value.int .u16 f.r.ep :: .int .u32 f.r.co :: ccell f.c) = X := ⟨_, rfl⟩
  rw [hTR] at DT
  obtain ⟨V, hV⟩ : ∃ V, mcell f = V := ⟨_, rfl⟩
  rw [hV] at SV DC DG DT v0 v1 v40 v37 v38 ⊢
  clear hV
  clear hep hco hT hE hK hQ1 hQ2 hQ3 hTC hTR
  go_enter Try.func30, Try.ntmps30
  go_upto_region 1 with fail
  refine F_gen (F := fun W => Code.wp _ _ _ _ W) (J := fun W => Box W (w.heap.size) (V) ∧ Below w.heap.size w W) (And.intro (Box.newc rfl rfl) (by go_grown)) ?_
  intro w0 ⟨e_f, hB0⟩
  have hs0 := hB0.size
  have x_f0 := e_f; clear e_f
  have ca := (x_f0).c 0 _ v0
  have za := (x_f0).lt
  have zz := (x_f0).lt
  have HOA : (w0.alloc (.cells #[.int .u8 1] 5)).ownsRow (w.heap.size + 1) 5 1 (.slice (some ⟨w0.heap.size, 0, none⟩) 1 1) 1 [.int .u8 1] := World.ownsRow_lit (base := w.heap.size + 1) (size := 1) w0 #[.int .u8 1] 1 zz (by unfold maxLen; omega) rfl
  go_wp2_with (refine wpList_load_rangew rfl _ _ rfl (Box.rangeMid (x_f0.alloc (.cells #[.int .u8 1] 5)) 1 (TC) (TR) DT.out) rfl Try.underlying38 rfl ST.out ?_)
  refine (WT _).mono ?_
  rintro e w1 ⟨vt, rfl, hot, hb⟩
  have O1 := ownR_below HOA hb
  have hN : Below w0.heap.size w0 w1 := below_thru ((Below.refl _ _).alloc (Nat.le_refl _) _) hb
  clear HOA hb ca za
  have hB1 : Below w.heap.size w w1 := below_thru hB0 hN
  have hs1 := hB1.size
  have x_f1 : Box w1 (w.heap.size) (V) := Box.below x_f0 hN
  clear hB0 hs0 x_f0
  clear hN
  have hT := IsL.own hot rfl
  obtain ⟨at1, ct1, rfl, iT, zT⟩ := hT
  clear hot
  have zz1 := (x_f1).lt
  go_upto_region 4 with (at_builtin; refine wpList_append_ints rfl _ _ 33 rfl (w.heap.size + 1) 5 ti _ 1 .u8 Try.underlying33 hin hz0 hz1 hz2 rfl _ 1 _ rfl O1 at1 ct1 TT rfl iT zT (by unfold maxLen; rw [LT.out]; decide) (by rw [LT.out]; decide) zz1 ?_; intro v4 w4 hown4 hgrow4)
  have hKB := (Below.refl (w.heap.size + 1) _).grown hgrow4 zz1 (ownR_block O1)
  have x_f2 : Box w4 w.heap.size V := Box.keepR x_f1 hKB (Nat.lt_succ_self _)
  have hB2 := (hB1).trans (hKB.mono (Nat.le_succ _)); have hs2 := hB2.size
  rw [LT.out, HQ1.out] at hown4
  have O_r2 := Lib.hid hown4
  clear hown4 hgrow4 hKB O1 iT zT zz zz1 x_f1 hB1 hs1
  refine wp_region_held_drew (S := fun W => Box W (w.heap.size) (V)) (by kernel_rfl) (x_f2).drew (fun _ => ?_)
  refine F_drew (F := fun W => wpAnyH _ _ _ _ _ _ _ _ W) ?_
  intro Wz0 hbz0
  clear hs2
  have x_f_z0 : Box Wz0 (w.heap.size) (V) := Box.below x_f2 hbz0
  have o_r_z0 := Lib.hid (ownR_below O_r2.out hbz0)
  have Bz0 := below_thru hB2 hbz0
  clear x_f2 O_r2 hB2 hbz0
  refine takeH 0 20 (v := ?vz0_1) rfl (by rfl) (by kernel_rfl) (by kernel_rfl) (by kernel_rfl) (fun _ _ _ h => h) (Or.inl ⟨by rfl, ?_⟩) (x_f_z0) ?_
  rotate_left
  · intro wq hSq
    go_simp
    exact rfl
  try simp only [Act.put, List.setIfInBounds_toArray, List.set_cons_zero, List.set_cons_succ]
  refine takeH 1 21 (v := ?vz1_2) rfl (by rfl) (by kernel_rfl) (by kernel_rfl) (by kernel_rfl) (fun _ _ _ h => h) (Or.inl ⟨by rfl, ?_⟩) (x_f_z0) ?_
  rotate_left
  · intro wq hSq
    go_simp
    exact rfl
  try simp only [Act.put, List.setIfInBounds_toArray, List.set_cons_zero, List.set_cons_succ]
  refine takeH 2 22 (v := ?vz2_3) rfl (by rfl) (by kernel_rfl) (by kernel_rfl) (by kernel_rfl) (fun _ _ _ h => h) (Or.inl ⟨by rfl, ?_⟩) (x_f_z0) ?_
  rotate_left
  · intro wq hSq
    go_simp
    exact rfl
  try simp only [Act.put, List.setIfInBounds_toArray, List.set_cons_zero, List.set_cons_succ]
  refine takeH 3 23 (v := ?vz3_4) rfl (by rfl) (by kernel_rfl) (by kernel_rfl) (by kernel_rfl) (fun _ _ _ h => h) (Or.inl ⟨by rfl, ?_⟩) (x_f_z0) ?_
  rotate_left
  · intro wq hSq
    have cq := (hSq).c 37 _ v37
    have zq := lt_of_cell cq
    go_simp
    exact rfl
  try simp only [Act.put, List.setIfInBounds_toArray, List.set_cons_zero, List.set_cons_succ]
  refine takeH 4 24 (v := ?vz4_5) rfl (by rfl) (by kernel_rfl) (by kernel_rfl) (by kernel_rfl) (fun _ _ _ h => h) (Or.inl ⟨by rfl, ?_⟩) (x_f_z0) ?_
  rotate_left
  · intro wq hSq
    go_simp
    exact rfl
  try simp only [Act.put, List.setIfInBounds_toArray, List.set_cons_zero, List.set_cons_succ]
  refine takeH 7 27 (v := ?vz7_6) rfl (by rfl) (by kernel_rfl) (by kernel_rfl) (by kernel_rfl) (fun _ _ _ h => h) (Or.inl ⟨by rfl, ?_⟩) (x_f_z0) ?_
  rotate_left
  · intro wq hSq
    go_simp
    exact rfl
  try simp only [Act.put, List.setIfInBounds_toArray, List.set_cons_zero, List.set_cons_succ]
  refine takeH 8 28 (v := ?vz8_7) rfl (by rfl) (by kernel_rfl) (by kernel_rfl) (by kernel_rfl) (fun _ _ _ h => h) (Or.inl ⟨by rfl, ?_⟩) (x_f_z0) ?_
  rotate_left
  · intro wq hSq
    go_simp
    exact rfl
  try simp only [Act.put, List.setIfInBounds_toArray, List.set_cons_zero, List.set_cons_succ]
  refine takeH 9 29 (v := ?vz9_8) rfl (by rfl) (by kernel_rfl) (by kernel_rfl) (by kernel_rfl) (fun _ _ _ h => h) (Or.inl ⟨by rfl, ?_⟩) (x_f_z0) ?_
  rotate_left
  · intro wq hSq
    have cq := (hSq).c 38 _ v38
    have zq := lt_of_cell cq
    go_simp
    exact rfl
  try simp only [Act.put, List.setIfInBounds_toArray, List.set_cons_zero, List.set_cons_succ]
  refine takeH 10 30 (v := ?vz10_9) rfl (by rfl) (by kernel_rfl) (by kernel_rfl) (by kernel_rfl) (fun _ _ _ h => h) (Or.inl ⟨by rfl, ?_⟩) (x_f_z0) ?_
  rotate_left
  · intro wq hSq
    go_simp
    exact rfl
  try simp only [Act.put, List.setIfInBounds_toArray, List.set_cons_zero, List.set_cons_succ]
  refine wpAnyH_ready (rs := [5]) (by kernel_rfl) (by simp) (AllReadyH.cons rfl (fun K hK => ?_) AllReadyH.nil)
  go_simp
  refine (CE _).mono ?_
  rintro e Wz10 ⟨vb, rfl, hob, hbz10⟩
  have x_f_z10 : Box Wz10 (w.heap.size) (V) := Box.below x_f_z0 hbz10
  have o_r_z10 := Lib.hid (ownR_below o_r_z0.out hbz10)
  have Bz10 := below_thru Bz0 hbz10
  clear x_f_z0 o_r_z0 Bz0 hbz10
  have j_b_z911 : Hid (IsL Wz10 .u8 (vb) (E)) := Lib.hid (IsL.own hob rfl)
  clear hob
  refine hK.out _ _ x_f_z10 (fun _ => ?_); clear hK K
  refine wpAnyH_ready (rs := [6]) (by kernel_rfl) (by simp) (AllReadyH.cons rfl (fun K hK => ?_) AllReadyH.nil)
  have zz12 : w.heap.size + 1 ≤ Wz10.heap.size := (x_f_z10).lt
  refine step_append_intsG 26 rfl rfl _ _ 33 rfl (w.heap.size + 1) 5 ti _ 1 .u8 Try.underlying33 hin hz0 hz1 hz2 rfl _ (1 + 52) _ rfl o_r_z10.out _ (E) rfl j_b_z911.out (by unfold maxLen; rw [LE.out]; decide) (by rw [LE.out]; decide) zz12 ?_
  intro vz12 Wz12 hown hgr
  have hKB := (Below.refl (w.heap.size + 1) _).grown hgr zz12 (ownR_block o_r_z10.out)
  have x_f_z12 : Box Wz12 (w.heap.size) (V) := Box.keepR x_f_z10 hKB (by omega)
  rw [LE.out, HQ2.out] at hown
  have o_r_z12 := Lib.hid hown
  have Bz12 := (Bz10).trans (hKB.mono (by omega))
  clear x_f_z10 o_r_z10 j_b_z911 Bz10 hown hgr hKB zz12
  refine hK.out _ _ x_f_z12 (fun _ => ?_); clear hK K
  refine wpAnyH_ready (rs := [11]) (by kernel_rfl) (by simp) (AllReadyH.cons rfl (fun K hK => ?_) AllReadyH.nil)
  go_simp
  refine (CC _).mono ?_
  rintro e Wz13 ⟨vb, rfl, hob, hbz13⟩
  have x_f_z13 : Box Wz13 (w.heap.size) (V) := Box.below x_f_z12 hbz13
  have o_r_z13 := Lib.hid (ownR_below o_r_z12.out hbz13)
  have Bz13 := below_thru Bz12 hbz13
  clear x_f_z12 o_r_z12 Bz12 hbz13
  have j_b_z914 : Hid (IsL Wz13 .u8 (vb) (KO)) := Lib.hid (IsL.own hob rfl)
  clear hob
  refine hK.out _ _ x_f_z13 (fun _ => ?_); clear hK K
  refine wpAnyH_ready (rs := [12]) (by kernel_rfl) (by simp) (AllReadyH.cons rfl (fun K hK => ?_) AllReadyH.nil)
  have zz15 : w.heap.size + 1 ≤ Wz13.heap.size := (x_f_z13).lt
  refine step_append_intsG 32 rfl rfl _ _ 33 rfl (w.heap.size + 1) 5 ti _ 1 .u8 Try.underlying33 hin hz0 hz1 hz2 rfl _ (1 + 52 + 2) _ rfl o_r_z13.out _ (KO) rfl j_b_z914.out (by unfold maxLen; rw [LC.out]; decide) (by rw [LC.out]; decide) zz15 ?_
  intro vz15 Wz15 hown hgr
  have hKB := (Below.refl (w.heap.size + 1) _).grown hgr zz15 (ownR_block o_r_z13.out)
  have x_f_z15 : Box Wz15 (w.heap.size) (V) := Box.keepR x_f_z13 hKB (by omega)
  rw [LC.out, HQ3.out] at hown
  have o_r_z15 := Lib.hid hown
  have Bz15 := (Bz13).trans (hKB.mono (by omega))
  clear x_f_z13 o_r_z13 j_b_z914 Bz13 hown hgr hKB zz15
  refine hK.out _ _ x_f_z15 (fun _ => ?_); clear hK K
  refine takeH 13 2 (v := ?vz13_16) rfl (by rfl) (by kernel_rfl) (by kernel_rfl) (by kernel_rfl) (fun _ _ _ h => h) (Or.inl ⟨by rfl, ?_⟩) (x_f_z15) ?_
  rotate_left
  · intro wq hSq
    go_simp
    exact rfl
  try simp only [Act.put, List.setIfInBounds_toArray, List.set_cons_zero, List.set_cons_succ]
  refine wpAnyH_done (by kernel_rfl) ?_ _
  have ho := o_r_z15.out
  go_wp2_with fail
  go_returns
  exact ⟨vz15, rfl, ownR_base (by rw [HX.out]; exact ho) (by omega), Bz15⟩

theorem rby_is (f : Frm) (hw : f.kd = 2 → f.c.wd) (w : World) : Calls Try.prog 30 #[.agg (mcell f).toArray] w (GivesOwn f.bs w) := by
  unfold Frm.bs
  by_cases h : f.kd = 2
  · rw [if_pos h]
    exact rby_2 f h (hw h) w
  · rw [if_neg h]
    exact rby_1 f (by simpa using h) w
theorem Frm.ok_kw {f : Frm} (h : f.Ok) : f.kd = 2 → f.c.wd := fun h2 => by
  rcases h with g | g
  · omega
  · exact Cmd.ok_wd g.2.2

set_option maxRecDepth 100000 in
set_option maxHeartbeats 6400000 in
theorem rwr_t (f : Frm) (h : f.Ok) (w : World) : Calls Try.prog 18 #[.agg (mcell f).toArray] w (GivesOE f.bs 0 w) := by
  have SV := Lib.hid (size_frm f); have SC := Lib.hid (size_cmd f.c); have DC := Lib.hid (mcell_c f); have DG := Lib.hid (mcell_g f); have ST := Lib.hid (size_tok f.r.k f.r.hg); have DT := Lib.hid (mcell_t f)
  have CK := fun W => rchk_is f (q := 0) (Lib.hid (Or.inl ⟨rfl, h⟩)) W
  have v0 : (mcell f)[0]? = some (.int .u8 f.kd) := by rfl
  have v1 := mcell_kt f; have v40 := mcell_ct f; have v37 := mcell_ep f; have v38 := mcell_co f
  have RB := fun W => rby_is f (Frm.ok_kw h) W
  obtain ⟨X, hX⟩ : ∃ X, f.bs = X := ⟨_, rfl⟩
  rw [hX] at RB ⊢
  clear hX
  obtain ⟨V, hV⟩ : ∃ V, mcell f = V := ⟨_, rfl⟩
  rw [hV] at SV DC DG DT v0 v1 v40 v37 v38 CK RB ⊢
  clear hV
  clear h
  go_enter Try.func18, Try.ntmps18
  go_upto_region 1 with fail
  refine F_gen (F := fun W => Code.wp _ _ _ _ W) (J := fun W => Box W (w.heap.size) (V) ∧ Below w.heap.size w W) (And.intro (Box.newc rfl rfl) (by go_grown)) ?_
  intro w0 ⟨e_f, hB0⟩
  have hs0 := hB0.size
  have x_f0 := e_f; clear e_f
  go_wp2_with (refine wpList_load_box9 rfl _ _ rfl x_f0 rfl Try.underlying43 rfl SV.out ?_)
  refine (CK _).mono ?_
  rintro e w1 ⟨rfl, hb⟩
  have hB1 : Below w.heap.size w w1 := below_thru hB0 hb
  have hs1 := hB1.size
  have x_f1 : Box w1 (w.heap.size) (V) := Box.below x_f0 hb
  clear hB0 hs0 x_f0
  clear hb
  go_wp2_with (refine wpList_load_box9 rfl _ _ rfl x_f1 rfl Try.underlying43 rfl SV.out ?_)
  refine (RB _).mono ?_
  rintro e w9 ⟨vr, rfl, ho, hb⟩
  have ho := ownR_base ho hs1; have hB9 := below_thru hB1 hb
  go_wp2_with fail
  go_returns
  exact ⟨_, rfl, ho, hB9⟩
set_option maxRecDepth 100000 in
set_option maxHeartbeats 6400000 in
theorem rwr_f (f : Frm) (h : ¬ f.Ok) (w : World) : Calls Try.prog 18 #[.agg (mcell f).toArray] w (GivesOE [] 8 w) := by
  have SV := Lib.hid (size_frm f); have SC := Lib.hid (size_cmd f.c); have DC := Lib.hid (mcell_c f); have DG := Lib.hid (mcell_g f); have ST := Lib.hid (size_tok f.r.k f.r.hg); have DT := Lib.hid (mcell_t f)
  have CK := fun W => rchk_is f (q := 8) (Lib.hid (Or.inr ⟨rfl, h⟩)) W
  have v0 : (mcell f)[0]? = some (.int .u8 f.kd) := by rfl
  have v1 := mcell_kt f; have v40 := mcell_ct f; have v37 := mcell_ep f; have v38 := mcell_co f
  obtain ⟨V, hV⟩ : ∃ V, mcell f = V := ⟨_, rfl⟩
  rw [hV] at SV DC DG DT v0 v1 v40 v37 v38 CK ⊢
  clear hV
  clear h
  go_enter Try.func18, Try.ntmps18
  go_upto_region 1 with fail
  refine F_gen (F := fun W => Code.wp _ _ _ _ W) (J := fun W => Box W (w.heap.size) (V) ∧ Below w.heap.size w W) (And.intro (Box.newc rfl rfl) (by go_grown)) ?_
  intro w0 ⟨e_f, hB0⟩
  have hs0 := hB0.size
  have x_f0 := e_f; clear e_f
  go_wp2_with (refine wpList_load_box9 rfl _ _ rfl x_f0 rfl Try.underlying43 rfl SV.out ?_)
  refine (CK _).mono ?_
  rintro e w1 ⟨rfl, hb⟩
  have hB1 : Below w.heap.size w w1 := below_thru hB0 hb
  have hs1 := hB1.size
  have x_f1 : Box w1 (w.heap.size) (V) := Box.below x_f0 hb
  clear hB0 hs0 x_f0
  clear hb
  go_wp2_with (refine wpList_load_box9 rfl _ _ rfl x_f1 rfl Try.underlying43 rfl SV.out ?_)
  refine (CK _).mono ?_
  rintro e w2 ⟨rfl, hb⟩
  have hB2 : Below w.heap.size w w2 := below_thru hB1 hb
  have hs2 := hB2.size
  have x_f2 : Box w2 (w.heap.size) (V) := Box.below x_f1 hb
  clear hB1 hs1 x_f1
  clear hb
  go_wp2_with fail
  go_returns
  exact ⟨_, rfl, ownU_nil, hB2⟩
set_option maxRecDepth 100000 in
set_option maxHeartbeats 6400000 in
theorem rten_t (f : Frm) (h : f.Ok) (w : World) : Calls Try.prog 19 #[.agg (mcell f).toArray] w fun e w' => e = .returned (.tuple #[.int .u32 f.te, .int .i64 0]) ∧ Below w.heap.size w w' := by
  have SV := Lib.hid (size_frm f); have SC := Lib.hid (size_cmd f.c); have DC := Lib.hid (mcell_c f); have DG := Lib.hid (mcell_g f); have ST := Lib.hid (size_tok f.r.k f.r.hg); have DT := Lib.hid (mcell_t f)
  have CK := fun W => rchk_is f (q := 0) (Lib.hid (Or.inl ⟨rfl, h⟩)) W
  have v0 : (mcell f)[0]? = some (.int .u8 f.kd) := by rfl
  have v1 := mcell_kt f; have v40 := mcell_ct f; have v37 := mcell_ep f; have v38 := mcell_co f
  have RO := fun W => rof_is f W
  obtain ⟨V, hV⟩ : ∃ V, mcell f = V := ⟨_, rfl⟩
  rw [hV] at SV DC DG DT v0 v1 v40 v37 v38 CK RO ⊢
  clear hV
  clear h
  go_enter Try.func19, Try.ntmps19
  go_upto_region 1 with fail
  refine F_gen (F := fun W => Code.wp _ _ _ _ W) (J := fun W => Box W (w.heap.size) (V) ∧ Below w.heap.size w W) (And.intro (Box.newc rfl rfl) (by go_grown)) ?_
  intro w0 ⟨e_f, hB0⟩
  have hs0 := hB0.size
  have x_f0 := e_f; clear e_f
  go_wp2_with (refine wpList_load_box9 rfl _ _ rfl x_f0 rfl Try.underlying43 rfl SV.out ?_)
  refine (CK _).mono ?_
  rintro e w1 ⟨rfl, hb⟩
  have hB1 : Below w.heap.size w w1 := below_thru hB0 hb
  have hs1 := hB1.size
  have x_f1 : Box w1 (w.heap.size) (V) := Box.below x_f0 hb
  clear hB0 hs0 x_f0
  clear hb
  go_wp2_with (refine wpList_load_box9 rfl _ _ rfl x_f1 rfl Try.underlying43 rfl SV.out ?_)
  refine (RO _).mono ?_
  rintro e w2 ⟨rfl, hb⟩
  have hB2 : Below w.heap.size w w2 := below_thru hB1 hb
  have hs2 := hB2.size
  have x_f2 : Box w2 (w.heap.size) (V) := Box.below x_f1 hb
  clear hB1 hs1 x_f1
  clear hb
  go_wp2_with fail
  go_returns
  exact ⟨rfl, hB2⟩
set_option maxRecDepth 100000 in
set_option maxHeartbeats 6400000 in
theorem rten_f (f : Frm) (h : ¬ f.Ok) (w : World) : Calls Try.prog 19 #[.agg (mcell f).toArray] w fun e w' => e = .returned (.tuple #[.int .u32 0, .int .i64 8]) ∧ Below w.heap.size w w' := by
  have SV := Lib.hid (size_frm f); have SC := Lib.hid (size_cmd f.c); have DC := Lib.hid (mcell_c f); have DG := Lib.hid (mcell_g f); have ST := Lib.hid (size_tok f.r.k f.r.hg); have DT := Lib.hid (mcell_t f)
  have CK := fun W => rchk_is f (q := 8) (Lib.hid (Or.inr ⟨rfl, h⟩)) W
  have v0 : (mcell f)[0]? = some (.int .u8 f.kd) := by rfl
  have v1 := mcell_kt f; have v40 := mcell_ct f; have v37 := mcell_ep f; have v38 := mcell_co f
  obtain ⟨V, hV⟩ : ∃ V, mcell f = V := ⟨_, rfl⟩
  rw [hV] at SV DC DG DT v0 v1 v40 v37 v38 CK ⊢
  clear hV
  clear h
  go_enter Try.func19, Try.ntmps19
  go_upto_region 1 with fail
  refine F_gen (F := fun W => Code.wp _ _ _ _ W) (J := fun W => Box W (w.heap.size) (V) ∧ Below w.heap.size w W) (And.intro (Box.newc rfl rfl) (by go_grown)) ?_
  intro w0 ⟨e_f, hB0⟩
  have hs0 := hB0.size
  have x_f0 := e_f; clear e_f
  go_wp2_with (refine wpList_load_box9 rfl _ _ rfl x_f0 rfl Try.underlying43 rfl SV.out ?_)
  refine (CK _).mono ?_
  rintro e w1 ⟨rfl, hb⟩
  have hB1 : Below w.heap.size w w1 := below_thru hB0 hb
  have hs1 := hB1.size
  have x_f1 : Box w1 (w.heap.size) (V) := Box.below x_f0 hb
  clear hB0 hs0 x_f0
  clear hb
  go_wp2_with (refine wpList_load_box9 rfl _ _ rfl x_f1 rfl Try.underlying43 rfl SV.out ?_)
  refine (CK _).mono ?_
  rintro e w2 ⟨rfl, hb⟩
  have hB2 : Below w.heap.size w w2 := below_thru hB1 hb
  have hs2 := hB2.size
  have x_f2 : Box w2 (w.heap.size) (V) := Box.below x_f1 hb
  clear hB1 hs1 x_f1
  clear hb
  go_wp2_with fail
  go_returns
  exact ⟨rfl, hB2⟩
theorem rwr_is (f : Frm) {xs : List Int} {q : Int} (h : (q = 0 ∧ f.Ok ∧ xs = f.bs) ∨ (q = 8 ∧ ¬ f.Ok ∧ xs = [])) (w : World) : Calls Try.prog 18 #[.agg (mcell f).toArray] w (GivesOE xs q w) := by
  rcases h with ⟨rfl, h, rfl⟩ | ⟨rfl, h, rfl⟩
  · exact rwr_t f h w
  · exact rwr_f f h w
theorem rten_is (f : Frm) {n q : Int} (h : (q = 0 ∧ f.Ok ∧ n = f.te) ∨ (q = 8 ∧ ¬ f.Ok ∧ n = 0)) (w : World) : Calls Try.prog 19 #[.agg (mcell f).toArray] w fun e w' => e = .returned (.tuple #[.int .u32 n, .int .i64 q]) ∧ Below w.heap.size w w' := by
  rcases h with ⟨rfl, h, rfl⟩ | ⟨rfl, h, rfl⟩
  · exact rten_t f h w
  · exact rten_f f h w

set_option maxRecDepth 100000 in
set_option maxHeartbeats 1600000 in
theorem rbef_t (c : Cmd) (h : c.Ok) (w : World) : Calls Try.prog 20 #[.agg (ccell c).toArray] w (GivesE c.msg 0 w) := by
  have SV := Lib.hid (size_cmd c)
  have IC := fun W => risc_is c (q := true) (Lib.hid ⟨fun _ => rfl, fun _ => h⟩) W
  have MR := fun W => rmsg9_is c (Cmd.ok_wd h) W
  obtain ⟨V, hV⟩ : ∃ V, ccell c = V := ⟨_, rfl⟩
  rw [hV] at SV IC MR ⊢
  clear hV h
  go_enter Try.func20, Try.ntmps20
  go_upto_region 1 with fail
  refine F_gen (F := fun W => Code.wp _ _ _ _ W) (J := fun W => Box W (w.heap.size) (V) ∧ Below w.heap.size w W) (And.intro (Box.newc rfl rfl) (by go_grown)) ?_
  intro w0 ⟨e_c, hB0⟩
  have hs0 := hB0.size
  have x_c0 := e_c; clear e_c
  go_wp2_with (refine wpList_load_box9 rfl _ _ rfl x_c0 rfl Try.underlying31 rfl SV.out ?_)
  refine (IC _).mono ?_
  rintro e w1 ⟨rfl, hb⟩
  clear IC
  have hB1 : Below w.heap.size w w1 := below_thru hB0 hb
  have hs1 := hB1.size
  have x_c1 : Box w1 (w.heap.size) (V) := Box.below x_c0 hb
  clear hB0 hs0 x_c0
  clear hb
  go_wp2_with (refine wpList_load_box9 rfl _ _ rfl x_c1 rfl Try.underlying31 rfl SV.out ?_)
  refine (MR _).mono ?_
  rintro e w2 ⟨vr, rfl, hr, hb2⟩
  have hB2 := below_thru hB1 hb2
  go_wp2_with fail
  go_returns
  exact ⟨_, rfl, IsL.own hr rfl, hB2⟩
set_option maxRecDepth 100000 in
set_option maxHeartbeats 1600000 in
theorem rbef_f (c : Cmd) (h : ¬ c.Ok) (w : World) : Calls Try.prog 20 #[.agg (ccell c).toArray] w (GivesE [] 8 w) := by
  have SV := Lib.hid (size_cmd c)
  have IC := fun W => risc_is c (q := false) (Lib.hid ⟨fun g => absurd g h, fun g => by cases g⟩) W
  obtain ⟨V, hV⟩ : ∃ V, ccell c = V := ⟨_, rfl⟩
  rw [hV] at SV IC ⊢
  clear hV h
  go_enter Try.func20, Try.ntmps20
  go_upto_region 1 with fail
  refine F_gen (F := fun W => Code.wp _ _ _ _ W) (J := fun W => Box W (w.heap.size) (V) ∧ Below w.heap.size w W) (And.intro (Box.newc rfl rfl) (by go_grown)) ?_
  intro w0 ⟨e_c, hB0⟩
  have hs0 := hB0.size
  have x_c0 := e_c; clear e_c
  go_wp2_with (refine wpList_load_box9 rfl _ _ rfl x_c0 rfl Try.underlying31 rfl SV.out ?_)
  refine (IC _).mono ?_
  rintro e w1 ⟨rfl, hb⟩
  clear IC
  have hB1 : Below w.heap.size w w1 := below_thru hB0 hb
  have hs1 := hB1.size
  have x_c1 : Box w1 (w.heap.size) (V) := Box.below x_c0 hb
  clear hB0 hs0 x_c0
  clear hb
  go_wp2_with fail
  go_returns
  exact ⟨_, rfl, IsL.none, hB1⟩
theorem rbef_is (c : Cmd) {xs : List Int} {q : Int} (h : (q = 0 ∧ c.Ok ∧ xs = c.msg) ∨ (q = 8 ∧ ¬ c.Ok ∧ xs = [])) (w : World) : Calls Try.prog 20 #[.agg (ccell c).toArray] w (GivesE xs q w) := by
  rcases h with ⟨rfl, h, rfl⟩ | ⟨rfl, h, rfl⟩
  · exact rbef_t c h w
  · exact rbef_f c h w

end Go.Proofs.Ytkpdlbcmnfphmaa
