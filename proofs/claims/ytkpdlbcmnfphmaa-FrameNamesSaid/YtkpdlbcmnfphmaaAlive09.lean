/-
  Layer 9's law: its own functions: request, command, limits; alive.
-/
import Derived.Test.YtkpdlbcmnfphmaaFmK
import Derived.Test.YtkpdlbcmnfphmaaFmH
namespace Go.Proofs.Ytkpdlbcmnfphmaa
open Go.RowKit

/-- A request of a tenant, all else 0. -/
def rq9 (t : Int) (h : 0 ≤ t ∧ t ≤ 4294967295) : Req := ⟨⟨t, 0, 0, 0, h, by decide, by decide, by decide⟩, zeroD, 0, 0, zeroD_len, zeroD_byts, by decide, by decide⟩
set_option maxRecDepth 100000 in
theorem brq1 (t : Int) (W : World) : (Instr.build 38 #[(0, .int .u32 t)]).run Try.prog W = .ok (.agg (.int .u32 t :: .int .u32 0 :: .int .u32 0 :: .int .u64 0 :: zeroD.map (Value.int .u8)).toArray) W := by kernel_rfl
set_option maxRecDepth 100000 in
theorem brq2 (t : Int) (W : World) : (Instr.build 41 #[(0, .agg (.int .u32 t :: .int .u32 0 :: .int .u32 0 :: .int .u64 0 :: zeroD.map (Value.int .u8)).toArray)]).run Try.prog W = .ok (.agg ((.int .u32 t :: .int .u32 0 :: .int .u32 0 :: .int .u64 0 :: zeroD.map (Value.int .u8)) ++ [Value.int .u16 0, Value.int .u32 0]).toArray) W := by kernel_rfl
set_option maxRecDepth 100000 in
set_option maxHeartbeats 1600000 in
theorem lreq_is (t : Int) (h : 0 ≤ t ∧ t ≤ 4294967295) (w : World) : Calls Try.prog 16 #[.int .u32 t] w fun e w' => e = .returned (.agg (mcell (Frm.req (rq9 t h))).toArray) ∧ Below w.heap.size w w' := by
  have SZ := Lib.hid (size_frm Frm.zero); have SF := Lib.hid (size_frm (Frm.req (rq9 t h))); have LF9 := Lib.hid (len_frm Frm.zero (Frm.req (rq9 t h))); have OF := Lib.hid (one_frm (Frm.req (rq9 t h)))
  have B1 := fun W => brq1 t W
  have B2 := fun W => brq2 t W
  have B3 := fun W => build_mr (rq9 t h) W
  have e1 : (.int .u32 t :: .int .u32 0 :: .int .u32 0 :: .int .u64 0 :: zeroD.map (Value.int .u8)) = tcell (rq9 t h).k (rq9 t h).g := rfl
  rw [e1] at B1 B2
  have e2 : tcell (rq9 t h).k (rq9 t h).g ++ [Value.int .u16 0, Value.int .u32 0] = rcell (rq9 t h) := rfl
  rw [e2] at B2
  clear e1 e2
  obtain ⟨TC, hT⟩ : ∃ V, tcell (rq9 t h).k (rq9 t h).g = V := ⟨_, rfl⟩
  obtain ⟨RC, hR⟩ : ∃ V, rcell (rq9 t h) = V := ⟨_, rfl⟩
  obtain ⟨F, hF⟩ : ∃ V, mcell (Frm.req (rq9 t h)) = V := ⟨_, rfl⟩
  rw [hT] at B1 B2; rw [hR] at B2 B3; rw [hF] at B3 SF LF9 OF ⊢
  clear hT hR hF h
  go_enter Try.func16, Try.ntmps16
  go_upto_region 1 with fail
  refine F_gen (F := fun W => Code.wp _ _ _ _ W) (J := fun W => Box W (w.heap.size) (mcell Frm.zero) ∧ Below w.heap.size w W) (And.intro (Box.newc rfl rfl) (by go_grown)) ?_
  intro w0 ⟨e_r, hB0⟩
  have hs0 := hB0.size
  have x_r0 := e_r; clear e_r
  go_wp2_with (first | (refine wpList_build9 rfl 38 _ rfl (us := #[(0, .int .u32 t)]) (by rfl) (B1 _) ?_) | (refine wpList_build9 rfl 41 _ rfl (us := #[(0, .agg TC.toArray)]) (by rfl) (B2 _) ?_) | (refine wpList_build9 rfl 43 _ rfl (us := #[(0, .int .u8 1), (1, .agg RC.toArray)]) (by rfl) (B3 _) ?_) | (refine wpList_store_box (cs := F) rfl _ _ _ rfl x_r0 rfl rfl SF.out LF9.out OF.out ?_; intro W99 hW99))
  exact bodyPost_ret (results_box Try.results16 hW99.box rfl Try.underlying43 rfl SF.out) rfl ⟨rfl, hW99.below _ _ (by omega) hB0⟩

set_option maxRecDepth 100000 in
set_option maxHeartbeats 1600000 in
theorem lcmd_is (c : Cmd) (w : World) : Calls Try.prog 11 #[.agg (ccell c).toArray] w fun e w' => e = .returned (.agg (mcell (Frm.cmd c)).toArray) ∧ Below w.heap.size w w' := by
  have SV := Lib.hid (size_cmd c); have SZ := Lib.hid (size_frm Frm.zero); have SF := Lib.hid (size_frm (Frm.cmd c)); have LF9 := Lib.hid (len_frm Frm.zero (Frm.cmd c)); have OF := Lib.hid (one_frm (Frm.cmd c))
  have B3 := fun W => build_mc c W
  obtain ⟨C, hC⟩ : ∃ V, ccell c = V := ⟨_, rfl⟩
  obtain ⟨F, hF⟩ : ∃ V, mcell (Frm.cmd c) = V := ⟨_, rfl⟩
  rw [hC] at B3 SV ⊢; rw [hF] at B3 SF LF9 OF ⊢
  clear hC hF
  go_enter Try.func11, Try.ntmps11
  go_upto_region 1 with fail
  refine F_gen (F := fun W => Code.wp _ _ _ _ W) (J := fun W => Box W (w.heap.size) (C) ∧ Box W (w.heap.size + 1) (mcell Frm.zero) ∧ Below w.heap.size w W) (And.intro (Box.alloc (Box.newc rfl rfl) _) (And.intro (Box.newc rfl (by simp)) (by go_grown))) ?_
  intro w0 ⟨e_c, e_r, hB0⟩
  have hs0 := hB0.size
  have x_c0 := e_c; clear e_c
  have x_r0 := e_r; clear e_r
  go_wp2_with (first | (refine wpList_load_box9 rfl _ _ rfl x_c0 rfl Try.underlying31 rfl SV.out ?_) | (refine wpList_build9 rfl 43 _ rfl (us := #[(0, .int .u8 2), (2, .agg C.toArray)]) (by rfl) (B3 _) ?_) | (refine wpList_store_box (cs := F) rfl _ _ _ rfl x_r0 rfl rfl SF.out LF9.out OF.out ?_; intro W99 hW99))
  exact bodyPost_ret (results_box Try.results11 hW99.box rfl Try.underlying43 rfl SF.out) rfl ⟨rfl, hW99.below _ _ (by omega) hB0⟩

/-- The command that deletes the tenant 3; with a user. -/
def dc9 : Cmd := ⟨2, 3, 0, Lm.zero, Lm.zero, Lm.zero, 0, 0, 0, zeroD, by decide, by decide, by decide, by decide, by decide, by decide, zeroD_len, zeroD_byts⟩
def du9 : Cmd := ⟨2, 3, 65536, Lm.zero, Lm.zero, Lm.zero, 0, 0, 0, zeroD, by decide, by decide, by decide, by decide, by decide, by decide, zeroD_len, zeroD_byts⟩
def du9' : Cmd := ⟨2, 3, 1, Lm.zero, Lm.zero, Lm.zero, 0, 0, 0, zeroD, by decide, by decide, by decide, by decide, by decide, by decide, zeroD_len, zeroD_byts⟩
theorem dc9_wd : dc9.wd := ⟨Lm.zero_wd, Lm.zero_wd, Lm.zero_wd⟩
theorem du9_wd : du9'.wd := ⟨Lm.zero_wd, Lm.zero_wd, Lm.zero_wd⟩
theorem dc9_ok : dc9.Ok := ⟨by decide, Or.inr (Or.inr (Or.inl ⟨Or.inl rfl, ⟨rfl, rfl, rfl⟩, rfl, rfl, rfl⟩))⟩
theorem du9_no : ¬ du9'.Ok := by
  rintro ⟨_, h | h | h | h⟩
  · exact absurd h.1 (by decide)
  · exact absurd h.1 (by decide)
  · exact absurd h.2.2.2.2 (by decide)
  · exact absurd h.1 (by decide)
def wt9 : List Int := (List.replicate 59 0 : List Int)
def gn9 : List Int := (List.replicate 88 0 : List Int)
theorem r1b : (0 : Int) ≤ 1 ∧ (1 : Int) ≤ 4294967295 := by decide
theorem r16b : (0 : Int) ≤ 16 ∧ (16 : Int) ≤ 4294967295 := by decide
theorem r15b : (0 : Int) ≤ 15 ∧ (15 : Int) ≤ 4294967295 := by decide
set_option maxRecDepth 100000 in
theorem wt9_is : (wt9.set 0 1).set 4 1 = 1 :: (rq9 1 r1b).bs := by decide +kernel
set_option maxRecDepth 100000 in
theorem gn9_is : ((gn9.set 0 2).set 1 2).set 5 3 = dc9.msg ++ dc9.g := by decide +kernel
set_option maxRecDepth 100000 in
theorem gn9_u : (dc9.msg ++ dc9.g).set 9 1 = du9'.msg ++ du9'.g := by decide +kernel
set_option maxRecDepth 100000 in
theorem build_dc (W : World) : (Instr.build 31 #[(0, .int .u8 2), (1, .int .u32 3)]).run Try.prog W = .ok (.agg (ccell dc9).toArray) W := by kernel_rfl

set_option maxRecDepth 100000 in
set_option maxHeartbeats 6400000 in
theorem alive9_is (w : World) : Calls Try.prog 17 #[] w fun e w' => e = .returned (.bool true) ∧ Below w.heap.size w w' := by
  have R1 := fun W => lreq_is 1 r1b W; have R16 := fun W => lreq_is 16 r16b W; have CD := fun W => lcmd_is dc9 W; have BE := fun W => build_dc W
  have WA := fun W => wr_is (Frm.req (rq9 1 r1b)) (xs := 1 :: (rq9 1 r1b).bs) (q := 0) (Or.inl ⟨rfl, Frm.req_ok (by decide), (Frm.req_bs _).symm⟩) W
  have WB := fun W => wr_is (Frm.cmd dc9) (xs := dc9.msg ++ dc9.g) (q := 0) (Or.inl ⟨rfl, Frm.cmd_ok dc9_ok, (Frm.cmd_bs _).symm⟩) W
  have CK := fun W => chk_is (Frm.req (rq9 16 r16b)) (q := 8) (Lib.hid (Or.inr ⟨rfl, fun h => absurd ((Frm.req_iff _).1 h) (by decide)⟩)) W
  obtain ⟨G, q, hp, PA⟩ := parse_is (du9'.msg ++ du9'.g) (du9'.msg_byts.append zeroD_byts)
  obtain ⟨rfl, rfl⟩ := hp.uniq ((cmd_of du9' du9_wd).2 du9_no)
  clear hp
  unfold Parses at PA
  have mk59 : ∀ W : World, (Instr.makeSlice 33 (.int .i64 59) (.int .i64 59)).run Try.prog W = .ok (.slice (some ⟨W.heap.size, 0, none⟩) 59 59) (W.alloc (.cells (wt9.map (Value.int .u8)).toArray 5)) := fun W => make_bytes 59 (by omega) W
  have mk88 : ∀ W : World, (Instr.makeSlice 33 (.int .i64 88) (.int .i64 88)).run Try.prog W = .ok (.slice (some ⟨W.heap.size, 0, none⟩) 88 88) (W.alloc (.cells (gn9.map (Value.int .u8)).toArray 5)) := fun W => make_bytes 88 (by omega) W
  have e1 := wt9_is; have e2 := gn9_is; have e3 := gn9_u
  have l1 : Hid ((1 :: (rq9 1 r1b).bs).length = 59) := Lib.hid (by rw [List.length_cons, Req.bs_len]); have l2 : Hid ((dc9.msg ++ dc9.g).length = 88) := Lib.hid (by rw [List.length_append, Cmd.msg_len dc9_wd, dc9.hg]); have l3 : Hid ((du9'.msg ++ du9'.g).length = 88) := Lib.hid (by rw [List.length_append, Cmd.msg_len du9_wd, du9'.hg])
  obtain ⟨XW, hXW⟩ : ∃ X, 1 :: (rq9 1 r1b).bs = X := ⟨_, rfl⟩
  obtain ⟨XG, hXG⟩ : ∃ X, dc9.msg ++ dc9.g = X := ⟨_, rfl⟩
  obtain ⟨XU, hXU⟩ : ∃ X, du9'.msg ++ du9'.g = X := ⟨_, rfl⟩
  rw [hXW] at WA e1 l1; rw [hXG] at WB e2 e3 l2; rw [hXU] at PA e3 l3
  have lw0 : Hid ((wt9.map (Value.int .u8)).length = 59) := Lib.hid (by decide); have lg0 : Hid ((gn9.map (Value.int .u8)).length = 88) := Lib.hid (by decide)
  obtain ⟨A1, hA1⟩ : ∃ X, wt9.set 0 1 = X := ⟨_, rfl⟩
  have EA1 : Hid (A1.map (Value.int .u8) = (wt9.map (Value.int .u8)).set 0 (.int .u8 1)) := Lib.hid (by rw [← hA1, List.map_set])
  have LA1 : Hid ((A1.map (Value.int .u8)).length = 59) := Lib.hid (by rw [← hA1, List.map_set, List.length_set, lw0.out])
  obtain ⟨A2, hA2⟩ : ∃ X, A1.set 4 1 = X := ⟨_, rfl⟩
  have EA2 : Hid (A2.map (Value.int .u8) = (A1.map (Value.int .u8)).set 4 (.int .u8 1)) := Lib.hid (by rw [← hA2, List.map_set])
  have LA2 : Hid ((A2.map (Value.int .u8)).length = 59) := Lib.hid (by rw [← hA2, List.map_set, List.length_set, LA1.out])
  rw [hA1, hA2] at e1; subst e1
  obtain ⟨D1, hD1⟩ : ∃ X, gn9.set 0 2 = X := ⟨_, rfl⟩
  have ED1 : Hid (D1.map (Value.int .u8) = (gn9.map (Value.int .u8)).set 0 (.int .u8 2)) := Lib.hid (by rw [← hD1, List.map_set])
  have LD1 : Hid ((D1.map (Value.int .u8)).length = 88) := Lib.hid (by rw [← hD1, List.map_set, List.length_set, lg0.out])
  obtain ⟨D2, hD2⟩ : ∃ X, D1.set 1 2 = X := ⟨_, rfl⟩
  have ED2 : Hid (D2.map (Value.int .u8) = (D1.map (Value.int .u8)).set 1 (.int .u8 2)) := Lib.hid (by rw [← hD2, List.map_set])
  have LD2 : Hid ((D2.map (Value.int .u8)).length = 88) := Lib.hid (by rw [← hD2, List.map_set, List.length_set, LD1.out])
  obtain ⟨D3, hD3⟩ : ∃ X, D2.set 5 3 = X := ⟨_, rfl⟩
  have ED3 : Hid (D3.map (Value.int .u8) = (D2.map (Value.int .u8)).set 5 (.int .u8 3)) := Lib.hid (by rw [← hD3, List.map_set])
  have LD3 : Hid ((D3.map (Value.int .u8)).length = 88) := Lib.hid (by rw [← hD3, List.map_set, List.length_set, LD2.out])
  rw [hD1, hD2, hD3] at e2; subst e2
  have EU : Hid (XU.map (Value.int .u8) = (D3.map (Value.int .u8)).set 9 (.int .u8 1)) := Lib.hid (by rw [← e3, List.map_set])
  have SZ := Lib.hid (size_frm Frm.zero)
  obtain ⟨F1, hF1⟩ : ∃ V, mcell (Frm.req (rq9 1 r1b)) = V := ⟨_, rfl⟩
  obtain ⟨F16, hF16⟩ : ∃ V, mcell (Frm.req (rq9 16 r16b)) = V := ⟨_, rfl⟩
  obtain ⟨FD, hFD⟩ : ∃ V, mcell (Frm.cmd dc9) = V := ⟨_, rfl⟩
  obtain ⟨CDC, hCDC⟩ : ∃ V, ccell dc9 = V := ⟨_, rfl⟩
  rw [hF1] at R1 WA; rw [hF16] at R16 CK; rw [hFD] at CD WB; rw [hCDC] at CD BE
  clear hF1 hF16 hFD hCDC e3 hXU
  go_enter Try.func17, Try.ntmps17
  have hB0 := Below.refl w.heap.size w
  have hs0 := hB0.size
  go_wp2_with fail
  refine (R1 _).mono ?_
  rintro e w1 ⟨rfl, hb⟩
  have hB1 : Below w.heap.size w w1 := below_thru hB0 hb
  have hs1 := hB1.size
  clear hB0 hs0
  clear hb
  go_wp2_with fail
  refine (WA _).mono ?_
  rintro e w2 ⟨va, rfl, hoa, hb⟩
  have hB2 : Below w.heap.size w w2 := below_thru hB1 hb
  have hs2 := hB2.size
  clear hB1 hs1
  clear hb
  have J_a2 : Hid (IsL w2 .u8 (va) A2) := Lib.hid (IsL.own hoa rfl)
  clear hoa
  go_upto_region 4 with (first | (refine wpList_store_cell (k := 0) (ws := A1.map (Value.int .u8)) (v := .int .u8 1) rfl _ _ _ rfl (Box.newc (l := wt9.map (Value.int .u8)) rfl rfl) rfl rfl rfl rfl size_u8n (by rw [lw0.out]; decide) EA1.out ?_; intro S2_0 hS2_0) | (refine wpList_store_cell (k := 4) (ws := A2.map (Value.int .u8)) (v := .int .u8 1) rfl _ _ _ rfl hS2_0.box rfl rfl rfl rfl size_u8n (by rw [LA1.out]; decide) EA2.out ?_; intro S2_1 hS2_1))
  have hN : Below w2.heap.size w2 S2_1 := (hS2_1.below _ _ (Nat.le_refl _) (hS2_0.below _ _ (Nat.le_refl _) ((Below.refl _ _).alloc (Nat.le_refl _) _)))
  have x_W3 : Box S2_1 (w2.heap.size) (A2.map (Value.int .u8)) := hS2_1.box
  have low_W := hs2
  have hB3 : Below w.heap.size w S2_1 := below_thru hB2 hN
  have hs3 := hB3.size
  have J_a3 : Hid (IsL S2_1 .u8 (va) A2) := Lib.hid (IsL.below J_a2.out hN)
  clear hB2 hs2 J_a2
  clear hN hS2_0 hS2_1
  go_wp2_with (refine wpList_build9 rfl 31 _ rfl (us := #[(0, .int .u8 2), (1, .int .u32 3)]) (by rfl) (BE _) ?_)
  refine (CD _).mono ?_
  rintro e w4 ⟨rfl, hb⟩
  have hB4 : Below w.heap.size w w4 := below_thru hB3 hb
  have hs4 := hB4.size
  have x_W4 : Box w4 (w2.heap.size) (A2.map (Value.int .u8)) := Box.below x_W3 hb
  have J_a4 : Hid (IsL w4 .u8 (va) A2) := Lib.hid (IsL.below J_a3.out hb)
  clear hB3 hs3 x_W3 J_a3
  clear hb
  go_wp2_with fail
  refine (WB _).mono ?_
  rintro e w5 ⟨vb, rfl, hob, hb⟩
  have hB5 : Below w.heap.size w w5 := below_thru hB4 hb
  have hs5 := hB5.size
  have x_W5 : Box w5 (w2.heap.size) (A2.map (Value.int .u8)) := Box.below x_W4 hb
  have J_a5 : Hid (IsL w5 .u8 (va) A2) := Lib.hid (IsL.below J_a4.out hb)
  clear hB4 hs4 x_W4 J_a4
  clear hb
  have J_b5 : Hid (IsL w5 .u8 (vb) D3) := Lib.hid (IsL.own hob rfl)
  clear hob
  go_upto_region 7 with (first | (refine wpList_store_cell (k := 0) (ws := D1.map (Value.int .u8)) (v := .int .u8 2) rfl _ _ _ rfl (Box.newc (l := gn9.map (Value.int .u8)) rfl rfl) rfl rfl rfl rfl size_u8n (by rw [lg0.out]; decide) ED1.out ?_; intro S5_0 hS5_0) | (refine wpList_store_cell (k := 1) (ws := D2.map (Value.int .u8)) (v := .int .u8 2) rfl _ _ _ rfl hS5_0.box rfl rfl rfl rfl size_u8n (by rw [LD1.out]; decide) ED2.out ?_; intro S5_1 hS5_1) | (refine wpList_store_cell (k := 5) (ws := D3.map (Value.int .u8)) (v := .int .u8 3) rfl _ _ _ rfl hS5_1.box rfl rfl rfl rfl size_u8n (by rw [LD2.out]; decide) ED3.out ?_; intro S5_2 hS5_2))
  have hN : Below w5.heap.size w5 S5_2 := (hS5_2.below _ _ (Nat.le_refl _) (hS5_1.below _ _ (Nat.le_refl _) (hS5_0.below _ _ (Nat.le_refl _) ((Below.refl _ _).alloc (Nat.le_refl _) _))))
  have x_G6 : Box S5_2 (w5.heap.size) (D3.map (Value.int .u8)) := hS5_2.box
  have low_G := hs5
  have hB6 : Below w.heap.size w S5_2 := below_thru hB5 hN
  have hs6 := hB6.size
  have x_W6 : Box S5_2 (w2.heap.size) (A2.map (Value.int .u8)) := Box.below x_W5 hN
  have J_a6 : Hid (IsL S5_2 .u8 (va) A2) := Lib.hid (IsL.below J_a5.out hN)
  have J_b6 : Hid (IsL S5_2 .u8 (vb) D3) := Lib.hid (IsL.below J_b5.out hN)
  clear hB5 hs5 x_W5 J_a5 J_b5
  clear hN hS5_0 hS5_1 hS5_2
  go_wp2_with fail
  refine (sameb_tt _ J_a6.out (Box.isl 59 (by have := LA2.out; simpa using this) x_W6 (by omega))).mono ?_
  rintro e w7 ⟨rfl, hb⟩
  have hB7 : Below w.heap.size w w7 := below_thru hB6 hb
  have hs7 := hB7.size
  have x_W7 : Box w7 (w2.heap.size) (A2.map (Value.int .u8)) := Box.below x_W6 hb
  have x_G7 : Box w7 (w5.heap.size) (D3.map (Value.int .u8)) := Box.below x_G6 hb
  have J_a7 : Hid (IsL w7 .u8 (va) A2) := Lib.hid (IsL.below J_a6.out hb)
  have J_b7 : Hid (IsL w7 .u8 (vb) D3) := Lib.hid (IsL.below J_b6.out hb)
  clear hB6 hs6 x_W6 x_G6 J_a6 J_b6
  clear hb
  clear J_a7
  clear x_W7
  go_wp2_with fail
  refine (R16 _).mono ?_
  rintro e w8 ⟨rfl, hb⟩
  have hB8 : Below w.heap.size w w8 := below_thru hB7 hb
  have hs8 := hB8.size
  have x_G8 : Box w8 (w5.heap.size) (D3.map (Value.int .u8)) := Box.below x_G7 hb
  have J_b8 : Hid (IsL w8 .u8 (vb) D3) := Lib.hid (IsL.below J_b7.out hb)
  clear hB7 hs7 x_G7 J_b7
  clear hb
  go_wp2_with fail
  refine (CK _).mono ?_
  rintro e w9 ⟨rfl, hb⟩
  have hB9 : Below w.heap.size w w9 := below_thru hB8 hb
  have hs9 := hB9.size
  have x_G9 : Box w9 (w5.heap.size) (D3.map (Value.int .u8)) := Box.below x_G8 hb
  have J_b9 : Hid (IsL w9 .u8 (vb) D3) := Lib.hid (IsL.below J_b8.out hb)
  clear hB8 hs8 x_G8 J_b8
  clear hb
  go_wp2_with fail
  refine (sameb_tt _ J_b9.out (Box.isl 88 (by have := LD3.out; simpa using this) x_G9 (by omega))).mono ?_
  rintro e w10 ⟨rfl, hb⟩
  have hB10 : Below w.heap.size w w10 := below_thru hB9 hb
  have hs10 := hB10.size
  have x_G10 : Box w10 (w5.heap.size) (D3.map (Value.int .u8)) := Box.below x_G9 hb
  have J_b10 : Hid (IsL w10 .u8 (vb) D3) := Lib.hid (IsL.below J_b9.out hb)
  clear hB9 hs9 x_G9 J_b9
  clear hb
  clear J_b10
  have lq_G := (x_G10).lt
  go_upto_region 10 with (first | (refine wpList_store_cell (k := 9) (ws := XU.map (Value.int .u8)) (v := .int .u8 1) rfl _ _ _ rfl x_G10 rfl rfl rfl rfl size_u8n (by rw [LD3.out]; decide) EU.out ?_; intro S10_0 hS10_0))
  have x_G11 := hS10_0.box
  have hB11 := (hS10_0.below _ _ (by omega) hB10); have hs11 := hB11.size
  clear x_G10 hB10 hs10 lq_G
  clear hS10_0
  go_wp2_with fail
  refine (PA _ _ (Box.isl 88 (by have := l3.out; simpa using this) x_G11 (by omega))).mono ?_
  rintro e w12 ⟨rfl, hb⟩
  have hB12 : Below w.heap.size w w12 := below_thru hB11 hb
  have hs12 := hB12.size
  have x_G12 : Box w12 (w5.heap.size) (XU.map (Value.int .u8)) := Box.below x_G11 hb
  clear hB11 hs11 x_G11
  clear hb
  clear x_G12
  have hz := hs12
  go_wp2_with (refine wpList_store_box (cs := mcell Frm.zero) rfl _ _ _ rfl (Box.newc (l := mcell Frm.zero) rfl rfl) rfl rfl SZ.out rfl (one_frm Frm.zero) ?_; intro W99 hW99)
  go_returns
  exact ⟨rfl, hW99.below _ _ hz (hB12.alloc hz _)⟩

end Go.Proofs.Ytkpdlbcmnfphmaa
