/-
  The law's own functions of layer 11, walked: request, command, alive.
-/
import Derived.Test.YtofjpeplgagihaaDoorKyB
import Derived.Test.YtofjpeplgagihaaDoorTag11
import Derived.Test.YtofjpeplgagihaaDoorGT2
namespace Go.Proofs.YtofjpeplgagihaaDoor
open Go.RowKit

set_option maxRecDepth 100000 in
theorem build_rq11 (k : Nums) {g : List Int} (h : g.length = 32) (e c : Int) (W : World) : (Instr.build 44 #[(0, .agg (tcell k g).toArray), (1, .int .u16 e), (2, .int .u32 c)]).run Tryd.prog W = .ok (.agg (tcell k g ++ [Value.int .u16 e, Value.int .u32 c]).toArray) W := by
  obtain ⟨x0, x1, x2, x3, x4, x5, x6, x7, x8, x9, x10, x11, x12, x13, x14, x15, x16, x17, x18, x19, x20, x21, x22, x23, x24, x25, x26, x27, x28, x29, x30, x31, rfl⟩ := list32 h
  kernel_rfl
set_option maxRecDepth 100000 in
theorem build_fr11 (k : Nums) {g : List Int} (h : g.length = 32) (e c : Int) (W : World) : (Instr.build 46 #[(0, .int .u8 1), (1, .agg (tcell k g ++ [Value.int .u16 e, Value.int .u32 c]).toArray)]).run Tryd.prog W = .ok (.agg (Value.int .u8 1 :: ((tcell k g ++ [Value.int .u16 e, Value.int .u32 c]) ++ ccell Cmd.zero)).toArray) W := by
  obtain ⟨x0, x1, x2, x3, x4, x5, x6, x7, x8, x9, x10, x11, x12, x13, x14, x15, x16, x17, x18, x19, x20, x21, x22, x23, x24, x25, x26, x27, x28, x29, x30, x31, rfl⟩ := list32 h
  kernel_rfl
set_option maxRecDepth 100000 in
theorem build_fc11 (op t u b0 r0 p0 b1 r1 p1 b2 r2 p2 us en x : Int) {g : List Int} (h : g.length = 32) (W : World) : (Instr.build 46 #[(0, .int .u8 2), (2, .agg (.int .u8 op :: .int .u32 t :: .int .u32 u :: .int .i64 b0 :: .int .i64 r0 :: .int .i64 p0 :: .int .i64 b1 :: .int .i64 r1 :: .int .i64 p1 :: .int .i64 b2 :: .int .i64 r2 :: .int .i64 p2 :: .int .u8 us :: .int .u8 en :: .int .u64 x :: g.map (Value.int .u8)).toArray)]).run Tryd.prog W =
    .ok (.agg (Value.int .u8 2 :: (rcell Req.zero ++ (.int .u8 op :: .int .u32 t :: .int .u32 u :: .int .i64 b0 :: .int .i64 r0 :: .int .i64 p0 :: .int .i64 b1 :: .int .i64 r1 :: .int .i64 p1 :: .int .i64 b2 :: .int .i64 r2 :: .int .i64 p2 :: .int .u8 us :: .int .u8 en :: .int .u64 x :: g.map (Value.int .u8)))).toArray) W := by
  obtain ⟨x0, x1, x2, x3, x4, x5, x6, x7, x8, x9, x10, x11, x12, x13, x14, x15, x16, x17, x18, x19, x20, x21, x22, x23, x24, x25, x26, x27, x28, x29, x30, x31, rfl⟩ := list32 h
  kernel_rfl
theorem build_mr11 (r : Req) (W : World) : (Instr.build 46 #[(0, .int .u8 1), (1, .agg (rcell r).toArray)]).run Tryd.prog W = .ok (.agg (mcell (Frm.req r)).toArray) W := build_fr11 r.k r.hg r.ep r.co W
theorem build_mc11 (c : Cmd) (W : World) : (Instr.build 46 #[(0, .int .u8 2), (2, .agg (ccell c).toArray)]).run Tryd.prog W = .ok (.agg (mcell (Frm.cmd c)).toArray) W :=
  build_fc11 c.op c.t c.u c.l0.b c.l0.r c.l0.p c.l1.b c.l1.r c.l1.p c.l2.b c.l2.r c.l2.p c.us c.en c.x c.hg W

set_option maxRecDepth 100000 in
set_option maxHeartbeats 6400000 in
theorem lreq11_is (r : Req) (w : World) : Calls Tryd.prog 14 #[.agg (tcell r.k r.g).toArray, .int .u16 r.ep, .int .u32 r.co] w fun e w' => e = .returned (.agg (mcell (Frm.req r)).toArray) ∧ Below w.heap.size w w' := by
  have SP := Lib.hid (size_tok r.k r.hg); have LP : Hid (zeroTk.length = (tcell r.k r.g).length) := Lib.hid (len_tok Nums.zero r.k zd32 r.hg); have OP := Lib.hid (tcell_one r.k r.g)
  have SF := Lib.hid (size_frm (Frm.req r)); have LF := Lib.hid (len_frm Frm.zero (Frm.req r)); have OF := Lib.hid (one_frm (Frm.req r))
  have B2 := fun W => build_rq11 r.k r.hg r.ep r.co W; have B3 := fun W => build_mr11 r W
  have e1 : tcell r.k r.g ++ [Value.int .u16 r.ep, Value.int .u32 r.co] = rcell r := rfl
  rw [e1] at B2
  clear e1
  obtain ⟨R, hR⟩ : ∃ X, rcell r = X := ⟨_, rfl⟩
  rw [hR] at B2 B3
  clear hR
  obtain ⟨P, hP⟩ : ∃ X, tcell r.k r.g = X := ⟨_, rfl⟩
  rw [hP] at SP LP OP B2 ⊢
  clear hP
  obtain ⟨F, hF⟩ : ∃ X, mcell (Frm.req r) = X := ⟨_, rfl⟩
  rw [hF] at B3 SF LF OF ⊢
  clear hF
  go_enter Tryd.func14, Tryd.ntmps14
  go_upto_region 1 with fail
  refine F_gen (F := fun W => Code.wp _ _ _ _ W) (J := fun W => Box W (w.heap.size) (P) ∧ Box W (w.heap.size + 1) (mcell Frm.zero) ∧ Below w.heap.size w W) (And.intro (Box.alloc (Box.newc rfl rfl) _) (And.intro (Box.newc rfl (by simp)) (by go_grown))) ?_
  intro w0 ⟨e_t, e_r, hB0⟩
  have hs0 := hB0.size
  have x_t0 := e_t; clear e_t
  have x_r0 := e_r; clear e_r
  have lq := (x_r0).lt
  go_wp2_with (first | (refine wpList_load_box9 rfl _ _ rfl x_t0 rfl Tryd.underlying30 rfl SP.out ?_) | (refine wpList_build9 rfl 44 _ rfl (us := #[(0, .agg P.toArray), (1, .int .u16 r.ep), (2, .int .u32 r.co)]) (by rfl) (B2 _) ?_) | (refine wpList_build9 rfl 46 _ rfl (us := #[(0, .int .u8 1), (1, .agg R.toArray)]) (by rfl) (B3 _) ?_) | (refine wpList_store_box (cs := F) rfl _ _ _ rfl x_r0 rfl rfl SF.out LF.out OF.out ?_; intro W99 hW99))
  exact bodyPost_ret (results_box Tryd.results14 hW99.box rfl Tryd.underlying46 rfl SF.out) rfl ⟨rfl, hW99.below _ _ (by omega) hB0⟩

set_option maxRecDepth 100000 in
set_option maxHeartbeats 6400000 in
theorem lcmd11_is (c : Cmd) (w : World) : Calls Tryd.prog 13 #[.agg (ccell c).toArray] w fun e w' => e = .returned (.agg (mcell (Frm.cmd c)).toArray) ∧ Below w.heap.size w w' := by
  have SP := Lib.hid (size_cmd c); have LP := Lib.hid (len_cmd Cmd.zero c); have OP := Lib.hid (one_cmd c)
  have SF := Lib.hid (size_frm (Frm.cmd c)); have LF := Lib.hid (len_frm Frm.zero (Frm.cmd c)); have OF := Lib.hid (one_frm (Frm.cmd c))
  have B3 := fun W => build_mc11 c W
  obtain ⟨P, hP⟩ : ∃ X, ccell c = X := ⟨_, rfl⟩
  rw [hP] at SP LP OP B3 ⊢
  clear hP
  obtain ⟨F, hF⟩ : ∃ X, mcell (Frm.cmd c) = X := ⟨_, rfl⟩
  rw [hF] at B3 SF LF OF ⊢
  clear hF
  go_enter Tryd.func13, Tryd.ntmps13
  go_upto_region 1 with fail
  refine F_gen (F := fun W => Code.wp _ _ _ _ W) (J := fun W => Box W (w.heap.size) (P) ∧ Box W (w.heap.size + 1) (mcell Frm.zero) ∧ Below w.heap.size w W) (And.intro (Box.alloc (Box.newc rfl rfl) _) (And.intro (Box.newc rfl (by simp)) (by go_grown))) ?_
  intro w0 ⟨e_c, e_r, hB0⟩
  have hs0 := hB0.size
  have x_c0 := e_c; clear e_c
  have x_r0 := e_r; clear e_r
  have lq := (x_r0).lt
  go_wp2_with (first | (refine wpList_load_box9 rfl _ _ rfl x_c0 rfl Tryd.underlying37 rfl SP.out ?_) | (refine wpList_build9 rfl 46 _ rfl (us := #[(0, .int .u8 2), (2, .agg P.toArray)]) (by rfl) (B3 _) ?_) | (refine wpList_store_box (cs := F) rfl _ _ _ rfl x_r0 rfl rfl SF.out LF.out OF.out ?_; intro W99 hW99))
  exact bodyPost_ret (results_box Tryd.results13 hW99.box rfl Tryd.underlying46 rfl SF.out) rfl ⟨rfl, hW99.below _ _ (by omega) hB0⟩

/-- The requests of the example: the minted token, and the same one with the epoch 3. -/
def rqA : Req := ⟨tk2, minted zeroD tk2, 0, 0, minted_len _ _, minted_byts _ _, by decide, by decide⟩
def rqB : Req := ⟨tk3, minted zeroD tk2, 0, 0, minted_len _ _, minted_byts _ _, by decide, by decide⟩
theorem has12 : HasKey 1 2 := ⟨by decide, by decide⟩
theorem rigA : RigOf zeroD (Frm.req rqA) true 0 := Or.inl ⟨rfl, Frm.req_ok (by decide), ⟨fun _ => (Tru.of1 (f := Frm.req rqA) (show (1 : Int) ≠ 2 by decide)).2 ⟨has12, rfl⟩, fun _ => rfl⟩⟩
theorem rigB : RigOf zeroD (Frm.req rqB) false 0 := Or.inl ⟨rfl, Frm.req_ok (by decide), ⟨fun h => (Bool.false_ne_true h).elim, fun h => absurd ((Tru.of1 (f := Frm.req rqB) (show (1 : Int) ≠ 2 by decide)).1 h).2 mint_ne⟩⟩
theorem tokA : TokOf zeroD tk2 tk2 (minted zeroD tk2) 0 := Or.inl ⟨rfl, has12, rfl, rfl⟩
theorem no16 : ¬ HasKey 16 2 := fun h => absurd h.1 (by decide)

set_option maxRecDepth 100000 in
set_option maxHeartbeats 6400000 in
theorem alive11_is (w : World) (hL : Hid (LaidS w)) : Calls Tryd.prog 15 #[] w fun e w' => e = .returned (.bool true) ∧ Below w.heap.size w w' := by
  have TN := fun (W : World) (h : Hid (LaidS W)) => ten_is zd32 zeroD_byts (t := 1) (p := 2) (by decide) (by decide) (Or.inl ⟨rfl, has12, rfl⟩) W h
  have TZ := fun (W : World) (h : Hid (LaidS W)) => ten_is zd32 zeroD_byts (t := 16) (p := 2) (by decide) (by decide) (Or.inr ⟨rfl, no16, rfl⟩) W h
  have TK := fun (W : World) (h : Hid (LaidS W)) => token_is tk2 zd32 zeroD_byts tokA W h
  rw [show tk2.t = 1 from rfl, show tk2.u = 9 from rfl, show tk2.e = 2 from rfl, show tk2.x = 77 from rfl] at TK
  have QA := fun W => lreq11_is rqA W; have QB := fun W => lreq11_is rqB W
  rw [show rqA.k = tk2 from rfl, show rqA.g = minted zeroD tk2 from rfl, show rqA.ep = 0 from rfl, show rqA.co = 0 from rfl] at QA; rw [show rqB.k = tk3 from rfl, show rqB.g = minted zeroD tk2 from rfl, show rqB.ep = 0 from rfl, show rqB.co = 0 from rfl] at QB
  have RA := fun (W : World) (h : Hid (LaidS W)) => right_is _ zd32 zeroD_byts rigA W h; have RB := fun (W : World) (h : Hid (LaidS W)) => right_is _ zd32 zeroD_byts rigB W h
  have IK := Lib.hid (fun (W : World) (b : Nat) (h : Box W b (zeroD.map (Value.int .u8))) => IsL.boxed 32 zd32 h (by omega))
  obtain ⟨E, hE⟩ : ∃ X, (tkeyL zeroD 1 2).map (Value.int .u8) = X := ⟨_, rfl⟩
  have A : ∀ (W : World) (a b : Value), IsL W .u8 a zeroD → IsL W .u8 b [107, 0, 0, 0, 1, 0, 0, 0, 2] → Hid (LaidS W) → Calls Tryd.prog 22 #[a, b] W fun e w' => e = .returned (.tuple #[.agg E.toArray, .int .i64 0]) ∧ Below W.heap.size W w' := by rw [← hE]; exact fun W a b h1 h2 h => tag_ok (D := tkeyL zeroD 1 2) W (Lib.hid h1) (Lib.hid h2) (by decide) (by decide) (Lib.hid zeroD_byts.l) (Lib.hid (bytesL.of_all (by decide +kernel))) (Lib.hid (by unfold tkeyL; rw [km2_is]; rfl)) h
  have EQ := fun (W : World) => eq_same (P := Tryd.prog) Tryd.underlying23 Tryd.underlying5 size_u8' (tkeyL zeroD 1 2) (tkeyL_len zeroD 1 2) W
  have BZ := fun W => build_d0 W
  have SK := Lib.hid (size_dig zd32); have LK := Lib.hid (len_dig zd32); have OK := Lib.hid (oneCell_ints (k := .u8) zeroD)
  have SE := Lib.hid (size_dig (tkeyL_len zeroD 1 2)); have LE := Lib.hid (len_dig (tkeyL_len zeroD 1 2)); have OE := Lib.hid (oneCell_ints (k := .u8) (tkeyL zeroD 1 2))
  have SP := Lib.hid (size_tok tk2 (minted_len zeroD tk2)); have LP : Hid (zeroTk.length = (tcell tk2 (minted zeroD tk2)).length) := Lib.hid (len_tok Nums.zero tk2 zd32 (minted_len zeroD tk2)); have OP := Lib.hid (tcell_one tk2 (minted zeroD tk2))
  have SR := Lib.hid (size_tok tk3 (minted_len zeroD tk2)); have LR : Hid (zeroTk.length = (tcell tk3 (minted zeroD tk2)).length) := Lib.hid (len_tok Nums.zero tk3 zd32 (minted_len zeroD tk2)); have OR := Lib.hid (tcell_one tk3 (minted zeroD tk2))
  have E3 : Hid (tcell tk3 (minted zeroD tk2) = (tcell tk2 (minted zeroD tk2)).set 2 (.int .u32 3)) := Lib.hid rfl; have N3 : Hid ((tcell tk2 (minted zeroD tk2)).length = 36) := Lib.hid (tcell_len _ (minted_len _ _))
  rw [hE] at SE LE OE TN EQ
  obtain ⟨C, hC⟩ : ∃ X, zeroD.map (Value.int .u8) = X := ⟨_, rfl⟩
  rw [hC] at BZ SK LK OK TN TZ TK RA RB IK
  clear hC
  obtain ⟨PA, hPA⟩ : ∃ X, tcell tk2 (minted zeroD tk2) = X := ⟨_, rfl⟩
  rw [hPA] at TK QA SP LP OP E3 N3
  clear hPA
  obtain ⟨PB, hPB⟩ : ∃ X, tcell tk3 (minted zeroD tk2) = X := ⟨_, rfl⟩
  rw [hPB] at QB SR LR OR E3
  clear hPB
  obtain ⟨FA, hFA⟩ : ∃ X, mcell (Frm.req rqA) = X := ⟨_, rfl⟩
  rw [hFA] at QA RA
  clear hFA
  obtain ⟨FB, hFB⟩ : ∃ X, mcell (Frm.req rqB) = X := ⟨_, rfl⟩
  rw [hFB] at QB RB
  clear hFB
  clear hE LR OR
  go_enter Tryd.func15, Tryd.ntmps15
  have hB0 := Below.refl w.heap.size w
  have hs0 := hB0.size
  have d_s_0 := hs0
  go_upto_region 2 with (first
    | (refine wpList_build9 rfl 23 _ rfl (us := #[]) (by rfl) (BZ _) ?_)
    | (refine wpList_store_box (cs := C) rfl _ _ _ rfl (Box.newc (l := zero32) rfl rfl) rfl rfl SK.out LK.out OK.out ?_; intro W0_0 hW0_0))
  have hN : Below w.heap.size w W0_0 := (hW0_0.below _ _ (by omega) ((Below.refl _ w).alloc (Nat.le_refl _) _))
  have x_s1 : Box W0_0 (w.heap.size) (C) := hW0_0.box
  have hB1 : Below w.heap.size w W0_0 := below_thru hB0 hN
  have hs1 := hB1.size
  clear hB0 hs0
  clear hN hW0_0
  go_wp2_with (refine wpList_load_box9 rfl _ _ rfl x_s1 rfl Tryd.underlying23 rfl SK.out ?_)
  refine (TN _ (Lib.hid (hL.out.below hB1))).mono ?_
  rintro e w2 ⟨rfl, hb⟩
  have hB2 : Below w.heap.size w w2 := below_thru hB1 hb
  have hs2 := hB2.size
  have x_s2 : Box w2 (w.heap.size) (C) := Box.below x_s1 hb
  clear hB1 hs1 x_s1
  clear hb
  have d_k_s := (x_s2).lt
  have d_k_0 := hs2
  go_upto_region 3 with (refine wpList_store_box (cs := E) rfl _ _ _ rfl (Box.newc (l := zero32) rfl rfl) rfl rfl SE.out LE.out OE.out ?_; intro W2_0 hW2_0)
  have hN : Below w2.heap.size w2 W2_0 := (hW2_0.below _ _ (by omega) ((Below.refl _ w2).alloc (Nat.le_refl _) _))
  have x_k3 : Box W2_0 (w2.heap.size) (E) := hW2_0.box
  have hB3 : Below w.heap.size w W2_0 := below_thru hB2 hN
  have hs3 := hB3.size
  have x_s3 : Box W2_0 (w.heap.size) (C) := Box.below x_s2 hN
  clear hB2 hs2 x_s2
  clear hN hW2_0
  have LB : IsL (W2_0.alloc (.cells #[.int .u8 107, .int .u8 0, .int .u8 0, .int .u8 0, .int .u8 1, .int .u8 0, .int .u8 0, .int .u8 0, .int .u8 2] 5)) .u8 (.slice (some ⟨W2_0.heap.size, 0, none⟩) 9 9) [107, 0, 0, 0, 1, 0, 0, 0, 2] := IsL.built [107, 0, 0, 0, 1, 0, 0, 0, 2] rfl rfl rfl rfl (by simp)
  go_wp2_with fail
  refine (A _ _ _ (IK.out _ _ (x_s3.alloc _)) LB (Lib.hid (hL.out.below (hB3.alloc hs3 _)))).mono ?_
  rintro e w4 ⟨rfl, hb⟩
  have hN : Below W2_0.heap.size W2_0 w4 := below_thru ((Below.refl _ _).alloc (Nat.le_refl _) _) hb
  clear hb LB
  have hB4 : Below w.heap.size w w4 := below_thru hB3 hN
  have hs4 := hB4.size
  have x_s4 : Box w4 (w.heap.size) (C) := Box.below x_s3 hN
  have x_k4 : Box w4 (w2.heap.size) (E) := Box.below x_k3 hN
  clear hB3 hs3 x_s3 x_k3
  clear hN
  have d_w_s := (x_s4).lt
  have d_w_k := (x_k4).lt
  have d_w_0 := hs4
  go_upto_region 4 with (refine wpList_store_box (cs := E) rfl _ _ _ rfl (Box.newc (l := zero32) rfl rfl) rfl rfl SE.out LE.out OE.out ?_; intro W4_0 hW4_0)
  have hN : Below w4.heap.size w4 W4_0 := (hW4_0.below _ _ (by omega) ((Below.refl _ w4).alloc (Nat.le_refl _) _))
  have x_w5 : Box W4_0 (w4.heap.size) (E) := hW4_0.box
  have hB5 : Below w.heap.size w W4_0 := below_thru hB4 hN
  have hs5 := hB5.size
  have x_s5 : Box W4_0 (w.heap.size) (C) := Box.below x_s4 hN
  have x_k5 : Box W4_0 (w2.heap.size) (E) := Box.below x_k4 hN
  clear hB4 hs4 x_s4 x_k4
  clear hN hW4_0
  go_wp2_with (refine wpList_load_box9 rfl _ _ rfl x_s5 rfl Tryd.underlying23 rfl SK.out ?_)
  refine (TK _ (Lib.hid (hL.out.below hB5))).mono ?_
  rintro e w6 ⟨rfl, hb⟩
  have hB6 : Below w.heap.size w w6 := below_thru hB5 hb
  have hs6 := hB6.size
  have x_s6 : Box w6 (w.heap.size) (C) := Box.below x_s5 hb
  have x_k6 : Box w6 (w2.heap.size) (E) := Box.below x_k5 hb
  have x_w6 : Box w6 (w4.heap.size) (E) := Box.below x_w5 hb
  clear hB5 hs5 x_s5 x_k5 x_w5
  clear hb
  have d_t_s := (x_s6).lt
  have d_t_k := (x_k6).lt
  have d_t_w := (x_w6).lt
  have d_t_0 := hs6
  go_upto_region 5 with (refine wpList_store_box (cs := PA) rfl _ _ _ rfl (Box.newc (l := zeroTk) rfl rfl) rfl rfl SP.out LP.out OP.out ?_; intro W6_0 hW6_0)
  have hN : Below w6.heap.size w6 W6_0 := (hW6_0.below _ _ (by omega) ((Below.refl _ w6).alloc (Nat.le_refl _) _))
  have x_t7 : Box W6_0 (w6.heap.size) (PA) := hW6_0.box
  have hB7 : Below w.heap.size w W6_0 := below_thru hB6 hN
  have hs7 := hB7.size
  have x_s7 : Box W6_0 (w.heap.size) (C) := Box.below x_s6 hN
  have x_k7 : Box W6_0 (w2.heap.size) (E) := Box.below x_k6 hN
  have x_w7 : Box W6_0 (w4.heap.size) (E) := Box.below x_w6 hN
  clear hB6 hs6 x_s6 x_k6 x_w6
  clear hN hW6_0
  refine wp_region_held_drew (S := fun W => Box W (w.heap.size) (C) ∧ Box W (w2.heap.size) (E) ∧ Box W (w4.heap.size) (E) ∧ Box W (w6.heap.size) (PA)) (by kernel_rfl) (And.intro (x_s7).drew (And.intro (x_k7).drew (And.intro (x_w7).drew (x_t7).drew))) (fun _ => ?_)
  refine F_drew (F := fun W => wpAnyH _ _ _ _ _ _ _ _ W) ?_
  intro Wp0 hbp0
  clear hs7
  have x_s_p0 : Box Wp0 (w.heap.size) (C) := Box.below x_s7 hbp0
  have x_k_p0 : Box Wp0 (w2.heap.size) (E) := Box.below x_k7 hbp0
  have x_w_p0 : Box Wp0 (w4.heap.size) (E) := Box.below x_w7 hbp0
  have x_t_p0 : Box Wp0 (w6.heap.size) (PA) := Box.below x_t7 hbp0
  have Bp0 := below_thru hB7 hbp0
  clear x_s7 x_k7 x_w7 x_t7 hB7 hbp0
  refine takeH 0 32 (v := .agg (C).toArray) rfl (by rfl) (by kernel_rfl) (by kernel_rfl) (by kernel_rfl) (fun _ _ _ h => h) (yieldsIf_load_mid (by rfl) _ _ rfl _ _ rfl (C) _ (fun wq hq => Box.range (hq.1)) Tryd.underlying23 rfl SK.out) ((And.intro x_s_p0 (And.intro x_k_p0 (And.intro x_w_p0 x_t_p0)))) ?_
  try simp only [Act.put, List.setIfInBounds_toArray, List.set_cons_zero, List.set_cons_succ]
  refine takeH 1 33 (v := .agg (PA).toArray) rfl (by rfl) (by kernel_rfl) (by kernel_rfl) (by kernel_rfl) (fun _ _ _ h => h) (yieldsIf_load_mid (by rfl) _ _ rfl _ _ rfl (PA) _ (fun wq hq => Box.range (hq.2.2.2)) Tryd.underlying30 rfl SP.out) ((And.intro x_s_p0 (And.intro x_k_p0 (And.intro x_w_p0 x_t_p0)))) ?_
  try simp only [Act.put, List.setIfInBounds_toArray, List.set_cons_zero, List.set_cons_succ]
  refine wpAnyH_ready (rs := [2]) (by kernel_rfl) (by simp) (AllReadyH.cons rfl (fun K hK => ?_) AllReadyH.nil)
  go_simp
  refine (QA _).mono ?_
  rintro e Wp1 ⟨rfl, hbp1⟩
  have x_s_p1 : Box Wp1 (w.heap.size) (C) := Box.below x_s_p0 hbp1
  have x_k_p1 : Box Wp1 (w2.heap.size) (E) := Box.below x_k_p0 hbp1
  have x_w_p1 : Box Wp1 (w4.heap.size) (E) := Box.below x_w_p0 hbp1
  have x_t_p1 : Box Wp1 (w6.heap.size) (PA) := Box.below x_t_p0 hbp1
  have Bp1 := below_thru Bp0 hbp1
  clear x_s_p0 x_k_p0 x_w_p0 x_t_p0 Bp0 hbp1
  refine hK.out _ _ (And.intro x_s_p1 (And.intro x_k_p1 (And.intro x_w_p1 x_t_p1))) (fun _ => ?_); clear hK K
  refine wpAnyH_ready (rs := [3]) (by kernel_rfl) (by simp) (AllReadyH.cons rfl (fun K hK => ?_) AllReadyH.nil)
  go_simp
  refine (RA _ (Lib.hid (hL.out.below Bp1))).mono ?_
  rintro e Wp2 ⟨rfl, hbp2⟩
  have x_s_p2 : Box Wp2 (w.heap.size) (C) := Box.below x_s_p1 hbp2
  have x_k_p2 : Box Wp2 (w2.heap.size) (E) := Box.below x_k_p1 hbp2
  have x_w_p2 : Box Wp2 (w4.heap.size) (E) := Box.below x_w_p1 hbp2
  have x_t_p2 : Box Wp2 (w6.heap.size) (PA) := Box.below x_t_p1 hbp2
  have Bp2 := below_thru Bp1 hbp2
  clear x_s_p1 x_k_p1 x_w_p1 x_t_p1 Bp1 hbp2
  refine hK.out _ _ (And.intro x_s_p2 (And.intro x_k_p2 (And.intro x_w_p2 x_t_p2))) (fun _ => ?_); clear hK K
  refine takeH 4 31 (v := ?vp4_3) rfl (by rfl) (by kernel_rfl) (by kernel_rfl) (by kernel_rfl) (fun _ _ _ h => h) (Or.inl ⟨by rfl, ?_⟩) ((And.intro x_s_p2 (And.intro x_k_p2 (And.intro x_w_p2 x_t_p2)))) ?_
  rotate_left
  · intro wq hSq
    go_simp
    exact rfl
  try simp only [Act.put, List.setIfInBounds_toArray, List.set_cons_zero, List.set_cons_succ]
  refine takeH 5 36 (v := ?vp5_4) rfl (by rfl) (by kernel_rfl) (by kernel_rfl) (by kernel_rfl) (fun _ _ _ h => h) (Or.inl ⟨by rfl, ?_⟩) ((And.intro x_s_p2 (And.intro x_k_p2 (And.intro x_w_p2 x_t_p2)))) ?_
  rotate_left
  · intro wq hSq
    go_simp
    exact rfl
  try simp only [Act.put, List.setIfInBounds_toArray, List.set_cons_zero, List.set_cons_succ]
  refine takeH 6 37 (v := ?vp6_5) rfl (by rfl) (by kernel_rfl) (by kernel_rfl) (by kernel_rfl) (fun _ _ _ h => h) (Or.inl ⟨by rfl, ?_⟩) ((And.intro x_s_p2 (And.intro x_k_p2 (And.intro x_w_p2 x_t_p2)))) ?_
  rotate_left
  · intro wq hSq
    go_simp
    exact rfl
  try simp only [Act.put, List.setIfInBounds_toArray, List.set_cons_zero, List.set_cons_succ]
  refine takeH 7 8 (v := ?vp7_6) rfl (by rfl) (by kernel_rfl) (by kernel_rfl) (by kernel_rfl) (fun _ _ _ h => h) (Or.inl ⟨by rfl, ?_⟩) ((And.intro x_s_p2 (And.intro x_k_p2 (And.intro x_w_p2 x_t_p2)))) ?_
  rotate_left
  · intro wq hSq
    go_simp
    exact rfl
  try simp only [Act.put, List.setIfInBounds_toArray, List.set_cons_zero, List.set_cons_succ]
  refine takeH 8 9 (v := ?vp8_7) rfl (by rfl) (by kernel_rfl) (by kernel_rfl) (by kernel_rfl) (fun _ _ _ h => h) (Or.inl ⟨by rfl, ?_⟩) ((And.intro x_s_p2 (And.intro x_k_p2 (And.intro x_w_p2 x_t_p2)))) ?_
  rotate_left
  · intro wq hSq
    go_simp
    exact rfl
  try simp only [Act.put, List.setIfInBounds_toArray, List.set_cons_zero, List.set_cons_succ]
  refine wpAnyH_done (by kernel_rfl) ?_ _
  have hB8 := Bp2; have hs8 := hB8.size
  have x_s8 := x_s_p2
  have x_k8 := x_k_p2
  have x_w8 := x_w_p2
  have x_t8 := x_t_p2
  clear Bp2 x_s_p2 x_k_p2 x_w_p2 x_t_p2
  go_upto_region 6 with fail
  have lq_s := (x_s8).lt
  have lq_k := (x_k8).lt
  have lq_w := (x_w8).lt
  have lq_t := (x_t8).lt
  go_upto_region 7 with (first | (refine wpList_store_cell (k := 2) (ws := PB) (v := .int .u32 3) rfl _ _ _ rfl x_t8 rfl rfl rfl rfl size_u32n (by rw [N3.out]; decide) E3.out ?_; intro S8_0 hS8_0))
  have x_s9 : Box S8_0 (w.heap.size) (C) := (hS8_0.past _ _ (by omega) x_s8)
  have x_k9 : Box S8_0 (w2.heap.size) (E) := (hS8_0.past _ _ (by omega) x_k8)
  have x_w9 : Box S8_0 (w4.heap.size) (E) := (hS8_0.past _ _ (by omega) x_w8)
  have x_t9 := hS8_0.box
  have hB9 := (hS8_0.below _ _ (by omega) hB8); have hs9 := hB9.size
  clear x_s8 x_k8 x_w8 x_t8 hB8 hs8 lq_s lq_k lq_w lq_t
  clear hS8_0
  refine wp_region_held_drew (S := fun W => Box W (w.heap.size) (C) ∧ Box W (w2.heap.size) (E) ∧ Box W (w4.heap.size) (E) ∧ Box W (w6.heap.size) (PB)) (by kernel_rfl) (And.intro (x_s9).drew (And.intro (x_k9).drew (And.intro (x_w9).drew (x_t9).drew))) (fun _ => ?_)
  refine F_drew (F := fun W => wpAnyH _ _ _ _ _ _ _ _ W) ?_
  intro Wq0 hbq0
  clear hs9
  have x_s_q0 : Box Wq0 (w.heap.size) (C) := Box.below x_s9 hbq0
  have x_k_q0 : Box Wq0 (w2.heap.size) (E) := Box.below x_k9 hbq0
  have x_w_q0 : Box Wq0 (w4.heap.size) (E) := Box.below x_w9 hbq0
  have x_t_q0 : Box Wq0 (w6.heap.size) (PB) := Box.below x_t9 hbq0
  have Bq0 := below_thru hB9 hbq0
  clear x_s9 x_k9 x_w9 x_t9 hB9 hbq0
  refine takeH 0 40 (v := .agg (C).toArray) rfl (by rfl) (by kernel_rfl) (by kernel_rfl) (by kernel_rfl) (fun _ _ _ h => h) (yieldsIf_load_mid (by rfl) _ _ rfl _ _ rfl (C) _ (fun wq hq => Box.range (hq.1)) Tryd.underlying23 rfl SK.out) ((And.intro x_s_q0 (And.intro x_k_q0 (And.intro x_w_q0 x_t_q0)))) ?_
  try simp only [Act.put, List.setIfInBounds_toArray, List.set_cons_zero, List.set_cons_succ]
  refine takeH 1 41 (v := .agg (PB).toArray) rfl (by rfl) (by kernel_rfl) (by kernel_rfl) (by kernel_rfl) (fun _ _ _ h => h) (yieldsIf_load_mid (by rfl) _ _ rfl _ _ rfl (PB) _ (fun wq hq => Box.range (hq.2.2.2)) Tryd.underlying30 rfl SR.out) ((And.intro x_s_q0 (And.intro x_k_q0 (And.intro x_w_q0 x_t_q0)))) ?_
  try simp only [Act.put, List.setIfInBounds_toArray, List.set_cons_zero, List.set_cons_succ]
  refine wpAnyH_ready (rs := [2]) (by kernel_rfl) (by simp) (AllReadyH.cons rfl (fun K hK => ?_) AllReadyH.nil)
  go_simp
  refine (QB _).mono ?_
  rintro e Wq1 ⟨rfl, hbq1⟩
  have x_s_q1 : Box Wq1 (w.heap.size) (C) := Box.below x_s_q0 hbq1
  have x_k_q1 : Box Wq1 (w2.heap.size) (E) := Box.below x_k_q0 hbq1
  have x_w_q1 : Box Wq1 (w4.heap.size) (E) := Box.below x_w_q0 hbq1
  have x_t_q1 : Box Wq1 (w6.heap.size) (PB) := Box.below x_t_q0 hbq1
  have Bq1 := below_thru Bq0 hbq1
  clear x_s_q0 x_k_q0 x_w_q0 x_t_q0 Bq0 hbq1
  refine hK.out _ _ (And.intro x_s_q1 (And.intro x_k_q1 (And.intro x_w_q1 x_t_q1))) (fun _ => ?_); clear hK K
  refine wpAnyH_ready (rs := [3]) (by kernel_rfl) (by simp) (AllReadyH.cons rfl (fun K hK => ?_) AllReadyH.nil)
  go_simp
  refine (RB _ (Lib.hid (hL.out.below Bq1))).mono ?_
  rintro e Wq2 ⟨rfl, hbq2⟩
  have x_s_q2 : Box Wq2 (w.heap.size) (C) := Box.below x_s_q1 hbq2
  have x_k_q2 : Box Wq2 (w2.heap.size) (E) := Box.below x_k_q1 hbq2
  have x_w_q2 : Box Wq2 (w4.heap.size) (E) := Box.below x_w_q1 hbq2
  have x_t_q2 : Box Wq2 (w6.heap.size) (PB) := Box.below x_t_q1 hbq2
  have Bq2 := below_thru Bq1 hbq2
  clear x_s_q1 x_k_q1 x_w_q1 x_t_q1 Bq1 hbq2
  refine hK.out _ _ (And.intro x_s_q2 (And.intro x_k_q2 (And.intro x_w_q2 x_t_q2))) (fun _ => ?_); clear hK K
  refine takeH 4 39 (v := ?vq4_3) rfl (by rfl) (by kernel_rfl) (by kernel_rfl) (by kernel_rfl) (fun _ _ _ h => h) (Or.inl ⟨by rfl, ?_⟩) ((And.intro x_s_q2 (And.intro x_k_q2 (And.intro x_w_q2 x_t_q2)))) ?_
  rotate_left
  · intro wq hSq
    go_simp
    exact rfl
  try simp only [Act.put, List.setIfInBounds_toArray, List.set_cons_zero, List.set_cons_succ]
  refine takeH 5 44 (v := ?vq5_4) rfl (by rfl) (by kernel_rfl) (by kernel_rfl) (by kernel_rfl) (fun _ _ _ h => h) (Or.inl ⟨by rfl, ?_⟩) ((And.intro x_s_q2 (And.intro x_k_q2 (And.intro x_w_q2 x_t_q2)))) ?_
  rotate_left
  · intro wq hSq
    go_simp
    exact rfl
  try simp only [Act.put, List.setIfInBounds_toArray, List.set_cons_zero, List.set_cons_succ]
  refine takeH 6 45 (v := ?vq6_5) rfl (by rfl) (by kernel_rfl) (by kernel_rfl) (by kernel_rfl) (fun _ _ _ h => h) (Or.inl ⟨by rfl, ?_⟩) ((And.intro x_s_q2 (And.intro x_k_q2 (And.intro x_w_q2 x_t_q2)))) ?_
  rotate_left
  · intro wq hSq
    go_simp
    exact rfl
  try simp only [Act.put, List.setIfInBounds_toArray, List.set_cons_zero, List.set_cons_succ]
  refine takeH 7 10 (v := ?vq7_6) rfl (by rfl) (by kernel_rfl) (by kernel_rfl) (by kernel_rfl) (fun _ _ _ h => h) (Or.inl ⟨by rfl, ?_⟩) ((And.intro x_s_q2 (And.intro x_k_q2 (And.intro x_w_q2 x_t_q2)))) ?_
  rotate_left
  · intro wq hSq
    go_simp
    exact rfl
  try simp only [Act.put, List.setIfInBounds_toArray, List.set_cons_zero, List.set_cons_succ]
  refine takeH 8 11 (v := ?vq8_7) rfl (by rfl) (by kernel_rfl) (by kernel_rfl) (by kernel_rfl) (fun _ _ _ h => h) (Or.inl ⟨by rfl, ?_⟩) ((And.intro x_s_q2 (And.intro x_k_q2 (And.intro x_w_q2 x_t_q2)))) ?_
  rotate_left
  · intro wq hSq
    go_simp
    exact rfl
  try simp only [Act.put, List.setIfInBounds_toArray, List.set_cons_zero, List.set_cons_succ]
  refine wpAnyH_done (by kernel_rfl) ?_ _
  have hB10 := Bq2; have hs10 := hB10.size
  have x_s10 := x_s_q2
  have x_k10 := x_k_q2
  have x_w10 := x_w_q2
  have x_t10 := x_t_q2
  clear Bq2 x_s_q2 x_k_q2 x_w_q2 x_t_q2
  go_upto_region 8 with fail
  go_wp2_with (refine wpList_load_box9 rfl _ _ rfl x_s10 rfl Tryd.underlying23 rfl SK.out ?_)
  refine (TZ _ (Lib.hid (hL.out.below hB10))).mono ?_
  rintro e w11 ⟨rfl, hb⟩
  have hB11 : Below w.heap.size w w11 := below_thru hB10 hb
  have hs11 := hB11.size
  have x_s11 : Box w11 (w.heap.size) (C) := Box.below x_s10 hb
  have x_k11 : Box w11 (w2.heap.size) (E) := Box.below x_k10 hb
  have x_w11 : Box w11 (w4.heap.size) (E) := Box.below x_w10 hb
  have x_t11 : Box w11 (w6.heap.size) (PB) := Box.below x_t10 hb
  clear hB10 hs10 x_s10 x_k10 x_w10 x_t10
  clear hb
  have d_z_s := (x_s11).lt
  have d_z_k := (x_k11).lt
  have d_z_w := (x_w11).lt
  have d_z_t := (x_t11).lt
  have d_z_0 := hs11
  go_upto_region 9 with (refine wpList_store_box (cs := C) rfl _ _ _ rfl (Box.newc (l := zero32) rfl rfl) rfl rfl SK.out LK.out OK.out ?_; intro W11_0 hW11_0)
  have hN : Below w11.heap.size w11 W11_0 := (hW11_0.below _ _ (by omega) ((Below.refl _ w11).alloc (Nat.le_refl _) _))
  have x_z12 : Box W11_0 (w11.heap.size) (C) := hW11_0.box
  have hB12 : Below w.heap.size w W11_0 := below_thru hB11 hN
  have hs12 := hB12.size
  have x_s12 : Box W11_0 (w.heap.size) (C) := Box.below x_s11 hN
  have x_k12 : Box W11_0 (w2.heap.size) (E) := Box.below x_k11 hN
  have x_w12 : Box W11_0 (w4.heap.size) (E) := Box.below x_w11 hN
  have x_t12 : Box W11_0 (w6.heap.size) (PB) := Box.below x_t11 hN
  clear hB11 hs11 x_s11 x_k11 x_w11 x_t11
  clear hN hW11_0
  go_wp2_with (first | (refine wpList_load_box9 rfl _ _ rfl x_k12 rfl Tryd.underlying23 rfl SE.out ?_) | (refine wpList_load_box9 rfl _ _ rfl x_w12 rfl Tryd.underlying23 rfl SE.out ?_))
  go_returns
  exact ⟨rfl, hB12⟩


end Go.Proofs.YtofjpeplgagihaaDoor
