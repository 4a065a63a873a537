/-
  Package frame, walked: frameOf, Parse.
-/
import Derived.Test.YtkpdlbcmnfphmaaFmJ
namespace Go.Proofs.Ytkpdlbcmnfphmaa
open Go.RowKit

set_option maxRecDepth 100000 in
theorem build_fr (k : Nums) {g : List Int} (h : g.length = 32) (e c : Int) (W : World) : (Instr.build 43 #[(0, .int .u8 1), (1, .agg (tcell k g ++ [Value.int .u16 e, Value.int .u32 c]).toArray)]).run Try.prog W = .ok (.agg (Value.int .u8 1 :: ((tcell k g ++ [Value.int .u16 e, Value.int .u32 c]) ++ ccell Cmd.zero)).toArray) W := by
  obtain ⟨x0, x1, x2, x3, x4, x5, x6, x7, x8, x9, x10, x11, x12, x13, x14, x15, x16, x17, x18, x19, x20, x21, x22, x23, x24, x25, x26, x27, x28, x29, x30, x31, rfl⟩ := list32 h
  kernel_rfl
set_option maxRecDepth 100000 in
theorem build_fc' (op t u b0 r0 p0 b1 r1 p1 b2 r2 p2 us en x : Int) {g : List Int} (h : g.length = 32) (W : World) : (Instr.build 43 #[(0, .int .u8 2), (2, .agg (.int .u8 op :: .int .u32 t :: .int .u32 u :: .int .i64 b0 :: .int .i64 r0 :: .int .i64 p0 :: .int .i64 b1 :: .int .i64 r1 :: .int .i64 p1 :: .int .i64 b2 :: .int .i64 r2 :: .int .i64 p2 :: .int .u8 us :: .int .u8 en :: .int .u64 x :: g.map (Value.int .u8)).toArray)]).run Try.prog W =
    .ok (.agg (Value.int .u8 2 :: (rcell Req.zero ++ (.int .u8 op :: .int .u32 t :: .int .u32 u :: .int .i64 b0 :: .int .i64 r0 :: .int .i64 p0 :: .int .i64 b1 :: .int .i64 r1 :: .int .i64 p1 :: .int .i64 b2 :: .int .i64 r2 :: .int .i64 p2 :: .int .u8 us :: .int .u8 en :: .int .u64 x :: g.map (Value.int .u8)))).toArray) W := by
  obtain ⟨x0, x1, x2, x3, x4, x5, x6, x7, x8, x9, x10, x11, x12, x13, x14, x15, x16, x17, x18, x19, x20, x21, x22, x23, x24, x25, x26, x27, x28, x29, x30, x31, rfl⟩ := list32 h
  kernel_rfl
theorem build_mr (r : Req) (W : World) : (Instr.build 43 #[(0, .int .u8 1), (1, .agg (rcell r).toArray)]).run Try.prog W = .ok (.agg (mcell (Frm.req r)).toArray) W := build_fr r.k r.hg r.ep r.co W
theorem build_mc (c : Cmd) (W : World) : (Instr.build 43 #[(0, .int .u8 2), (2, .agg (ccell c).toArray)]).run Try.prog W = .ok (.agg (mcell (Frm.cmd c)).toArray) W :=
  build_fc' c.op c.t c.u c.l0.b c.l0.r c.l0.p c.l1.b c.l1.r c.l1.p c.l2.b c.l2.r c.l2.p c.us c.en c.x c.hg W
theorem msg_two (c : Cmd) : c.msg ++ c.g = 2 :: (beL wsC c.ns ++ c.g) := by
  unfold Cmd.msg
  rw [beL]
  rfl

set_option maxRecDepth 100000 in
set_option maxHeartbeats 3200000 in
theorem fo_1 (r : Req) {v : Value} (w : World) (h1 : IsL w .u8 v (1 :: r.bs)) : Calls Try.prog 28 #[v] w fun e w' => e = .returned (.agg (mcell (Frm.req r)).toArray) ∧ Below w.heap.size w w' := by
  have SZ := Lib.hid (size_frm Frm.zero); have SF := Lib.hid (size_frm (Frm.req r)); have LF9 := Lib.hid (len_frm Frm.zero (Frm.req r)); have OF := Lib.hid (one_frm (Frm.req r))
  have hl : (1 :: r.bs).length = 59 := by rw [List.length_cons, r.bs_len]
  obtain ⟨a0, c0, rfl, hr, _⟩ := id h1
  have i1 := hr.room
  have i2 := hr.most
  obtain ⟨b, off, rfl, cb⟩ := h1.get 0 (by omega)
  rw [Nat.add_zero] at cb
  rw [show nth (1 :: r.bs) 0 = 1 from rfl] at cb
  have S1 := Lib.hid (show IsL w .u8 (.slice (some ⟨b, off + 1, none⟩) 58 (c0 - 1)) r.bs from h1.dropped (m := 1) (by omega) (by omega) rfl (Or.inl rfl))
  have RQ := fun (W : World) (v : Value) (h : IsL W .u8 v r.bs) => rqof_is r W h
  have BF := fun W => build_mr r W
  have j1 : ¬ c0 = 1 := by omega
  have j0 : ¬ c0 = 0 := by omega
  have q1 : (1 : Int) ≤ (c0 : Int) := by omega
  rw [hl] at i1 ⊢
  obtain ⟨R, hR⟩ : ∃ V, rcell r = V := ⟨_, rfl⟩
  obtain ⟨F, hF⟩ : ∃ V, mcell (Frm.req r) = V := ⟨_, rfl⟩
  rw [hR] at RQ BF
  rw [hF] at BF SF LF9 OF ⊢
  clear hr h1 hl hR hF
  go_enter Try.func28, Try.ntmps28
  go_upto_region 1 with fail
  refine F_gen (F := fun W => Code.wp _ _ _ _ W) (J := fun W => Box W (w.heap.size) (mcell Frm.zero) ∧ Below w.heap.size w W) (And.intro (Box.newc rfl rfl) (by go_grown)) ?_
  intro w0 ⟨e_r, hB0⟩
  have hs0 := hB0.size
  have x_r0 := e_r; clear e_r
  have hcell := cell_below hB0 cb; have zcell := lt_of_cell hcell
  go_wp2_with fail
  refine (RQ _ _ (S1.out.below hB0)).mono ?_
  rintro e w1 ⟨rfl, hb⟩
  have hB1 : Below w.heap.size w w1 := below_thru hB0 hb
  have hs1 := hB1.size
  have x_r1 : Box w1 (w.heap.size) (mcell Frm.zero) := Box.below x_r0 hb
  clear hB0 hs0 x_r0
  clear hb hcell zcell
  go_wp2_with (first | (refine wpList_build9 rfl 43 _ rfl (us := #[(0, .int .u8 1), (1, .agg R.toArray)]) (by rfl) (BF _) ?_) | (refine wpList_store_box (cs := F) rfl _ _ _ rfl x_r1 rfl rfl SF.out LF9.out OF.out ?_; intro W99 hW99))
  exact bodyPost_ret (results_box Try.results28 hW99.box rfl Try.underlying43 rfl SF.out) rfl ⟨rfl, hW99.below _ _ (by omega) hB1⟩

set_option maxRecDepth 100000 in
set_option maxHeartbeats 3200000 in
theorem fo_2 (c : Cmd) (hw : c.wd) {v : Value} (w : World) (h1 : IsL w .u8 v (c.msg ++ c.g)) : Calls Try.prog 28 #[v] w fun e w' => e = .returned (.agg (mcell (Frm.cmd c)).toArray) ∧ Below w.heap.size w w' := by
  have SZ := Lib.hid (size_frm Frm.zero); have SF := Lib.hid (size_frm (Frm.cmd c)); have LF9 := Lib.hid (len_frm Frm.zero (Frm.cmd c)); have OF := Lib.hid (one_frm (Frm.cmd c))
  have hl : (c.msg ++ c.g).length = 88 := by rw [List.length_append, Cmd.msg_len hw, c.hg]
  obtain ⟨a0, c0, rfl, hr, _⟩ := id h1
  have i1 := hr.room
  have i2 := hr.most
  obtain ⟨b, off, rfl, cb⟩ := h1.get 0 (by omega)
  rw [Nat.add_zero] at cb
  rw [show nth (c.msg ++ c.g) 0 = 2 by rw [msg_two]; rfl] at cb
  have S1 := Lib.hid h1
  have CQ := fun (W : World) (v : Value) (h : IsL W .u8 v (c.msg ++ c.g)) => cmdof_is c hw W h
  have BF := fun W => build_mc c W
  rw [hl] at i1 S1 ⊢
  obtain ⟨C, hC⟩ : ∃ V, ccell c = V := ⟨_, rfl⟩
  obtain ⟨X, hX⟩ : ∃ V, c.msg ++ c.g = V := ⟨_, rfl⟩
  obtain ⟨F, hF⟩ : ∃ V, mcell (Frm.cmd c) = V := ⟨_, rfl⟩
  rw [hC] at CQ BF
  rw [hX] at CQ S1
  rw [hF] at BF SF LF9 OF ⊢
  clear hr h1 hl hC hF hX hw
  go_enter Try.func28, Try.ntmps28
  go_upto_region 1 with fail
  refine F_gen (F := fun W => Code.wp _ _ _ _ W) (J := fun W => Box W (w.heap.size) (mcell Frm.zero) ∧ Below w.heap.size w W) (And.intro (Box.newc rfl rfl) (by go_grown)) ?_
  intro w0 ⟨e_r, hB0⟩
  have hs0 := hB0.size
  have x_r0 := e_r; clear e_r
  have hcell := cell_below hB0 cb; have zcell := lt_of_cell hcell
  go_wp2_with fail
  refine (CQ _ _ (S1.out.below hB0)).mono ?_
  rintro e w1 ⟨rfl, hb⟩
  have hB1 : Below w.heap.size w w1 := below_thru hB0 hb
  have hs1 := hB1.size
  have x_r1 : Box w1 (w.heap.size) (mcell Frm.zero) := Box.below x_r0 hb
  clear hB0 hs0 x_r0
  clear hb hcell zcell
  go_wp2_with (first | (refine wpList_build9 rfl 43 _ rfl (us := #[(0, .int .u8 2), (2, .agg C.toArray)]) (by rfl) (BF _) ?_) | (refine wpList_store_box (cs := F) rfl _ _ _ rfl x_r1 rfl rfl SF.out LF9.out OF.out ?_; intro W99 hW99))
  exact bodyPost_ret (results_box Try.results28 hW99.box rfl Try.underlying43 rfl SF.out) rfl ⟨rfl, hW99.below _ _ (by omega) hB1⟩

set_option maxRecDepth 100000 in
set_option maxHeartbeats 3200000 in
theorem fo_n {bs : List Int} (d1 : ((bs.length : Int) == 59) = false) (d2 : ((bs.length : Int) == 88) = false) {v : Value} (w : World) (h1 : IsL w .u8 v bs) : Calls Try.prog 28 #[v] w fun e w' => e = .returned (.agg (mcell Frm.zero).toArray) ∧ Below w.heap.size w w' := by
  have SZ := Lib.hid (size_frm Frm.zero); have SF := Lib.hid (size_frm Frm.zero); have OF := Lib.hid (one_frm Frm.zero)
  obtain ⟨a0, c0, rfl, hr, _⟩ := id h1
  have i1 := hr.room
  have i2 := hr.most
  have BZ := fun W => build_m0 W
  obtain ⟨F, hF⟩ : ∃ V, mcell Frm.zero = V := ⟨_, rfl⟩
  rw [hF] at BZ SF OF ⊢
  have LF9 : Hid ((mcell Frm.zero).length = F.length) := Lib.hid (by rw [hF])
  clear hF
  clear hr h1
  go_enter Try.func28, Try.ntmps28
  go_upto_region 1 with fail
  refine F_gen (F := fun W => Code.wp _ _ _ _ W) (J := fun W => Box W (w.heap.size) (mcell Frm.zero) ∧ Below w.heap.size w W) (And.intro (Box.newc rfl rfl) (by go_grown)) ?_
  intro w0 ⟨e_r, hB0⟩
  have hs0 := hB0.size
  have x_r0 := e_r; clear e_r
  go_wp2_with (first | (refine wpList_build9 rfl 43 _ rfl (us := #[]) (by rfl) (BZ _) ?_) | (refine wpList_store_box (cs := F) rfl _ _ _ rfl x_r0 rfl rfl SF.out LF9.out OF.out ?_; intro W99 hW99))
  exact bodyPost_ret (results_box Try.results28 hW99.box rfl Try.underlying43 rfl SF.out) rfl ⟨rfl, hW99.below _ _ (by omega) hB0⟩

set_option maxRecDepth 100000 in
set_option maxHeartbeats 3200000 in
theorem fo_n1 {bs : List Int} (hl : bs.length = 59) (d1 : (nth bs 0 == 1) = false) {v : Value} (w : World) (h1 : IsL w .u8 v bs) : Calls Try.prog 28 #[v] w fun e w' => e = .returned (.agg (mcell Frm.zero).toArray) ∧ Below w.heap.size w w' := by
  have SZ := Lib.hid (size_frm Frm.zero); have SF := Lib.hid (size_frm Frm.zero); have OF := Lib.hid (one_frm Frm.zero)
  obtain ⟨a0, c0, rfl, hr, _⟩ := id h1
  have i1 := hr.room
  have i2 := hr.most
  obtain ⟨b, off, rfl, cb⟩ := h1.get 0 (by omega)
  rw [Nat.add_zero] at cb
  rw [hl] at i1 ⊢
  obtain ⟨x, hx⟩ : ∃ x, nth bs 0 = x := ⟨_, rfl⟩
  rw [hx] at cb d1
  have BZ := fun W => build_m0 W
  obtain ⟨F, hF⟩ : ∃ V, mcell Frm.zero = V := ⟨_, rfl⟩
  rw [hF] at BZ SF OF ⊢
  have LF9 : Hid ((mcell Frm.zero).length = F.length) := Lib.hid (by rw [hF])
  clear hF
  clear hr h1 hl hx
  go_enter Try.func28, Try.ntmps28
  go_upto_region 1 with fail
  refine F_gen (F := fun W => Code.wp _ _ _ _ W) (J := fun W => Box W (w.heap.size) (mcell Frm.zero) ∧ Below w.heap.size w W) (And.intro (Box.newc rfl rfl) (by go_grown)) ?_
  intro w0 ⟨e_r, hB0⟩
  have hs0 := hB0.size
  have x_r0 := e_r; clear e_r
  have hcell := cell_below hB0 cb; have zcell := lt_of_cell hcell
  go_wp2_with (first | (refine wpList_build9 rfl 43 _ rfl (us := #[]) (by rfl) (BZ _) ?_) | (refine wpList_store_box (cs := F) rfl _ _ _ rfl x_r0 rfl rfl SF.out LF9.out OF.out ?_; intro W99 hW99))
  exact bodyPost_ret (results_box Try.results28 hW99.box rfl Try.underlying43 rfl SF.out) rfl ⟨rfl, hW99.below _ _ (by omega) hB0⟩

set_option maxRecDepth 100000 in
set_option maxHeartbeats 3200000 in
theorem fo_n2 {bs : List Int} (hl : bs.length = 88) (d1 : (nth bs 0 == 2) = false) {v : Value} (w : World) (h1 : IsL w .u8 v bs) : Calls Try.prog 28 #[v] w fun e w' => e = .returned (.agg (mcell Frm.zero).toArray) ∧ Below w.heap.size w w' := by
  have SZ := Lib.hid (size_frm Frm.zero); have SF := Lib.hid (size_frm Frm.zero); have OF := Lib.hid (one_frm Frm.zero)
  obtain ⟨a0, c0, rfl, hr, _⟩ := id h1
  have i1 := hr.room
  have i2 := hr.most
  obtain ⟨b, off, rfl, cb⟩ := h1.get 0 (by omega)
  rw [Nat.add_zero] at cb
  rw [hl] at i1 ⊢
  obtain ⟨x, hx⟩ : ∃ x, nth bs 0 = x := ⟨_, rfl⟩
  rw [hx] at cb d1
  have BZ := fun W => build_m0 W
  obtain ⟨F, hF⟩ : ∃ V, mcell Frm.zero = V := ⟨_, rfl⟩
  rw [hF] at BZ SF OF ⊢
  have LF9 : Hid ((mcell Frm.zero).length = F.length) := Lib.hid (by rw [hF])
  clear hF
  clear hr h1 hl hx
  go_enter Try.func28, Try.ntmps28
  go_upto_region 1 with fail
  refine F_gen (F := fun W => Code.wp _ _ _ _ W) (J := fun W => Box W (w.heap.size) (mcell Frm.zero) ∧ Below w.heap.size w W) (And.intro (Box.newc rfl rfl) (by go_grown)) ?_
  intro w0 ⟨e_r, hB0⟩
  have hs0 := hB0.size
  have x_r0 := e_r; clear e_r
  have hcell := cell_below hB0 cb; have zcell := lt_of_cell hcell
  go_wp2_with (first | (refine wpList_build9 rfl 43 _ rfl (us := #[]) (by rfl) (BZ _) ?_) | (refine wpList_store_box (cs := F) rfl _ _ _ rfl x_r0 rfl rfl SF.out LF9.out OF.out ?_; intro W99 hW99))
  exact bodyPost_ret (results_box Try.results28 hW99.box rfl Try.underlying43 rfl SF.out) rfl ⟨rfl, hW99.below _ _ (by omega) hB0⟩

set_option maxRecDepth 100000 in
set_option maxHeartbeats 3200000 in
theorem pa_t (G : Frm) (h : G.Ok) {v : Value} (w : World) (FO : ∀ W, Below w.heap.size w W → Calls Try.prog 28 #[v] W fun e w' => e = .returned (.agg (mcell G).toArray) ∧ Below W.heap.size W w') : Calls Try.prog 12 #[v] w fun e w' => e = .returned (.tuple #[.agg (mcell G).toArray, .int .i64 0]) ∧ Below w.heap.size w w' := by
  have SZ := Lib.hid (size_frm Frm.zero); have SG := Lib.hid (size_frm G); have LG := Lib.hid (len_frm Frm.zero G); have OG := Lib.hid (one_frm G); have OZ := Lib.hid (one_frm Frm.zero); have LZ := Lib.hid (len_frm Frm.zero Frm.zero)
  have CK := fun W => chk_is G (q := 0) (Lib.hid (Or.inl ⟨rfl, h⟩)) W
  have BZ := fun W => build_m0 W
  obtain ⟨V, hV⟩ : ∃ V, mcell G = V := ⟨_, rfl⟩
  rw [hV] at FO SG LG OG CK ⊢
  clear hV h
  go_enter Try.func12, Try.ntmps12
  go_upto_region 1 with fail
  refine F_gen (F := fun W => Code.wp _ _ _ _ W) (J := fun W => Box W (w.heap.size) (mcell Frm.zero) ∧ Below w.heap.size w W) (And.intro (Box.newc rfl rfl) (by go_grown)) ?_
  intro w0 ⟨e_r, hB0⟩
  have hs0 := hB0.size
  have x_r0 := e_r; clear e_r
  go_wp2_with fail
  refine (FO _ hB0).mono ?_
  rintro e w1 ⟨rfl, hb⟩
  clear FO
  have hB1 : Below w.heap.size w w1 := below_thru hB0 hb
  have hs1 := hB1.size
  have x_r1 : Box w1 (w.heap.size) (mcell Frm.zero) := Box.below x_r0 hb
  clear hB0 hs0 x_r0
  clear hb
  have d_f_r := (x_r1).lt
  have d_f_0 := hs1
  go_upto_region 2 with (refine wpList_store_box (cs := V) rfl _ _ _ rfl (Box.newc (l := mcell Frm.zero) rfl rfl) rfl rfl SG.out LG.out OG.out ?_; intro W1_0 hW1_0)
  have hN : Below w1.heap.size w1 W1_0 := (hW1_0.below _ _ (by omega) ((Below.refl _ w1).alloc (Nat.le_refl _) _))
  have x_f2 : Box W1_0 (w1.heap.size) (V) := hW1_0.box
  have hB2 : Below w.heap.size w W1_0 := below_thru hB1 hN
  have hs2 := hB2.size
  have x_r2 : Box W1_0 (w.heap.size) (mcell Frm.zero) := Box.below x_r1 hN
  clear hB1 hs1 x_r1
  clear hN hW1_0
  go_wp2_with (refine wpList_load_box9 rfl _ _ rfl x_f2 rfl Try.underlying43 rfl SG.out ?_)
  refine (CK _).mono ?_
  rintro e w3 ⟨rfl, hb⟩
  clear CK
  have hB3 : Below w.heap.size w w3 := below_thru hB2 hb
  have hs3 := hB3.size
  have x_r3 : Box w3 (w.heap.size) (mcell Frm.zero) := Box.below x_r2 hb
  have x_f3 : Box w3 (w1.heap.size) (V) := Box.below x_f2 hb
  clear hB2 hs2 x_r2 x_f2
  clear hb
  go_wp2_with (first | (refine wpList_load_box9 rfl _ _ rfl x_f3 rfl Try.underlying43 rfl SG.out ?_) | (refine wpList_store_box (cs := V) rfl _ _ _ rfl x_r3 rfl rfl SG.out LG.out OG.out ?_; intro W99 hW99))
  exact bodyPost_ret (results_box2 Try.results12 hW99.box rfl rfl Try.underlying43 rfl SG.out) rfl ⟨rfl, hW99.below _ _ (by omega) hB3⟩

set_option maxRecDepth 100000 in
set_option maxHeartbeats 3200000 in
theorem pa_f (G : Frm) (h : ¬ G.Ok) {v : Value} (w : World) (FO : ∀ W, Below w.heap.size w W → Calls Try.prog 28 #[v] W fun e w' => e = .returned (.agg (mcell G).toArray) ∧ Below W.heap.size W w') : Calls Try.prog 12 #[v] w fun e w' => e = .returned (.tuple #[.agg (mcell Frm.zero).toArray, .int .i64 12]) ∧ Below w.heap.size w w' := by
  have SZ := Lib.hid (size_frm Frm.zero); have SG := Lib.hid (size_frm G); have LG := Lib.hid (len_frm Frm.zero G); have OG := Lib.hid (one_frm G); have OZ := Lib.hid (one_frm Frm.zero); have LZ := Lib.hid (len_frm Frm.zero Frm.zero)
  have CK := fun W => chk_is G (q := 8) (Lib.hid (Or.inr ⟨rfl, h⟩)) W
  have BZ := fun W => build_m0 W
  obtain ⟨V, hV⟩ : ∃ V, mcell G = V := ⟨_, rfl⟩
  rw [hV] at FO SG LG OG CK
  obtain ⟨Z, hZ⟩ : ∃ V, mcell Frm.zero = V := ⟨_, rfl⟩
  have SZ2 := SZ; have LZ2 : Hid ((mcell Frm.zero).length = Z.length) := Lib.hid (by rw [hZ])
  rw [hZ] at BZ OZ SZ2 ⊢
  clear hZ
  clear hV h
  go_enter Try.func12, Try.ntmps12
  go_upto_region 1 with fail
  refine F_gen (F := fun W => Code.wp _ _ _ _ W) (J := fun W => Box W (w.heap.size) (mcell Frm.zero) ∧ Below w.heap.size w W) (And.intro (Box.newc rfl rfl) (by go_grown)) ?_
  intro w0 ⟨e_r, hB0⟩
  have hs0 := hB0.size
  have x_r0 := e_r; clear e_r
  go_wp2_with fail
  refine (FO _ hB0).mono ?_
  rintro e w1 ⟨rfl, hb⟩
  clear FO
  have hB1 : Below w.heap.size w w1 := below_thru hB0 hb
  have hs1 := hB1.size
  have x_r1 : Box w1 (w.heap.size) (mcell Frm.zero) := Box.below x_r0 hb
  clear hB0 hs0 x_r0
  clear hb
  have d_f_r := (x_r1).lt
  have d_f_0 := hs1
  go_upto_region 2 with (refine wpList_store_box (cs := V) rfl _ _ _ rfl (Box.newc (l := mcell Frm.zero) rfl rfl) rfl rfl SG.out LG.out OG.out ?_; intro W1_0 hW1_0)
  have hN : Below w1.heap.size w1 W1_0 := (hW1_0.below _ _ (by omega) ((Below.refl _ w1).alloc (Nat.le_refl _) _))
  have x_f2 : Box W1_0 (w1.heap.size) (V) := hW1_0.box
  have hB2 : Below w.heap.size w W1_0 := below_thru hB1 hN
  have hs2 := hB2.size
  have x_r2 : Box W1_0 (w.heap.size) (mcell Frm.zero) := Box.below x_r1 hN
  clear hB1 hs1 x_r1
  clear hN hW1_0
  go_wp2_with (refine wpList_load_box9 rfl _ _ rfl x_f2 rfl Try.underlying43 rfl SG.out ?_)
  refine (CK _).mono ?_
  rintro e w3 ⟨rfl, hb⟩
  clear CK
  have hB3 : Below w.heap.size w w3 := below_thru hB2 hb
  have hs3 := hB3.size
  have x_r3 : Box w3 (w.heap.size) (mcell Frm.zero) := Box.below x_r2 hb
  have x_f3 : Box w3 (w1.heap.size) (V) := Box.below x_f2 hb
  clear hB2 hs2 x_r2 x_f2
  clear hb
  go_wp2_with (first | (refine wpList_build9 rfl 43 _ rfl (us := #[]) (by rfl) (BZ _) ?_) | (refine wpList_store_box (cs := Z) rfl _ _ _ rfl x_r3 rfl rfl SZ2.out LZ2.out OZ.out ?_; intro W99 hW99))
  exact bodyPost_ret (results_box2 Try.results12 hW99.box rfl rfl Try.underlying43 rfl SZ2.out) rfl ⟨rfl, hW99.below _ _ (by omega) hB3⟩

/-- What a function that parses answers. -/
def Parses (f : FuncId) (bs : List Int) (G : Frm) (q : Int) : Prop := ∀ (W : World) (v : Value), IsL W .u8 v bs → Calls Try.prog f #[v] W fun e w' => e = .returned (.tuple #[.agg (mcell G).toArray, .int .i64 q]) ∧ Below W.heap.size W w'
def ParseOf (bs : List Int) (G : Frm) (q : Int) : Prop := (q = 0 ∧ G.Ok ∧ G.bs = bs) ∨ (q = 12 ∧ G = Frm.zero ∧ ∀ F : Frm, F.Ok → F.bs ≠ bs)
theorem ParseOf.uniq {bs : List Int} {G H : Frm} {p q : Int} (h1 : ParseOf bs G p) (h2 : ParseOf bs H q) : G = H ∧ p = q := by
  rcases h1 with ⟨rfl, a1, b1⟩ | ⟨rfl, a1, b1⟩ <;> rcases h2 with ⟨rfl, a2, b2⟩ | ⟨rfl, a2, b2⟩
  · exact ⟨Frm.ok_inj a1 a2 (b1.trans b2.symm), rfl⟩
  · exact absurd b1 (b2 G a1)
  · exact absurd b2 (b1 H a2)
  · exact ⟨a1.trans a2.symm, rfl⟩
/-- What bytes may be a frame's: a request's, a command's, or none. -/
theorem bytes_three (bs : List Int) (hb : Byts bs) : (∃ r : Req, bs = 1 :: r.bs) ∨ (∃ c : Cmd, c.wd ∧ bs = c.msg ++ c.g) ∨ (bs.length = 59 ∧ nth bs 0 ≠ 1) ∨ (bs.length = 88 ∧ nth bs 0 ≠ 2) ∨ (bs.length ≠ 59 ∧ bs.length ≠ 88) := by
  by_cases h1 : bs.length = 59
  · match bs, h1 with
    | x :: xs, h1 =>
      by_cases hx : x = 1
      · subst hx
        obtain ⟨r, hr⟩ := Req.of_bytes (bs := xs) (by simpa using h1) (fun y hy => hb y (by simp [hy]))
        exact Or.inl ⟨r, by rw [hr]⟩
      · exact Or.inr (Or.inr (Or.inl ⟨h1, hx⟩))
  by_cases h2 : bs.length = 88
  · match bs, h2 with
    | x :: xs, h2 =>
      by_cases hx : x = 2
      · subst hx
        obtain ⟨c, hc, e⟩ := Cmd.of_bytes (bs := xs) (by simpa using h2) (fun y hy => hb y (by simp [hy]))
        exact Or.inr (Or.inl ⟨c, hc, by rw [msg_two, e]⟩)
      · exact Or.inr (Or.inr (Or.inr (Or.inl ⟨h2, hx⟩)))
  exact Or.inr (Or.inr (Or.inr (Or.inr ⟨h1, h2⟩)))
theorem Frm.bs_first {F : Frm} (h : F.Ok) : (F.bs.length = 59 ∧ nth F.bs 0 = 1) ∨ (F.bs.length = 88 ∧ nth F.bs 0 = 2) := by
  rcases Frm.ok_two h with ⟨_, _, _, e, l⟩ | ⟨_, _, _, e, l⟩
  · exact Or.inl ⟨l, by rw [e]; rfl⟩
  · exact Or.inr ⟨l, by rw [e, msg_two]; rfl⟩
theorem none_of {bs : List Int} (h : (bs.length = 59 ∧ nth bs 0 ≠ 1) ∨ (bs.length = 88 ∧ nth bs 0 ≠ 2) ∨ (bs.length ≠ 59 ∧ bs.length ≠ 88)) : ParseOf bs Frm.zero 12 := by
  refine Or.inr ⟨rfl, rfl, fun F hF e => ?_⟩
  have := Frm.bs_first hF
  rw [e] at this
  rcases this with ⟨a, b⟩ | ⟨a, b⟩ <;> rcases h with ⟨c, d⟩ | ⟨c, d⟩ | ⟨c, d⟩ <;> first | exact d b | omega
theorem req_of (r : Req) : (r.k.t < 16 → ParseOf (1 :: r.bs) (Frm.req r) 0) ∧ (¬ r.k.t < 16 → ParseOf (1 :: r.bs) Frm.zero 12) := by
  constructor
  · intro h
    exact Or.inl ⟨rfl, Frm.req_ok h, Frm.req_bs r⟩
  · intro h
    refine Or.inr ⟨rfl, rfl, fun F hF e => ?_⟩
    rcases Frm.ok_two hF with ⟨_, a2, _, a4, _⟩ | ⟨_, _, _, _, a5⟩
    · rw [a4] at e
      rw [Req.bs_inj (List.cons.inj e).2] at a2
      exact h a2
    · rw [e, List.length_cons, r.bs_len] at a5
      omega
theorem cmd_of (c : Cmd) (hw : c.wd) : (c.Ok → ParseOf (c.msg ++ c.g) (Frm.cmd c) 0) ∧ (¬ c.Ok → ParseOf (c.msg ++ c.g) Frm.zero 12) := by
  constructor
  · intro h
    exact Or.inl ⟨rfl, Frm.cmd_ok h, Frm.cmd_bs c⟩
  · intro h
    refine Or.inr ⟨rfl, rfl, fun F hF e => ?_⟩
    rcases Frm.ok_two hF with ⟨_, _, _, _, a5⟩ | ⟨_, a2, _, a4, _⟩
    · rw [e, List.length_append, Cmd.msg_len hw, c.hg] at a5
      omega
    · rw [a4] at e
      obtain ⟨e1, e2⟩ := Cmd.msg_inj (Cmd.ok_wd a2) hw e
      rw [Cmd.ns_inj e1 e2] at a2
      exact h a2
theorem parse_is (bs : List Int) (hb : Byts bs) : ∃ (G : Frm) (q : Int), ParseOf bs G q ∧ Parses 12 bs G q := by
  rcases bytes_three bs hb with ⟨r, rfl⟩ | ⟨c, hc, rfl⟩ | h | h | h
  · by_cases ht : r.k.t < 16
    · exact ⟨_, _, (req_of r).1 ht, fun W v hv => pa_t (Frm.req r) (Frm.req_ok ht) W fun W' hW => fo_1 r W' (hv.below hW)⟩
    · exact ⟨_, _, (req_of r).2 ht, fun W v hv => pa_f (Frm.req r) (fun h => ht ((Frm.req_iff r).1 h)) W fun W' hW => fo_1 r W' (hv.below hW)⟩
  · by_cases ho : c.Ok
    · exact ⟨_, _, (cmd_of c hc).1 ho, fun W v hv => pa_t (Frm.cmd c) (Frm.cmd_ok ho) W fun W' hW => fo_2 c hc W' (hv.below hW)⟩
    · exact ⟨_, _, (cmd_of c hc).2 ho, fun W v hv => pa_f (Frm.cmd c) (fun h => ho ((Frm.cmd_iff c).1 h)) W fun W' hW => fo_2 c hc W' (hv.below hW)⟩
  · exact ⟨_, _, none_of (Or.inl h), fun W v hv => pa_f Frm.zero Frm.zero_no W fun W' hW => fo_n1 h.1 (by simpa using h.2) W' (hv.below hW)⟩
  · exact ⟨_, _, none_of (Or.inr (Or.inl h)), fun W v hv => pa_f Frm.zero Frm.zero_no W fun W' hW => fo_n2 h.1 (by simpa using h.2) W' (hv.below hW)⟩
  · exact ⟨_, _, none_of (Or.inr (Or.inr h)), fun W v hv => pa_f Frm.zero Frm.zero_no W fun W' hW => fo_n (by have := h.1; simp; omega) (by have := h.2; simp; omega) W' (hv.below hW)⟩

end Go.Proofs.Ytkpdlbcmnfphmaa
