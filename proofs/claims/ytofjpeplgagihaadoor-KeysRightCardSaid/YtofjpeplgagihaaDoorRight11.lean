/-
  KeysRight, walked.
-/
import Derived.Test.YtofjpeplgagihaaDoorRKyA
import Derived.Test.YtofjpeplgagihaaDoorAlive11
import Derived.Test.YtofjpeplgagihaaDoorGXR
import Derived.Test.YtofjpeplgagihaaDoorGO1
namespace Go.Proofs.YtofjpeplgagihaaDoor
open Go.RowKit

theorem rig_cmd {S : List Int} {c : Cmd} (h : c.Ok) {b : Bool} (hb : b = true ↔ TruC S c) : RigOf S (Frm.cmd c) b 0 := Or.inl ⟨rfl, Frm.cmd_ok h, hb.trans (Tru.of2 (f := Frm.cmd c) rfl).symm⟩
theorem rig_req {S : List Int} {r : Req} (h : r.k.t < 16) {b : Bool} (hb : b = true ↔ TruT S r.k r.g) : RigOf S (Frm.req r) b 0 := Or.inl ⟨rfl, Frm.req_ok h, hb.trans (Tru.of1 (f := Frm.req r) (show (1 : Int) ≠ 2 by decide)).symm⟩
theorem dec_c (S : List Int) (c : Cmd) : decide (c.g = cmdTag S c) = true ↔ TruC S c := decide_eq_true_iff.trans ⟨fun g => g.symm, fun g => g.symm⟩
theorem dec_t {S : List Int} {k : Nums} (h : HasKey k.t k.e) (g : List Int) : decide (g = minted S k) = true ↔ TruT S k g := decide_eq_true_iff.trans ⟨fun e => ⟨h, e.symm⟩, fun e => e.2.symm⟩
/-- A request with another Tag; with other numbers behind its token. -/
def Req.tagged (r : Req) (g : List Int) (h : g.length = 32) (hb : Byts g) : Req := { r with g := g, hg := h, hgb := hb }
theorem mcell_cmd_set (c : Cmd) {g : List Int} (h : g.length = 32) (hb : Byts g) : mcell (Frm.cmd (c.tagged g h hb)) = (mcell (Frm.cmd c)).take 54 ++ g.map (Value.int .u8) ++ (mcell (Frm.cmd c)).drop (54 + (g.map (Value.int .u8)).length) := by
  rw [List.drop_eq_nil_of_le (by rw [mcell_len, List.length_map, h]; decide), List.append_nil]
  rfl
theorem mcell_p54 (f : Frm) {g : List Int} (h : g.length = 32) : 54 + (g.map (Value.int .u8)).length ≤ (mcell f).length := by rw [mcell_len, List.length_map, h]; decide
theorem tcell_p4 (k : Nums) {g d : List Int} (h : g.length = 32) (hd : d.length = 32) : 4 + (d.map (Value.int .u8)).length ≤ (tcell k g).length := by rw [List.length_map, hd, tcell_len k h]; decide
theorem tcell_w4 (k : Nums) {g d : List Int} (h : g.length = 32) (hd : d.length = 32) : tcell k d = (tcell k g).take 4 ++ d.map (Value.int .u8) ++ (tcell k g).drop (4 + (d.map (Value.int .u8)).length) := by
  rw [List.drop_eq_nil_of_le (by rw [tcell_len k h, List.length_map, hd]; decide), List.append_nil]
  rfl
theorem tcell_tail4 (k : Nums) (g : List Int) : (tcell k g).drop 4 = g.map (Value.int .u8) ++ [] := by rw [List.append_nil]; rfl

set_option maxRecDepth 100000 in
set_option maxHeartbeats 6400000 in
theorem right11_f (f : Frm) {S Q : List Int} (hS : S.length = 32) (hSb : Byts S) (hQ : Q.length = 32) (hQb : Byts Q) (h : ¬ f.Ok) (w : World) (hL : Hid (LaidS w)) : Calls Tryd.prog 7 #[(.agg (S.map (Value.int .u8)).toArray), .agg (mcell f).toArray, (.agg (Q.map (Value.int .u8)).toArray)] w fun e w' => e = .returned (.bool true) ∧ Below w.heap.size w w' := by
  have CK := fun W => rchk_is f (q := 8) (Lib.hid (Or.inr ⟨rfl, h⟩)) W; have AL := fun (W : World) (h : Hid (LaidS W)) => alive11_is W h; have _ := hSb; have _ := hQb
  have SK := Lib.hid (size_dig hS); have LK := Lib.hid (len_dig hS); have OK := Lib.hid (oneCell_ints (k := .u8) S)
  have SQ := Lib.hid (size_dig hQ); have LQ := Lib.hid (len_dig hQ); have OQ := Lib.hid (oneCell_ints (k := .u8) Q)
  have SF := Lib.hid (size_frm f); have LF := Lib.hid (len_frm Frm.zero f); have OF := Lib.hid (one_frm f)
  obtain ⟨F, hF⟩ : ∃ X, mcell f = X := ⟨_, rfl⟩
  rw [hF] at CK SF LF OF ⊢
  clear hF
  obtain ⟨E, hE⟩ : ∃ X, Q.map (Value.int .u8) = X := ⟨_, rfl⟩
  rw [hE] at SQ LQ OQ ⊢
  clear hE
  obtain ⟨C, hC⟩ : ∃ X, S.map (Value.int .u8) = X := ⟨_, rfl⟩
  rw [hC] at SK LK OK ⊢
  clear hC
  clear hS hSb hQ hQb h LK OK LF OF LQ OQ
  go_enter Tryd.func7, Tryd.ntmps7
  go_upto_region 1 with fail
  refine F_gen (F := fun W => Code.wp _ _ _ _ W) (J := fun W => Box W (w.heap.size) (C) ∧ Box W (w.heap.size + 1) (F) ∧ Box W (w.heap.size + 2) (E) ∧ Below w.heap.size w W) (And.intro (Box.alloc (Box.alloc (Box.newc rfl rfl) _) _) (And.intro (Box.alloc (Box.newc rfl (by simp)) _) (And.intro (Box.newc rfl (by simp)) (by go_grown)))) ?_
  intro w0 ⟨e_s, e_f, e_q, hB0⟩
  have hs0 := hB0.size
  have x_s0 := e_s; clear e_s
  have x_f0 := e_f; clear e_f
  have x_q0 := e_q; clear e_q
  go_wp2_with (refine wpList_load_box9 rfl _ _ rfl x_f0 rfl Tryd.underlying46 rfl SF.out ?_)
  refine (CK _).mono ?_
  rintro e w1 ⟨rfl, hb⟩
  have hB1 : Below w.heap.size w w1 := below_thru hB0 hb
  have hs1 := hB1.size
  have x_s1 : Box w1 (w.heap.size) (C) := Box.below x_s0 hb
  have x_f1 : Box w1 (w.heap.size + 1) (F) := Box.below x_f0 hb
  have x_q1 : Box w1 (w.heap.size + 2) (E) := Box.below x_q0 hb
  clear hB0 hs0 x_s0 x_f0 x_q0
  clear hb
  go_wp2_with fail
  refine (AL _ (Lib.hid (hL.out.below hB1))).mono ?_
  rintro e w2 ⟨rfl, hb⟩
  have hB2 : Below w.heap.size w w2 := below_thru hB1 hb
  have hs2 := hB2.size
  have x_s2 : Box w2 (w.heap.size) (C) := Box.below x_s1 hb
  have x_f2 : Box w2 (w.heap.size + 1) (F) := Box.below x_f1 hb
  have x_q2 : Box w2 (w.heap.size + 2) (E) := Box.below x_q1 hb
  clear hB1 hs1 x_s1 x_f1 x_q1
  clear hb
  go_wp2_with fail
  go_returns
  exact ⟨rfl, hB2⟩

set_option maxRecDepth 100000 in
set_option maxHeartbeats 6400000 in
theorem right11_c (c : Cmd) {S Q : List Int} (hS : S.length = 32) (hSb : Byts S) (hQ : Q.length = 32) (hQb : Byts Q) (h : c.Ok) (w : World) (hL : Hid (LaidS w)) : Calls Tryd.prog 7 #[(.agg (S.map (Value.int .u8)).toArray), .agg (mcell (Frm.cmd c)).toArray, (.agg (Q.map (Value.int .u8)).toArray)] w fun e w' => e = .returned (.bool true) ∧ Below w.heap.size w w' := by
  obtain ⟨b, hb⟩ : ∃ b, decide (c.g = cmdTag S c) = b := ⟨_, rfl⟩
  obtain ⟨b2, hb2⟩ : ∃ b, decide (Q = cmdTag S c) = b := ⟨_, rfl⟩
  have CK := fun W => rchk_is (Frm.cmd c) (q := 0) (Lib.hid (Or.inl ⟨rfl, Frm.cmd_ok h⟩)) W; have AL := fun (W : World) (h : Hid (LaidS W)) => alive11_is W h
  have R1 := fun (W : World) (h1 : Hid (LaidS W)) => right_is (Frm.cmd c) hS hSb (rig_cmd (b := b) h (by rw [← hb]; exact dec_c S c)) W h1
  have SG_ := fun (W : World) (h1 : Hid (LaidS W)) => sign_is c hS hSb (Or.inl ⟨rfl, h, rfl⟩) W h1; have LC := fun W => lcmd11_is (c.sgn S) W
  have R2 := fun (W : World) (h1 : Hid (LaidS W)) => right_is (Frm.cmd (c.sgn S)) hS hSb (rig_cmd (c := c.sgn S) (b := true) h ⟨fun _ => rfl, fun _ => rfl⟩) W h1
  have R3 := fun (W : World) (h1 : Hid (LaidS W)) => right_is (Frm.cmd (c.tagged Q hQ hQb)) hS hSb (rig_cmd (c := c.tagged Q hQ hQb) (b := b2) h (by rw [← hb2]; exact dec_c S (c.tagged Q hQ hQb))) W h1
  have EG := fun (W : World) => eq_ints (P := Tryd.prog) W 9998 Tryd.underlying23 Tryd.underlying5 size_u8' c.g (cmdTag S c) c.hg (cmdTag_len S c); rw [show (9998 : Nat) + 2 = 10000 from rfl, hb] at EG
  have EQ := fun (W : World) => eq_ints (P := Tryd.prog) W 9998 Tryd.underlying23 Tryd.underlying5 size_u8' Q (cmdTag S c) hQ (cmdTag_len S c); rw [show (9998 : Nat) + 2 = 10000 from rfl, hb2] at EQ
  have n0 : (b != b) = false := (by cases b <;> rfl); have n1 : (b == b) = true := (by cases b <;> rfl); have n2 : (b2 == b2) = true := (by cases b2 <;> rfl)
  have v0 : (mcell (Frm.cmd c))[0]? = some (.int .u8 2) := rfl; have DC : Hid ((mcell (Frm.cmd c)).drop 39 = ccell c ++ []) := Lib.hid (mcell_c (Frm.cmd c)); have DG : Hid ((mcell (Frm.cmd c)).drop 54 = c.g.map (Value.int .u8) ++ []) := Lib.hid (mcell_g (Frm.cmd c)); have DU : Hid ((ccell (c.sgn S)).drop 15 = (cmdTag S c).map (Value.int .u8) ++ []) := Lib.hid (ccell_tail15 (c.sgn S))
  have P1 := Lib.hid (mcell_p54 (Frm.cmd c) hQ); have P2 := Lib.hid (mcell_cmd_set c hQ hQb)
  have SK := Lib.hid (size_dig hS); have LK := Lib.hid (len_dig hS); have OK := Lib.hid (oneCell_ints (k := .u8) S)
  have SQ := Lib.hid (size_dig hQ); have LQ := Lib.hid (len_dig hQ); have OQ := Lib.hid (oneCell_ints (k := .u8) Q)
  have SD := Lib.hid (size_dig (cmdTag_len S c)); have LD := Lib.hid (len_dig (cmdTag_len S c)); have OD := Lib.hid (oneCell_ints (k := .u8) (cmdTag S c))
  have SGG := Lib.hid (size_dig c.hg); have LG := Lib.hid (len_dig c.hg); have OG := Lib.hid (oneCell_ints (k := .u8) c.g)
  have SF := Lib.hid (size_frm (Frm.cmd c)); have LF := Lib.hid (len_frm Frm.zero (Frm.cmd c)); have OF := Lib.hid (one_frm (Frm.cmd c))
  have SX := Lib.hid (size_frm (Frm.cmd (c.tagged Q hQ hQb))); have LX := Lib.hid (len_frm Frm.zero (Frm.cmd (c.tagged Q hQ hQb))); have OX := Lib.hid (one_frm (Frm.cmd (c.tagged Q hQ hQb)))
  have SP := Lib.hid (size_cmd c); have LP := Lib.hid (len_cmd Cmd.zero c); have OP := Lib.hid (one_cmd c)
  have SU := Lib.hid (size_cmd (c.sgn S)); have LU := Lib.hid (len_cmd Cmd.zero (c.sgn S)); have OU := Lib.hid (one_cmd (c.sgn S))
  obtain ⟨F3, hF3⟩ : ∃ X, mcell (Frm.cmd (c.tagged Q hQ hQb)) = X := ⟨_, rfl⟩
  rw [hF3] at R3 SX LX OX P2
  clear hF3
  obtain ⟨F2, hF2⟩ : ∃ X, mcell (Frm.cmd (c.sgn S)) = X := ⟨_, rfl⟩
  rw [hF2] at LC R2
  clear hF2
  obtain ⟨F, hF⟩ : ∃ X, mcell (Frm.cmd c) = X := ⟨_, rfl⟩
  rw [hF] at CK R1 v0 DC DG P1 P2 SF LF OF ⊢
  clear hF
  obtain ⟨U, hU⟩ : ∃ X, ccell (c.sgn S) = X := ⟨_, rfl⟩
  rw [hU] at SG_ LC DU SU LU OU
  clear hU
  obtain ⟨P, hP⟩ : ∃ X, ccell c = X := ⟨_, rfl⟩
  rw [hP] at SG_ DC SP LP OP
  clear hP
  obtain ⟨D, hD⟩ : ∃ X, (cmdTag S c).map (Value.int .u8) = X := ⟨_, rfl⟩
  rw [hD] at DU EG EQ SD LD OD
  clear hD
  obtain ⟨G, hG⟩ : ∃ X, c.g.map (Value.int .u8) = X := ⟨_, rfl⟩
  rw [hG] at DG EG SGG LG OG
  clear hG
  obtain ⟨E, hE⟩ : ∃ X, Q.map (Value.int .u8) = X := ⟨_, rfl⟩
  rw [hE] at EQ SQ LQ OQ P1 P2 ⊢
  clear hE
  obtain ⟨C, hC⟩ : ∃ X, S.map (Value.int .u8) = X := ⟨_, rfl⟩
  rw [hC] at R1 SG_ R2 R3 SK LK OK ⊢
  clear hC
  clear hS hSb hQ hQb h hb hb2 LK OK LQ LD OD LG OG LF OF LX OX LP OP
  go_enter Tryd.func7, Tryd.ntmps7
  go_upto_region 1 with fail
  refine F_gen (F := fun W => Code.wp _ _ _ _ W) (J := fun W => Box W (w.heap.size) (C) ∧ Box W (w.heap.size + 1) (F) ∧ Box W (w.heap.size + 2) (E) ∧ Below w.heap.size w W) (And.intro (Box.alloc (Box.alloc (Box.newc rfl rfl) _) _) (And.intro (Box.alloc (Box.newc rfl (by simp)) _) (And.intro (Box.newc rfl (by simp)) (by go_grown)))) ?_
  intro w0 ⟨e_s, e_f, e_q, hB0⟩
  have hs0 := hB0.size
  have x_s0 := e_s; clear e_s
  have x_f0 := e_f; clear e_f
  have x_q0 := e_q; clear e_q
  go_wp2_with (refine wpList_load_box9 rfl _ _ rfl x_f0 rfl Tryd.underlying46 rfl SF.out ?_)
  refine (CK _).mono ?_
  rintro e w1 ⟨rfl, hb⟩
  have hB1 : Below w.heap.size w w1 := below_thru hB0 hb
  have hs1 := hB1.size
  have x_s1 : Box w1 (w.heap.size) (C) := Box.below x_s0 hb
  have x_f1 : Box w1 (w.heap.size + 1) (F) := Box.below x_f0 hb
  have x_q1 : Box w1 (w.heap.size + 2) (E) := Box.below x_q0 hb
  clear hB0 hs0 x_s0 x_f0 x_q0
  clear hb
  go_wp2_with (first
    | (refine wpList_load_box9 rfl _ _ rfl x_s1 rfl Tryd.underlying23 rfl SK.out ?_)
    | (refine wpList_load_box9 rfl _ _ rfl x_f1 rfl Tryd.underlying46 rfl SF.out ?_))
  refine (R1 _ (Lib.hid (hL.out.below hB1))).mono ?_
  rintro e w2 ⟨rfl, hb⟩
  have hB2 : Below w.heap.size w w2 := below_thru hB1 hb
  have hs2 := hB2.size
  have x_s2 : Box w2 (w.heap.size) (C) := Box.below x_s1 hb
  have x_f2 : Box w2 (w.heap.size + 1) (F) := Box.below x_f1 hb
  have x_q2 : Box w2 (w.heap.size + 2) (E) := Box.below x_q1 hb
  clear hB1 hs1 x_s1 x_f1 x_q1
  clear hb
  have ca := (x_f2).c 0 _ v0
  have za := (x_f2).lt
  go_wp2_with (first
    | (refine wpList_load_box9 rfl _ _ rfl x_s2 rfl Tryd.underlying23 rfl SK.out ?_)
    | (refine wpList_load_rangew rfl _ _ rfl (Box.rangeMid x_f2 39 (P) ([]) DC.out) rfl Tryd.underlying37 rfl SP.out ?_))
  refine (SG_ _ (Lib.hid (hL.out.below hB2))).mono ?_
  rintro e w3 ⟨rfl, hb⟩
  clear ca za
  have hB3 : Below w.heap.size w w3 := below_thru hB2 hb
  have hs3 := hB3.size
  have x_s3 : Box w3 (w.heap.size) (C) := Box.below x_s2 hb
  have x_f3 : Box w3 (w.heap.size + 1) (F) := Box.below x_f2 hb
  have x_q3 : Box w3 (w.heap.size + 2) (E) := Box.below x_q2 hb
  clear hB2 hs2 x_s2 x_f2 x_q2
  clear hb
  have d_c_s := (x_s3).lt
  have d_c_f := (x_f3).lt
  have d_c_q := (x_q3).lt
  have d_c_0 := hs3
  go_upto_region 8 with (refine wpList_store_box (cs := U) rfl _ _ _ rfl (Box.newc (l := ccell Cmd.zero) rfl rfl) rfl rfl SU.out LU.out OU.out ?_; intro W3_0 hW3_0)
  have hN : Below w3.heap.size w3 W3_0 := (hW3_0.below _ _ (by omega) ((Below.refl _ w3).alloc (Nat.le_refl _) _))
  have x_c4 : Box W3_0 (w3.heap.size) (U) := hW3_0.box
  have hB4 : Below w.heap.size w W3_0 := below_thru hB3 hN
  have hs4 := hB4.size
  have x_s4 : Box W3_0 (w.heap.size) (C) := Box.below x_s3 hN
  have x_f4 : Box W3_0 (w.heap.size + 1) (F) := Box.below x_f3 hN
  have x_q4 : Box W3_0 (w.heap.size + 2) (E) := Box.below x_q3 hN
  clear hB3 hs3 x_s3 x_f3 x_q3
  clear hN hW3_0
  refine wp_region_held_drew (S := fun W => Box W (w.heap.size) (C) ∧ Box W (w.heap.size + 1) (F) ∧ Box W (w.heap.size + 2) (E) ∧ Box W (w3.heap.size) (U)) (by kernel_rfl) (And.intro (x_s4).drew (And.intro (x_f4).drew (And.intro (x_q4).drew (x_c4).drew))) (fun _ => ?_)
  refine F_drew (F := fun W => wpAnyH _ _ _ _ _ _ _ _ W) ?_
  intro Wp0 hbp0
  clear hs4
  have x_s_p0 : Box Wp0 (w.heap.size) (C) := Box.below x_s4 hbp0
  have x_f_p0 : Box Wp0 (w.heap.size + 1) (F) := Box.below x_f4 hbp0
  have x_q_p0 : Box Wp0 (w.heap.size + 2) (E) := Box.below x_q4 hbp0
  have x_c_p0 : Box Wp0 (w3.heap.size) (U) := Box.below x_c4 hbp0
  have Bp0 := below_thru hB4 hbp0
  clear x_s4 x_f4 x_q4 x_c4 hB4 hbp0
  refine takeH 0 45 (v := .agg (C).toArray) rfl (by rfl) (by kernel_rfl) (by kernel_rfl) (by kernel_rfl) (fun _ _ _ h => h) (yieldsIf_load_mid (by rfl) _ _ rfl _ _ rfl (C) _ (fun wq hq => Box.range (hq.1)) Tryd.underlying23 rfl SK.out) ((And.intro x_s_p0 (And.intro x_f_p0 (And.intro x_q_p0 x_c_p0)))) ?_
  try simp only [Act.put, List.setIfInBounds_toArray, List.set_cons_zero, List.set_cons_succ]
  refine takeH 1 46 (v := .agg (U).toArray) rfl (by rfl) (by kernel_rfl) (by kernel_rfl) (by kernel_rfl) (fun _ _ _ h => h) (yieldsIf_load_mid (by rfl) _ _ rfl _ _ rfl (U) _ (fun wq hq => Box.range (hq.2.2.2)) Tryd.underlying37 rfl SU.out) ((And.intro x_s_p0 (And.intro x_f_p0 (And.intro x_q_p0 x_c_p0)))) ?_
  try simp only [Act.put, List.setIfInBounds_toArray, List.set_cons_zero, List.set_cons_succ]
  refine wpAnyH_ready (rs := [2]) (by kernel_rfl) (by simp) (AllReadyH.cons rfl (fun K hK => ?_) AllReadyH.nil)
  go_simp
  refine (LC _).mono ?_
  rintro e Wp1 ⟨rfl, hbp1⟩
  have x_s_p1 : Box Wp1 (w.heap.size) (C) := Box.below x_s_p0 hbp1
  have x_f_p1 : Box Wp1 (w.heap.size + 1) (F) := Box.below x_f_p0 hbp1
  have x_q_p1 : Box Wp1 (w.heap.size + 2) (E) := Box.below x_q_p0 hbp1
  have x_c_p1 : Box Wp1 (w3.heap.size) (U) := Box.below x_c_p0 hbp1
  have Bp1 := below_thru Bp0 hbp1
  clear x_s_p0 x_f_p0 x_q_p0 x_c_p0 Bp0 hbp1
  refine hK.out _ _ (And.intro x_s_p1 (And.intro x_f_p1 (And.intro x_q_p1 x_c_p1))) (fun _ => ?_); clear hK K
  refine wpAnyH_ready (rs := [3]) (by kernel_rfl) (by simp) (AllReadyH.cons rfl (fun K hK => ?_) AllReadyH.nil)
  go_simp
  refine (R2 _ (Lib.hid (hL.out.below Bp1))).mono ?_
  rintro e Wp2 ⟨rfl, hbp2⟩
  have x_s_p2 : Box Wp2 (w.heap.size) (C) := Box.below x_s_p1 hbp2
  have x_f_p2 : Box Wp2 (w.heap.size + 1) (F) := Box.below x_f_p1 hbp2
  have x_q_p2 : Box Wp2 (w.heap.size + 2) (E) := Box.below x_q_p1 hbp2
  have x_c_p2 : Box Wp2 (w3.heap.size) (U) := Box.below x_c_p1 hbp2
  have Bp2 := below_thru Bp1 hbp2
  clear x_s_p1 x_f_p1 x_q_p1 x_c_p1 Bp1 hbp2
  refine hK.out _ _ (And.intro x_s_p2 (And.intro x_f_p2 (And.intro x_q_p2 x_c_p2))) (fun _ => ?_); clear hK K
  refine takeH 4 44 (v := ?vp4_3) rfl (by rfl) (by kernel_rfl) (by kernel_rfl) (by kernel_rfl) (fun _ _ _ h => h) (Or.inl ⟨by rfl, ?_⟩) ((And.intro x_s_p2 (And.intro x_f_p2 (And.intro x_q_p2 x_c_p2)))) ?_
  rotate_left
  · intro wq hSq
    go_simp
    exact rfl
  try simp only [Act.put, List.setIfInBounds_toArray, List.set_cons_zero, List.set_cons_succ]
  refine takeH 5 49 (v := ?vp5_4) rfl (by rfl) (by kernel_rfl) (by kernel_rfl) (by kernel_rfl) (fun _ _ _ h => h) (Or.inl ⟨by rfl, ?_⟩) ((And.intro x_s_p2 (And.intro x_f_p2 (And.intro x_q_p2 x_c_p2)))) ?_
  rotate_left
  · intro wq hSq
    go_simp
    exact rfl
  try simp only [Act.put, List.setIfInBounds_toArray, List.set_cons_zero, List.set_cons_succ]
  refine takeH 6 50 (v := ?vp6_5) rfl (by rfl) (by kernel_rfl) (by kernel_rfl) (by kernel_rfl) (fun _ _ _ h => h) (Or.inl ⟨by rfl, ?_⟩) ((And.intro x_s_p2 (And.intro x_f_p2 (And.intro x_q_p2 x_c_p2)))) ?_
  rotate_left
  · intro wq hSq
    go_simp
    exact rfl
  try simp only [Act.put, List.setIfInBounds_toArray, List.set_cons_zero, List.set_cons_succ]
  refine takeH 7 11 (v := ?vp7_6) rfl (by rfl) (by kernel_rfl) (by kernel_rfl) (by kernel_rfl) (fun _ _ _ h => h) (Or.inl ⟨by rfl, ?_⟩) ((And.intro x_s_p2 (And.intro x_f_p2 (And.intro x_q_p2 x_c_p2)))) ?_
  rotate_left
  · intro wq hSq
    go_simp
    exact rfl
  try simp only [Act.put, List.setIfInBounds_toArray, List.set_cons_zero, List.set_cons_succ]
  refine takeH 8 12 (v := ?vp8_7) rfl (by rfl) (by kernel_rfl) (by kernel_rfl) (by kernel_rfl) (fun _ _ _ h => h) (Or.inl ⟨by rfl, ?_⟩) ((And.intro x_s_p2 (And.intro x_f_p2 (And.intro x_q_p2 x_c_p2)))) ?_
  rotate_left
  · intro wq hSq
    go_simp
    exact rfl
  try simp only [Act.put, List.setIfInBounds_toArray, List.set_cons_zero, List.set_cons_succ]
  refine wpAnyH_done (by kernel_rfl) ?_ _
  have hB5 := Bp2; have hs5 := hB5.size
  have x_s5 := x_s_p2
  have x_f5 := x_f_p2
  have x_q5 := x_q_p2
  have x_c5 := x_c_p2
  clear Bp2 x_s_p2 x_f_p2 x_q_p2 x_c_p2
  have lr_s := (x_s5).lt
  have lr_f := (x_f5).lt
  have lr_q := (x_q5).lt
  have lr_c := (x_c5).lt
  go_upto_region 12 with (first | (refine wpList_load_rangew rfl _ _ rfl (Box.rangeMid x_f5 54 (G) ([]) DG.out) rfl Tryd.underlying23 rfl SGG.out ?_) | (refine wpList_load_rangew rfl _ _ rfl (Box.rangeMid x_c5 15 (D) ([]) DU.out) rfl Tryd.underlying23 rfl SD.out ?_) | (refine wpList_load_box9 rfl _ _ rfl x_q5 rfl Tryd.underlying23 rfl SQ.out ?_) | (refine wpList_store_part (cs := E) (ws := F3) rfl _ _ _ rfl x_f5 rfl rfl SQ.out P1.out P2.out OQ.out ?_; intro W8 hW8))
  have x_s6 : Box W8 (w.heap.size) (C) := hW8.past _ _ (by omega) x_s5
  have x_q6 : Box W8 (w.heap.size + 2) (E) := hW8.past _ _ (by omega) x_q5
  have x_c6 : Box W8 (w3.heap.size) (U) := hW8.past _ _ (by omega) x_c5
  have x_f6 : Box W8 (w.heap.size + 1) (F3) := hW8.box
  have hB6 : Below w.heap.size w W8 := hW8.below _ _ (by omega) hB5
  have hs6 := hB6.size
  clear hW8 hB5 hs5 x_s5 x_f5 x_q5 x_c5 lr_s lr_f lr_q lr_c 
  go_wp2_with (first
    | (refine wpList_load_box9 rfl _ _ rfl x_s6 rfl Tryd.underlying23 rfl SK.out ?_)
    | (refine wpList_load_box9 rfl _ _ rfl x_f6 rfl Tryd.underlying46 rfl SX.out ?_))
  refine (R3 _ (Lib.hid (hL.out.below hB6))).mono ?_
  rintro e w7 ⟨rfl, hb⟩
  have hB7 : Below w.heap.size w w7 := below_thru hB6 hb
  have hs7 := hB7.size
  have x_s7 : Box w7 (w.heap.size) (C) := Box.below x_s6 hb
  have x_f7 : Box w7 (w.heap.size + 1) (F3) := Box.below x_f6 hb
  have x_q7 : Box w7 (w.heap.size + 2) (E) := Box.below x_q6 hb
  have x_c7 : Box w7 (w3.heap.size) (U) := Box.below x_c6 hb
  clear hB6 hs6 x_s6 x_f6 x_q6 x_c6
  clear hb
  go_wp2_with (first
    | (refine wpList_load_box9 rfl _ _ rfl x_q7 rfl Tryd.underlying23 rfl SQ.out ?_)
    | (refine wpList_load_rangew rfl _ _ rfl (Box.rangeMid x_c7 15 (D) ([]) DU.out) rfl Tryd.underlying23 rfl SD.out ?_))
  refine (AL _ (Lib.hid (hL.out.below hB7))).mono ?_
  rintro e w8 ⟨rfl, hb⟩
  have hB8 : Below w.heap.size w w8 := below_thru hB7 hb
  have hs8 := hB8.size
  have x_s8 : Box w8 (w.heap.size) (C) := Box.below x_s7 hb
  have x_f8 : Box w8 (w.heap.size + 1) (F3) := Box.below x_f7 hb
  have x_q8 : Box w8 (w.heap.size + 2) (E) := Box.below x_q7 hb
  have x_c8 : Box w8 (w3.heap.size) (U) := Box.below x_c7 hb
  clear hB7 hs7 x_s7 x_f7 x_q7 x_c7
  clear hb
  go_wp2_with fail
  go_returns
  exact ⟨rfl, hB8⟩

set_option maxRecDepth 100000 in
set_option maxHeartbeats 6400000 in
theorem right11_t (r : Req) {S Q : List Int} (hS : S.length = 32) (hSb : Byts S) (hQ : Q.length = 32) (hQb : Byts Q) (ht : r.k.t < 16) (h : HasKey r.k.t r.k.e) (w : World) (hL : Hid (LaidS w)) : Calls Tryd.prog 7 #[(.agg (S.map (Value.int .u8)).toArray), .agg (mcell (Frm.req r)).toArray, (.agg (Q.map (Value.int .u8)).toArray)] w fun e w' => e = .returned (.bool true) ∧ Below w.heap.size w w' := by
  have CK := fun W => rchk_is (Frm.req r) (q := 0) (Lib.hid (Or.inl ⟨rfl, Frm.req_ok ht⟩)) W; have AL := fun (W : World) (h : Hid (LaidS W)) => alive11_is W h
  obtain ⟨b, hb⟩ : ∃ b, decide (r.g = minted S r.k) = b := ⟨_, rfl⟩
  obtain ⟨b2, hb2⟩ : ∃ b, decide (Q = minted S r.k) = b := ⟨_, rfl⟩
  have R1 := fun (W : World) (h1 : Hid (LaidS W)) => right_is (Frm.req r) hS hSb (rig_req ht (b := b) (by rw [← hb]; exact dec_t h r.g)) W h1
  have TK := fun (W : World) (h1 : Hid (LaidS W)) => token_is r.k hS hSb (Or.inl ⟨rfl, h, rfl, rfl⟩) W h1
  have v0 : (mcell (Frm.req r))[0]? = some (.int .u8 1) := rfl; have v37 : (mcell (Frm.req r))[37]? = some (.int .u16 r.ep) := mcell_ep (Frm.req r); have v38 : (mcell (Frm.req r))[38]? = some (.int .u32 r.co) := mcell_co (Frm.req r); have DT : Hid ((mcell (Frm.req r)).drop 1 = tcell r.k r.g ++ (.int .u16 r.ep :: .int .u32 r.co :: ccell Cmd.zero)) := Lib.hid (mcell_t (Frm.req r))
  have p0 : (tcell r.k r.g)[0]? = some (.int .u32 r.k.t) := rfl; have p1 : (tcell r.k r.g)[1]? = some (.int .u32 r.k.u) := rfl; have p2 : (tcell r.k r.g)[2]? = some (.int .u32 r.k.e) := rfl; have p3 : (tcell r.k r.g)[3]? = some (.int .u64 r.k.x) := rfl
  have SK := Lib.hid (size_dig hS); have LK := Lib.hid (len_dig hS); have OK := Lib.hid (oneCell_ints (k := .u8) S)
  have SQ := Lib.hid (size_dig hQ); have LQ := Lib.hid (len_dig hQ); have OQ := Lib.hid (oneCell_ints (k := .u8) Q)
  have SF := Lib.hid (size_frm (Frm.req r)); have LF := Lib.hid (len_frm Frm.zero (Frm.req r)); have OF := Lib.hid (one_frm (Frm.req r))
  have SP := Lib.hid (size_tok r.k r.hg); have LP : Hid (zeroTk.length = (tcell r.k r.g).length) := Lib.hid (len_tok Nums.zero r.k zd32 r.hg); have OP := Lib.hid (tcell_one r.k r.g)
  have SU := Lib.hid (size_tok r.k (minted_len S r.k)); have LU : Hid (zeroTk.length = (tcell r.k (minted S r.k)).length) := Lib.hid (len_tok Nums.zero r.k zd32 (minted_len S r.k)); have OU := Lib.hid (tcell_one r.k (minted S r.k))
  have L2 := fun W => lreq11_is (r.tagged (minted S r.k) (minted_len S r.k) (minted_byts S r.k)) W; have L3 := fun W => lreq11_is (r.tagged Q hQ hQb) W
  rw [show (r.tagged (minted S r.k) (minted_len S r.k) (minted_byts S r.k)).k = r.k from rfl, show (r.tagged (minted S r.k) (minted_len S r.k) (minted_byts S r.k)).g = minted S r.k from rfl, show (r.tagged (minted S r.k) (minted_len S r.k) (minted_byts S r.k)).ep = r.ep from rfl, show (r.tagged (minted S r.k) (minted_len S r.k) (minted_byts S r.k)).co = r.co from rfl] at L2
  rw [show (r.tagged Q hQ hQb).k = r.k from rfl, show (r.tagged Q hQ hQb).g = Q from rfl, show (r.tagged Q hQ hQb).ep = r.ep from rfl, show (r.tagged Q hQ hQb).co = r.co from rfl] at L3
  have R2 := fun (W : World) (h1 : Hid (LaidS W)) => right_is (Frm.req (r.tagged (minted S r.k) (minted_len S r.k) (minted_byts S r.k))) hS hSb (rig_req (r := (r.tagged (minted S r.k) (minted_len S r.k) (minted_byts S r.k))) ht (b := true) ⟨fun _ => ⟨h, rfl⟩, fun _ => rfl⟩) W h1
  have R3 := fun (W : World) (h1 : Hid (LaidS W)) => right_is (Frm.req (r.tagged Q hQ hQb)) hS hSb (rig_req (r := (r.tagged Q hQ hQb)) ht (b := b2) (by rw [← hb2]; exact dec_t (k := r.k) h Q)) W h1
  have EG := fun (W : World) => eq_ints (P := Tryd.prog) W 9998 Tryd.underlying23 Tryd.underlying5 size_u8' r.g (minted S r.k) r.hg (minted_len S r.k); rw [show (9998 : Nat) + 2 = 10000 from rfl, hb] at EG
  have EQ := fun (W : World) => eq_ints (P := Tryd.prog) W 9998 Tryd.underlying23 Tryd.underlying5 size_u8' Q (minted S r.k) hQ (minted_len S r.k); rw [show (9998 : Nat) + 2 = 10000 from rfl, hb2] at EQ
  have n0 : (b != b) = false := (by cases b <;> rfl); have n1 : (b == b) = true := (by cases b <;> rfl); have n2 : (b2 == b2) = true := (by cases b2 <;> rfl)
  have DP := Lib.hid (tcell_tail4 r.k r.g); have DU := Lib.hid (tcell_tail4 r.k (minted S r.k)); have P1 := Lib.hid (tcell_p4 r.k r.hg hQ); have P2 := Lib.hid (tcell_w4 r.k r.hg hQ)
  have SD := Lib.hid (size_dig (minted_len S r.k)); have LD := Lib.hid (len_dig (minted_len S r.k)); have OD := Lib.hid (oneCell_ints (k := .u8) (minted S r.k))
  have SG := Lib.hid (size_dig r.hg); have LG := Lib.hid (len_dig r.hg); have OG := Lib.hid (oneCell_ints (k := .u8) r.g)
  have SX := Lib.hid (size_tok r.k hQ); have LX : Hid (zeroTk.length = (tcell r.k Q).length) := Lib.hid (len_tok Nums.zero r.k zd32 hQ); have OX := Lib.hid (tcell_one r.k Q)
  obtain ⟨F3, hF3⟩ : ∃ X, mcell (Frm.req (r.tagged Q hQ hQb)) = X := ⟨_, rfl⟩
  rw [hF3] at L3 R3
  clear hF3
  obtain ⟨F2, hF2⟩ : ∃ X, mcell (Frm.req (r.tagged (minted S r.k) (minted_len S r.k) (minted_byts S r.k))) = X := ⟨_, rfl⟩
  rw [hF2] at L2 R2
  clear hF2
  obtain ⟨R, hR⟩ : ∃ X, (Value.int .u16 r.ep :: .int .u32 r.co :: ccell Cmd.zero) = X := ⟨_, rfl⟩
  rw [hR] at DT
  clear hR
  obtain ⟨F, hF⟩ : ∃ X, mcell (Frm.req r) = X := ⟨_, rfl⟩
  rw [hF] at CK R1 v0 v37 v38 DT SF LF OF ⊢
  clear hF
  obtain ⟨X, hX⟩ : ∃ X, tcell r.k Q = X := ⟨_, rfl⟩
  rw [hX] at L3 SX LX OX P2
  clear hX
  obtain ⟨U, hU⟩ : ∃ X, tcell r.k (minted S r.k) = X := ⟨_, rfl⟩
  rw [hU] at TK L2 DU SU LU OU
  clear hU
  obtain ⟨P, hP⟩ : ∃ X, tcell r.k r.g = X := ⟨_, rfl⟩
  rw [hP] at DT DP p0 p1 p2 p3 P1 P2 SP LP OP
  clear hP
  obtain ⟨D, hD⟩ : ∃ X, (minted S r.k).map (Value.int .u8) = X := ⟨_, rfl⟩
  rw [hD] at EG EQ DU SD LD OD
  clear hD
  obtain ⟨G, hG⟩ : ∃ X, r.g.map (Value.int .u8) = X := ⟨_, rfl⟩
  rw [hG] at EG DP SG LG OG
  clear hG
  obtain ⟨E, hE⟩ : ∃ X, Q.map (Value.int .u8) = X := ⟨_, rfl⟩
  rw [hE] at EQ P1 P2 SQ LQ OQ ⊢
  clear hE
  obtain ⟨C, hC⟩ : ∃ X, S.map (Value.int .u8) = X := ⟨_, rfl⟩
  rw [hC] at R1 TK SK LK OK R2 R3 ⊢
  clear hC
  clear hS hSb hQ ht h LK OK LQ LF OF hQb hb hb2 LD OD LG OG LX OX
  go_enter Tryd.func7, Tryd.ntmps7
  go_upto_region 1 with fail
  refine F_gen (F := fun W => Code.wp _ _ _ _ W) (J := fun W => Box W (w.heap.size) (C) ∧ Box W (w.heap.size + 1) (F) ∧ Box W (w.heap.size + 2) (E) ∧ Below w.heap.size w W) (And.intro (Box.alloc (Box.alloc (Box.newc rfl rfl) _) _) (And.intro (Box.alloc (Box.newc rfl (by simp)) _) (And.intro (Box.newc rfl (by simp)) (by go_grown)))) ?_
  intro w0 ⟨e_s, e_f, e_q, hB0⟩
  have hs0 := hB0.size
  have x_s0 := e_s; clear e_s
  have x_f0 := e_f; clear e_f
  have x_q0 := e_q; clear e_q
  go_wp2_with (refine wpList_load_box9 rfl _ _ rfl x_f0 rfl Tryd.underlying46 rfl SF.out ?_)
  refine (CK _).mono ?_
  rintro e w1 ⟨rfl, hb⟩
  have hB1 : Below w.heap.size w w1 := below_thru hB0 hb
  have hs1 := hB1.size
  have x_s1 : Box w1 (w.heap.size) (C) := Box.below x_s0 hb
  have x_f1 : Box w1 (w.heap.size + 1) (F) := Box.below x_f0 hb
  have x_q1 : Box w1 (w.heap.size + 2) (E) := Box.below x_q0 hb
  clear hB0 hs0 x_s0 x_f0 x_q0
  clear hb
  go_wp2_with (first
    | (refine wpList_load_box9 rfl _ _ rfl x_s1 rfl Tryd.underlying23 rfl SK.out ?_)
    | (refine wpList_load_box9 rfl _ _ rfl x_f1 rfl Tryd.underlying46 rfl SF.out ?_))
  refine (R1 _ (Lib.hid (hL.out.below hB1))).mono ?_
  rintro e w2 ⟨rfl, hb⟩
  have hB2 : Below w.heap.size w w2 := below_thru hB1 hb
  have hs2 := hB2.size
  have x_s2 : Box w2 (w.heap.size) (C) := Box.below x_s1 hb
  have x_f2 : Box w2 (w.heap.size + 1) (F) := Box.below x_f1 hb
  have x_q2 : Box w2 (w.heap.size + 2) (E) := Box.below x_q1 hb
  clear hB1 hs1 x_s1 x_f1 x_q1
  clear hb
  have ca := (x_f2).c 0 _ v0
  have za := (x_f2).lt
  have d_t_s := (x_s2).lt
  have d_t_f := (x_f2).lt
  have d_t_q := (x_q2).lt
  have d_t_0 := hs2
  go_upto_region 15 with (first
    | (refine wpList_load_rangew rfl _ _ rfl (Box.rangeMid x_f2 1 (P) (R) DT.out) rfl Tryd.underlying30 rfl SP.out ?_)
    | (refine wpList_store_box (cs := P) rfl _ _ _ rfl (Box.newc (l := zeroTk) rfl rfl) rfl rfl SP.out LP.out OP.out ?_; intro W2_0 hW2_0))
  have hN : Below w2.heap.size w2 W2_0 := (hW2_0.below _ _ (by omega) ((Below.refl _ w2).alloc (Nat.le_refl _) _))
  have x_t3 : Box W2_0 (w2.heap.size) (P) := hW2_0.box
  have hB3 : Below w.heap.size w W2_0 := below_thru hB2 hN
  have hs3 := hB3.size
  have x_s3 : Box W2_0 (w.heap.size) (C) := Box.below x_s2 hN
  have x_f3 : Box W2_0 (w.heap.size + 1) (F) := Box.below x_f2 hN
  have x_q3 : Box W2_0 (w.heap.size + 2) (E) := Box.below x_q2 hN
  clear hB2 hs2 x_s2 x_f2 x_q2
  clear hN hW2_0
  clear ca za
  have ch0 := (x_t3).c 0 _ p0
  have ch1 := (x_t3).c 1 _ p1
  have ch2 := (x_t3).c 2 _ p2
  have ch3 := (x_t3).c 3 _ p3
  have zh := (x_t3).lt
  go_wp2_with (refine wpList_load_box9 rfl _ _ rfl x_s3 rfl Tryd.underlying23 rfl SK.out ?_)
  refine (TK _ (Lib.hid (hL.out.below hB3))).mono ?_
  rintro e w4 ⟨rfl, hb⟩
  clear ch0 ch1 ch2 ch3 zh
  have hB4 : Below w.heap.size w w4 := below_thru hB3 hb
  have hs4 := hB4.size
  have x_s4 : Box w4 (w.heap.size) (C) := Box.below x_s3 hb
  have x_f4 : Box w4 (w.heap.size + 1) (F) := Box.below x_f3 hb
  have x_q4 : Box w4 (w.heap.size + 2) (E) := Box.below x_q3 hb
  have x_t4 : Box w4 (w2.heap.size) (P) := Box.below x_t3 hb
  clear hB3 hs3 x_s3 x_f3 x_q3 x_t3
  clear hb
  have d_u_s := (x_s4).lt
  have d_u_f := (x_f4).lt
  have d_u_q := (x_q4).lt
  have d_u_t := (x_t4).lt
  have d_u_0 := hs4
  go_upto_region 16 with (refine wpList_store_box (cs := U) rfl _ _ _ rfl (Box.newc (l := zeroTk) rfl rfl) rfl rfl SU.out LU.out OU.out ?_; intro W4_0 hW4_0)
  have hN : Below w4.heap.size w4 W4_0 := (hW4_0.below _ _ (by omega) ((Below.refl _ w4).alloc (Nat.le_refl _) _))
  have x_u5 : Box W4_0 (w4.heap.size) (U) := hW4_0.box
  have hB5 : Below w.heap.size w W4_0 := below_thru hB4 hN
  have hs5 := hB5.size
  have x_s5 : Box W4_0 (w.heap.size) (C) := Box.below x_s4 hN
  have x_f5 : Box W4_0 (w.heap.size + 1) (F) := Box.below x_f4 hN
  have x_q5 : Box W4_0 (w.heap.size + 2) (E) := Box.below x_q4 hN
  have x_t5 : Box W4_0 (w2.heap.size) (P) := Box.below x_t4 hN
  clear hB4 hs4 x_s4 x_f4 x_q4 x_t4
  clear hN hW4_0
  go_upto_region 18 with fail
  refine wp_region_held_drew (S := fun W => Box W (w.heap.size) (C) ∧ Box W (w.heap.size + 1) (F) ∧ Box W (w.heap.size + 2) (E) ∧ Box W (w2.heap.size) (P) ∧ Box W (w4.heap.size) (U)) (by kernel_rfl) (And.intro (x_s5).drew (And.intro (x_f5).drew (And.intro (x_q5).drew (And.intro (x_t5).drew (x_u5).drew)))) (fun _ => ?_)
  refine F_drew (F := fun W => wpAnyH _ _ _ _ _ _ _ _ W) ?_
  intro Wp0 hbp0
  clear hs5
  have x_s_p0 : Box Wp0 (w.heap.size) (C) := Box.below x_s5 hbp0
  have x_f_p0 : Box Wp0 (w.heap.size + 1) (F) := Box.below x_f5 hbp0
  have x_q_p0 : Box Wp0 (w.heap.size + 2) (E) := Box.below x_q5 hbp0
  have x_t_p0 : Box Wp0 (w2.heap.size) (P) := Box.below x_t5 hbp0
  have x_u_p0 : Box Wp0 (w4.heap.size) (U) := Box.below x_u5 hbp0
  have Bp0 := below_thru hB5 hbp0
  clear x_s5 x_f5 x_q5 x_t5 x_u5 hB5 hbp0
  refine takeH 2 124 (v := ?vp2_1) rfl (by rfl) (by kernel_rfl) (by kernel_rfl) (by kernel_rfl) (fun _ _ _ h => h) (Or.inl ⟨by rfl, ?_⟩) ((And.intro x_s_p0 (And.intro x_f_p0 (And.intro x_q_p0 (And.intro x_t_p0 x_u_p0))))) ?_
  rotate_left
  · intro wq hSq
    go_simp
    exact rfl
  try simp only [Act.put, List.setIfInBounds_toArray, List.set_cons_zero, List.set_cons_succ]
  refine takeH 3 125 (v := ?vp3_2) rfl (by rfl) (by kernel_rfl) (by kernel_rfl) (by kernel_rfl) (fun _ _ _ h => h) (Or.inl ⟨by rfl, ?_⟩) ((And.intro x_s_p0 (And.intro x_f_p0 (And.intro x_q_p0 (And.intro x_t_p0 x_u_p0))))) ?_
  rotate_left
  · intro wq hSq
    go_simp
    exact rfl
  try simp only [Act.put, List.setIfInBounds_toArray, List.set_cons_zero, List.set_cons_succ]
  refine takeH 4 126 (v := ?vp4_3) rfl (by rfl) (by kernel_rfl) (by kernel_rfl) (by kernel_rfl) (fun _ _ _ h => h) (Or.inl ⟨by rfl, ?_⟩) ((And.intro x_s_p0 (And.intro x_f_p0 (And.intro x_q_p0 (And.intro x_t_p0 x_u_p0))))) ?_
  rotate_left
  · intro wq hSq
    have cq := (hSq.2.1).c 37 _ v37
    have zq := lt_of_cell cq
    go_simp
    exact rfl
  try simp only [Act.put, List.setIfInBounds_toArray, List.set_cons_zero, List.set_cons_succ]
  refine takeH 5 127 (v := ?vp5_4) rfl (by rfl) (by kernel_rfl) (by kernel_rfl) (by kernel_rfl) (fun _ _ _ h => h) (Or.inl ⟨by rfl, ?_⟩) ((And.intro x_s_p0 (And.intro x_f_p0 (And.intro x_q_p0 (And.intro x_t_p0 x_u_p0))))) ?_
  rotate_left
  · intro wq hSq
    go_simp
    exact rfl
  try simp only [Act.put, List.setIfInBounds_toArray, List.set_cons_zero, List.set_cons_succ]
  refine takeH 6 128 (v := ?vp6_5) rfl (by rfl) (by kernel_rfl) (by kernel_rfl) (by kernel_rfl) (fun _ _ _ h => h) (Or.inl ⟨by rfl, ?_⟩) ((And.intro x_s_p0 (And.intro x_f_p0 (And.intro x_q_p0 (And.intro x_t_p0 x_u_p0))))) ?_
  rotate_left
  · intro wq hSq
    go_simp
    exact rfl
  try simp only [Act.put, List.setIfInBounds_toArray, List.set_cons_zero, List.set_cons_succ]
  refine takeH 7 129 (v := ?vp7_6) rfl (by rfl) (by kernel_rfl) (by kernel_rfl) (by kernel_rfl) (fun _ _ _ h => h) (Or.inl ⟨by rfl, ?_⟩) ((And.intro x_s_p0 (And.intro x_f_p0 (And.intro x_q_p0 (And.intro x_t_p0 x_u_p0))))) ?_
  rotate_left
  · intro wq hSq
    have cq := (hSq.2.1).c 38 _ v38
    have zq := lt_of_cell cq
    go_simp
    exact rfl
  try simp only [Act.put, List.setIfInBounds_toArray, List.set_cons_zero, List.set_cons_succ]
  refine takeH 0 122 (v := .agg (C).toArray) rfl (by rfl) (by kernel_rfl) (by kernel_rfl) (by kernel_rfl) (fun _ _ _ h => h) (yieldsIf_load_mid (by rfl) _ _ rfl _ _ rfl (C) _ (fun wq hq => Box.range (hq.1)) Tryd.underlying23 rfl SK.out) ((And.intro x_s_p0 (And.intro x_f_p0 (And.intro x_q_p0 (And.intro x_t_p0 x_u_p0))))) ?_
  try simp only [Act.put, List.setIfInBounds_toArray, List.set_cons_zero, List.set_cons_succ]
  refine takeH 1 123 (v := .agg (U).toArray) rfl (by rfl) (by kernel_rfl) (by kernel_rfl) (by kernel_rfl) (fun _ _ _ h => h) (yieldsIf_load_mid (by rfl) _ _ rfl _ _ rfl (U) _ (fun wq hq => Box.range (hq.2.2.2.2)) Tryd.underlying30 rfl SU.out) ((And.intro x_s_p0 (And.intro x_f_p0 (And.intro x_q_p0 (And.intro x_t_p0 x_u_p0))))) ?_
  try simp only [Act.put, List.setIfInBounds_toArray, List.set_cons_zero, List.set_cons_succ]
  refine wpAnyH_ready (rs := [8]) (by kernel_rfl) (by simp) (AllReadyH.cons rfl (fun K hK => ?_) AllReadyH.nil)
  go_simp
  refine (L2 _).mono ?_
  rintro e Wp7 ⟨rfl, hbp7⟩
  have x_s_p7 : Box Wp7 (w.heap.size) (C) := Box.below x_s_p0 hbp7
  have x_f_p7 : Box Wp7 (w.heap.size + 1) (F) := Box.below x_f_p0 hbp7
  have x_q_p7 : Box Wp7 (w.heap.size + 2) (E) := Box.below x_q_p0 hbp7
  have x_t_p7 : Box Wp7 (w2.heap.size) (P) := Box.below x_t_p0 hbp7
  have x_u_p7 : Box Wp7 (w4.heap.size) (U) := Box.below x_u_p0 hbp7
  have Bp7 := below_thru Bp0 hbp7
  clear x_s_p0 x_f_p0 x_q_p0 x_t_p0 x_u_p0 Bp0 hbp7
  refine hK.out _ _ (And.intro x_s_p7 (And.intro x_f_p7 (And.intro x_q_p7 (And.intro x_t_p7 x_u_p7)))) (fun _ => ?_); clear hK K
  refine wpAnyH_ready (rs := [9]) (by kernel_rfl) (by simp) (AllReadyH.cons rfl (fun K hK => ?_) AllReadyH.nil)
  go_simp
  refine (R2 _ (Lib.hid (hL.out.below Bp7))).mono ?_
  rintro e Wp8 ⟨rfl, hbp8⟩
  have x_s_p8 : Box Wp8 (w.heap.size) (C) := Box.below x_s_p7 hbp8
  have x_f_p8 : Box Wp8 (w.heap.size + 1) (F) := Box.below x_f_p7 hbp8
  have x_q_p8 : Box Wp8 (w.heap.size + 2) (E) := Box.below x_q_p7 hbp8
  have x_t_p8 : Box Wp8 (w2.heap.size) (P) := Box.below x_t_p7 hbp8
  have x_u_p8 : Box Wp8 (w4.heap.size) (U) := Box.below x_u_p7 hbp8
  have Bp8 := below_thru Bp7 hbp8
  clear x_s_p7 x_f_p7 x_q_p7 x_t_p7 x_u_p7 Bp7 hbp8
  refine hK.out _ _ (And.intro x_s_p8 (And.intro x_f_p8 (And.intro x_q_p8 (And.intro x_t_p8 x_u_p8)))) (fun _ => ?_); clear hK K
  refine takeH 10 121 (v := ?vp10_9) rfl (by rfl) (by kernel_rfl) (by kernel_rfl) (by kernel_rfl) (fun _ _ _ h => h) (Or.inl ⟨by rfl, ?_⟩) ((And.intro x_s_p8 (And.intro x_f_p8 (And.intro x_q_p8 (And.intro x_t_p8 x_u_p8))))) ?_
  rotate_left
  · intro wq hSq
    go_simp
    exact rfl
  try simp only [Act.put, List.setIfInBounds_toArray, List.set_cons_zero, List.set_cons_succ]
  refine takeH 11 132 (v := ?vp11_10) rfl (by rfl) (by kernel_rfl) (by kernel_rfl) (by kernel_rfl) (fun _ _ _ h => h) (Or.inl ⟨by rfl, ?_⟩) ((And.intro x_s_p8 (And.intro x_f_p8 (And.intro x_q_p8 (And.intro x_t_p8 x_u_p8))))) ?_
  rotate_left
  · intro wq hSq
    go_simp
    exact rfl
  try simp only [Act.put, List.setIfInBounds_toArray, List.set_cons_zero, List.set_cons_succ]
  refine takeH 12 133 (v := ?vp12_11) rfl (by rfl) (by kernel_rfl) (by kernel_rfl) (by kernel_rfl) (fun _ _ _ h => h) (Or.inl ⟨by rfl, ?_⟩) ((And.intro x_s_p8 (And.intro x_f_p8 (And.intro x_q_p8 (And.intro x_t_p8 x_u_p8))))) ?_
  rotate_left
  · intro wq hSq
    go_simp
    exact rfl
  try simp only [Act.put, List.setIfInBounds_toArray, List.set_cons_zero, List.set_cons_succ]
  refine takeH 13 18 (v := ?vp13_12) rfl (by rfl) (by kernel_rfl) (by kernel_rfl) (by kernel_rfl) (fun _ _ _ h => h) (Or.inl ⟨by rfl, ?_⟩) ((And.intro x_s_p8 (And.intro x_f_p8 (And.intro x_q_p8 (And.intro x_t_p8 x_u_p8))))) ?_
  rotate_left
  · intro wq hSq
    go_simp
    exact rfl
  try simp only [Act.put, List.setIfInBounds_toArray, List.set_cons_zero, List.set_cons_succ]
  refine takeH 14 19 (v := ?vp14_13) rfl (by rfl) (by kernel_rfl) (by kernel_rfl) (by kernel_rfl) (fun _ _ _ h => h) (Or.inl ⟨by rfl, ?_⟩) ((And.intro x_s_p8 (And.intro x_f_p8 (And.intro x_q_p8 (And.intro x_t_p8 x_u_p8))))) ?_
  rotate_left
  · intro wq hSq
    go_simp
    exact rfl
  try simp only [Act.put, List.setIfInBounds_toArray, List.set_cons_zero, List.set_cons_succ]
  refine wpAnyH_done (by kernel_rfl) ?_ _
  have hB6 := Bp8; have hs6 := hB6.size
  have x_s6 := x_s_p8
  have x_f6 := x_f_p8
  have x_q6 := x_q_p8
  have x_t6 := x_t_p8
  have x_u6 := x_u_p8
  clear Bp8 x_s_p8 x_f_p8 x_q_p8 x_t_p8 x_u_p8
  have lr_s := (x_s6).lt
  have lr_f := (x_f6).lt
  have lr_q := (x_q6).lt
  have lr_t := (x_t6).lt
  have lr_u := (x_u6).lt
  go_upto_region 22 with (first | (refine wpList_load_rangew rfl _ _ rfl (Box.rangeMid x_t6 4 (G) ([]) DP.out) rfl Tryd.underlying23 rfl SG.out ?_) | (refine wpList_load_rangew rfl _ _ rfl (Box.rangeMid x_u6 4 (D) ([]) DU.out) rfl Tryd.underlying23 rfl SD.out ?_) | (refine wpList_load_box9 rfl _ _ rfl x_q6 rfl Tryd.underlying23 rfl SQ.out ?_) | (refine wpList_store_part (cs := E) (ws := X) rfl _ _ _ rfl x_t6 rfl rfl SQ.out P1.out P2.out OQ.out ?_; intro W8 hW8))
  have x_s7 : Box W8 (w.heap.size) (C) := hW8.past _ _ (by omega) x_s6
  have x_f7 : Box W8 (w.heap.size + 1) (F) := hW8.past _ _ (by omega) x_f6
  have x_q7 : Box W8 (w.heap.size + 2) (E) := hW8.past _ _ (by omega) x_q6
  have x_u7 : Box W8 (w4.heap.size) (U) := hW8.past _ _ (by omega) x_u6
  have x_t7 : Box W8 (w2.heap.size) (X) := hW8.box
  have hB7 : Below w.heap.size w W8 := hW8.below _ _ (by omega) hB6
  have hs7 := hB7.size
  clear hW8 hB6 hs6 x_s6 x_f6 x_q6 x_t6 x_u6 lr_s lr_f lr_q lr_t lr_u 
  refine wp_region_held_drew (S := fun W => Box W (w.heap.size) (C) ∧ Box W (w.heap.size + 1) (F) ∧ Box W (w.heap.size + 2) (E) ∧ Box W (w2.heap.size) (X) ∧ Box W (w4.heap.size) (U)) (by kernel_rfl) (And.intro (x_s7).drew (And.intro (x_f7).drew (And.intro (x_q7).drew (And.intro (x_t7).drew (x_u7).drew)))) (fun _ => ?_)
  refine F_drew (F := fun W => wpAnyH _ _ _ _ _ _ _ _ W) ?_
  intro Wq0 hbq0
  clear hs7
  have x_s_q0 : Box Wq0 (w.heap.size) (C) := Box.below x_s7 hbq0
  have x_f_q0 : Box Wq0 (w.heap.size + 1) (F) := Box.below x_f7 hbq0
  have x_q_q0 : Box Wq0 (w.heap.size + 2) (E) := Box.below x_q7 hbq0
  have x_t_q0 : Box Wq0 (w2.heap.size) (X) := Box.below x_t7 hbq0
  have x_u_q0 : Box Wq0 (w4.heap.size) (U) := Box.below x_u7 hbq0
  have Bq0 := below_thru hB7 hbq0
  clear x_s7 x_f7 x_q7 x_t7 x_u7 hB7 hbq0
  refine takeH 2 154 (v := ?vq2_1) rfl (by rfl) (by kernel_rfl) (by kernel_rfl) (by kernel_rfl) (fun _ _ _ h => h) (Or.inl ⟨by rfl, ?_⟩) ((And.intro x_s_q0 (And.intro x_f_q0 (And.intro x_q_q0 (And.intro x_t_q0 x_u_q0))))) ?_
  rotate_left
  · intro wq hSq
    go_simp
    exact rfl
  try simp only [Act.put, List.setIfInBounds_toArray, List.set_cons_zero, List.set_cons_succ]
  refine takeH 3 155 (v := ?vq3_2) rfl (by rfl) (by kernel_rfl) (by kernel_rfl) (by kernel_rfl) (fun _ _ _ h => h) (Or.inl ⟨by rfl, ?_⟩) ((And.intro x_s_q0 (And.intro x_f_q0 (And.intro x_q_q0 (And.intro x_t_q0 x_u_q0))))) ?_
  rotate_left
  · intro wq hSq
    go_simp
    exact rfl
  try simp only [Act.put, List.setIfInBounds_toArray, List.set_cons_zero, List.set_cons_succ]
  refine takeH 4 156 (v := ?vq4_3) rfl (by rfl) (by kernel_rfl) (by kernel_rfl) (by kernel_rfl) (fun _ _ _ h => h) (Or.inl ⟨by rfl, ?_⟩) ((And.intro x_s_q0 (And.intro x_f_q0 (And.intro x_q_q0 (And.intro x_t_q0 x_u_q0))))) ?_
  rotate_left
  · intro wq hSq
    have cq := (hSq.2.1).c 37 _ v37
    have zq := lt_of_cell cq
    go_simp
    exact rfl
  try simp only [Act.put, List.setIfInBounds_toArray, List.set_cons_zero, List.set_cons_succ]
  refine takeH 5 157 (v := ?vq5_4) rfl (by rfl) (by kernel_rfl) (by kernel_rfl) (by kernel_rfl) (fun _ _ _ h => h) (Or.inl ⟨by rfl, ?_⟩) ((And.intro x_s_q0 (And.intro x_f_q0 (And.intro x_q_q0 (And.intro x_t_q0 x_u_q0))))) ?_
  rotate_left
  · intro wq hSq
    go_simp
    exact rfl
  try simp only [Act.put, List.setIfInBounds_toArray, List.set_cons_zero, List.set_cons_succ]
  refine takeH 6 158 (v := ?vq6_5) rfl (by rfl) (by kernel_rfl) (by kernel_rfl) (by kernel_rfl) (fun _ _ _ h => h) (Or.inl ⟨by rfl, ?_⟩) ((And.intro x_s_q0 (And.intro x_f_q0 (And.intro x_q_q0 (And.intro x_t_q0 x_u_q0))))) ?_
  rotate_left
  · intro wq hSq
    go_simp
    exact rfl
  try simp only [Act.put, List.setIfInBounds_toArray, List.set_cons_zero, List.set_cons_succ]
  refine takeH 7 159 (v := ?vq7_6) rfl (by rfl) (by kernel_rfl) (by kernel_rfl) (by kernel_rfl) (fun _ _ _ h => h) (Or.inl ⟨by rfl, ?_⟩) ((And.intro x_s_q0 (And.intro x_f_q0 (And.intro x_q_q0 (And.intro x_t_q0 x_u_q0))))) ?_
  rotate_left
  · intro wq hSq
    have cq := (hSq.2.1).c 38 _ v38
    have zq := lt_of_cell cq
    go_simp
    exact rfl
  try simp only [Act.put, List.setIfInBounds_toArray, List.set_cons_zero, List.set_cons_succ]
  refine takeH 0 152 (v := .agg (C).toArray) rfl (by rfl) (by kernel_rfl) (by kernel_rfl) (by kernel_rfl) (fun _ _ _ h => h) (yieldsIf_load_mid (by rfl) _ _ rfl _ _ rfl (C) _ (fun wq hq => Box.range (hq.1)) Tryd.underlying23 rfl SK.out) ((And.intro x_s_q0 (And.intro x_f_q0 (And.intro x_q_q0 (And.intro x_t_q0 x_u_q0))))) ?_
  try simp only [Act.put, List.setIfInBounds_toArray, List.set_cons_zero, List.set_cons_succ]
  refine takeH 1 153 (v := .agg (X).toArray) rfl (by rfl) (by kernel_rfl) (by kernel_rfl) (by kernel_rfl) (fun _ _ _ h => h) (yieldsIf_load_mid (by rfl) _ _ rfl _ _ rfl (X) _ (fun wq hq => Box.range (hq.2.2.2.1)) Tryd.underlying30 rfl SX.out) ((And.intro x_s_q0 (And.intro x_f_q0 (And.intro x_q_q0 (And.intro x_t_q0 x_u_q0))))) ?_
  try simp only [Act.put, List.setIfInBounds_toArray, List.set_cons_zero, List.set_cons_succ]
  refine wpAnyH_ready (rs := [8]) (by kernel_rfl) (by simp) (AllReadyH.cons rfl (fun K hK => ?_) AllReadyH.nil)
  go_simp
  refine (L3 _).mono ?_
  rintro e Wq7 ⟨rfl, hbq7⟩
  have x_s_q7 : Box Wq7 (w.heap.size) (C) := Box.below x_s_q0 hbq7
  have x_f_q7 : Box Wq7 (w.heap.size + 1) (F) := Box.below x_f_q0 hbq7
  have x_q_q7 : Box Wq7 (w.heap.size + 2) (E) := Box.below x_q_q0 hbq7
  have x_t_q7 : Box Wq7 (w2.heap.size) (X) := Box.below x_t_q0 hbq7
  have x_u_q7 : Box Wq7 (w4.heap.size) (U) := Box.below x_u_q0 hbq7
  have Bq7 := below_thru Bq0 hbq7
  clear x_s_q0 x_f_q0 x_q_q0 x_t_q0 x_u_q0 Bq0 hbq7
  refine hK.out _ _ (And.intro x_s_q7 (And.intro x_f_q7 (And.intro x_q_q7 (And.intro x_t_q7 x_u_q7)))) (fun _ => ?_); clear hK K
  refine wpAnyH_ready (rs := [9]) (by kernel_rfl) (by simp) (AllReadyH.cons rfl (fun K hK => ?_) AllReadyH.nil)
  go_simp
  refine (R3 _ (Lib.hid (hL.out.below Bq7))).mono ?_
  rintro e Wq8 ⟨rfl, hbq8⟩
  have x_s_q8 : Box Wq8 (w.heap.size) (C) := Box.below x_s_q7 hbq8
  have x_f_q8 : Box Wq8 (w.heap.size + 1) (F) := Box.below x_f_q7 hbq8
  have x_q_q8 : Box Wq8 (w.heap.size + 2) (E) := Box.below x_q_q7 hbq8
  have x_t_q8 : Box Wq8 (w2.heap.size) (X) := Box.below x_t_q7 hbq8
  have x_u_q8 : Box Wq8 (w4.heap.size) (U) := Box.below x_u_q7 hbq8
  have Bq8 := below_thru Bq7 hbq8
  clear x_s_q7 x_f_q7 x_q_q7 x_t_q7 x_u_q7 Bq7 hbq8
  refine hK.out _ _ (And.intro x_s_q8 (And.intro x_f_q8 (And.intro x_q_q8 (And.intro x_t_q8 x_u_q8)))) (fun _ => ?_); clear hK K
  refine takeH 10 151 (v := ?vq10_9) rfl (by rfl) (by kernel_rfl) (by kernel_rfl) (by kernel_rfl) (fun _ _ _ h => h) (Or.inl ⟨by rfl, ?_⟩) ((And.intro x_s_q8 (And.intro x_f_q8 (And.intro x_q_q8 (And.intro x_t_q8 x_u_q8))))) ?_
  rotate_left
  · intro wq hSq
    go_simp
    exact rfl
  try simp only [Act.put, List.setIfInBounds_toArray, List.set_cons_zero, List.set_cons_succ]
  refine takeH 11 162 (v := ?vq11_10) rfl (by rfl) (by kernel_rfl) (by kernel_rfl) (by kernel_rfl) (fun _ _ _ h => h) (Or.inl ⟨by rfl, ?_⟩) ((And.intro x_s_q8 (And.intro x_f_q8 (And.intro x_q_q8 (And.intro x_t_q8 x_u_q8))))) ?_
  rotate_left
  · intro wq hSq
    go_simp
    exact rfl
  try simp only [Act.put, List.setIfInBounds_toArray, List.set_cons_zero, List.set_cons_succ]
  refine takeH 12 163 (v := ?vq12_11) rfl (by rfl) (by kernel_rfl) (by kernel_rfl) (by kernel_rfl) (fun _ _ _ h => h) (Or.inl ⟨by rfl, ?_⟩) ((And.intro x_s_q8 (And.intro x_f_q8 (And.intro x_q_q8 (And.intro x_t_q8 x_u_q8))))) ?_
  rotate_left
  · intro wq hSq
    go_simp
    exact rfl
  try simp only [Act.put, List.setIfInBounds_toArray, List.set_cons_zero, List.set_cons_succ]
  refine takeH 13 20 (v := ?vq13_12) rfl (by rfl) (by kernel_rfl) (by kernel_rfl) (by kernel_rfl) (fun _ _ _ h => h) (Or.inl ⟨by rfl, ?_⟩) ((And.intro x_s_q8 (And.intro x_f_q8 (And.intro x_q_q8 (And.intro x_t_q8 x_u_q8))))) ?_
  rotate_left
  · intro wq hSq
    go_simp
    exact rfl
  try simp only [Act.put, List.setIfInBounds_toArray, List.set_cons_zero, List.set_cons_succ]
  refine takeH 14 21 (v := ?vq14_13) rfl (by rfl) (by kernel_rfl) (by kernel_rfl) (by kernel_rfl) (fun _ _ _ h => h) (Or.inl ⟨by rfl, ?_⟩) ((And.intro x_s_q8 (And.intro x_f_q8 (And.intro x_q_q8 (And.intro x_t_q8 x_u_q8))))) ?_
  rotate_left
  · intro wq hSq
    go_simp
    exact rfl
  try simp only [Act.put, List.setIfInBounds_toArray, List.set_cons_zero, List.set_cons_succ]
  refine wpAnyH_done (by kernel_rfl) ?_ _
  have hB8 := Bq8; have hs8 := hB8.size
  have x_s8 := x_s_q8
  have x_f8 := x_f_q8
  have x_q8 := x_q_q8
  have x_t8 := x_t_q8
  have x_u8 := x_u_q8
  clear Bq8 x_s_q8 x_f_q8 x_q_q8 x_t_q8 x_u_q8
  go_wp2_with (first
    | (refine wpList_load_box9 rfl _ _ rfl x_q8 rfl Tryd.underlying23 rfl SQ.out ?_)
    | (refine wpList_load_rangew rfl _ _ rfl (Box.rangeMid x_u8 4 (D) ([]) DU.out) rfl Tryd.underlying23 rfl SD.out ?_))
  refine (AL _ (Lib.hid (hL.out.below hB8))).mono ?_
  rintro e w9 ⟨rfl, hb⟩
  have hB9 : Below w.heap.size w w9 := below_thru hB8 hb
  have hs9 := hB9.size
  have x_s9 : Box w9 (w.heap.size) (C) := Box.below x_s8 hb
  have x_f9 : Box w9 (w.heap.size + 1) (F) := Box.below x_f8 hb
  have x_q9 : Box w9 (w.heap.size + 2) (E) := Box.below x_q8 hb
  have x_t9 : Box w9 (w2.heap.size) (X) := Box.below x_t8 hb
  have x_u9 : Box w9 (w4.heap.size) (U) := Box.below x_u8 hb
  clear hB8 hs8 x_s8 x_f8 x_q8 x_t8 x_u8
  clear hb
  go_wp2_with fail
  go_returns
  exact ⟨rfl, hB9⟩

set_option maxRecDepth 100000 in
set_option maxHeartbeats 6400000 in
theorem right11_n (r : Req) {S Q : List Int} (hS : S.length = 32) (hSb : Byts S) (hQ : Q.length = 32) (hQb : Byts Q) (ht : r.k.t < 16) (h : ¬ HasKey r.k.t r.k.e) (w : World) (hL : Hid (LaidS w)) : Calls Tryd.prog 7 #[(.agg (S.map (Value.int .u8)).toArray), .agg (mcell (Frm.req r)).toArray, (.agg (Q.map (Value.int .u8)).toArray)] w fun e w' => e = .returned (.bool true) ∧ Below w.heap.size w w' := by
  have _ := hQb
  have CK := fun W => rchk_is (Frm.req r) (q := 0) (Lib.hid (Or.inl ⟨rfl, Frm.req_ok ht⟩)) W; have AL := fun (W : World) (h : Hid (LaidS W)) => alive11_is W h
  have R1 := fun (W : World) (h1 : Hid (LaidS W)) => right_is (Frm.req r) hS hSb (rig_req ht (b := false) ⟨fun g => (Bool.false_ne_true g).elim, fun g => absurd g.1 h⟩) W h1
  have TK := fun (W : World) (h1 : Hid (LaidS W)) => token_is r.k hS hSb (Or.inr ⟨rfl, h, rfl, rfl⟩) W h1
  have v0 : (mcell (Frm.req r))[0]? = some (.int .u8 1) := rfl; have v37 : (mcell (Frm.req r))[37]? = some (.int .u16 r.ep) := mcell_ep (Frm.req r); have v38 : (mcell (Frm.req r))[38]? = some (.int .u32 r.co) := mcell_co (Frm.req r); have DT : Hid ((mcell (Frm.req r)).drop 1 = tcell r.k r.g ++ (.int .u16 r.ep :: .int .u32 r.co :: ccell Cmd.zero)) := Lib.hid (mcell_t (Frm.req r))
  have p0 : (tcell r.k r.g)[0]? = some (.int .u32 r.k.t) := rfl; have p1 : (tcell r.k r.g)[1]? = some (.int .u32 r.k.u) := rfl; have p2 : (tcell r.k r.g)[2]? = some (.int .u32 r.k.e) := rfl; have p3 : (tcell r.k r.g)[3]? = some (.int .u64 r.k.x) := rfl
  have SK := Lib.hid (size_dig hS); have LK := Lib.hid (len_dig hS); have OK := Lib.hid (oneCell_ints (k := .u8) S)
  have SQ := Lib.hid (size_dig hQ); have LQ := Lib.hid (len_dig hQ); have OQ := Lib.hid (oneCell_ints (k := .u8) Q)
  have SF := Lib.hid (size_frm (Frm.req r)); have LF := Lib.hid (len_frm Frm.zero (Frm.req r)); have OF := Lib.hid (one_frm (Frm.req r))
  have SP := Lib.hid (size_tok r.k r.hg); have LP : Hid (zeroTk.length = (tcell r.k r.g).length) := Lib.hid (len_tok Nums.zero r.k zd32 r.hg); have OP := Lib.hid (tcell_one r.k r.g)
  have SU := Lib.hid (size_tok Nums.zero zd32); have LU : Hid (zeroTk.length = (tcell Nums.zero zeroD).length) := Lib.hid (len_tok Nums.zero Nums.zero zd32 zd32); have OU := Lib.hid (tcell_one Nums.zero zeroD)
  have e1 : decide (1000000 < r.k.e) = true := decide_eq_true (by rcases Decidable.em (r.k.e ≤ 1000000) with g | g; exact absurd ⟨ht, g⟩ h; omega)
  obtain ⟨R, hR⟩ : ∃ X, (Value.int .u16 r.ep :: .int .u32 r.co :: ccell Cmd.zero) = X := ⟨_, rfl⟩
  rw [hR] at DT
  clear hR
  obtain ⟨F, hF⟩ : ∃ X, mcell (Frm.req r) = X := ⟨_, rfl⟩
  rw [hF] at CK R1 v0 v37 v38 DT SF LF OF ⊢
  clear hF
  obtain ⟨P, hP⟩ : ∃ X, tcell r.k r.g = X := ⟨_, rfl⟩
  rw [hP] at DT p0 p1 p2 p3 SP LP OP
  clear hP
  obtain ⟨U, hU⟩ : ∃ X, tcell Nums.zero zeroD = X := ⟨_, rfl⟩
  rw [hU] at TK SU LU OU
  clear hU
  obtain ⟨E, hE⟩ : ∃ X, Q.map (Value.int .u8) = X := ⟨_, rfl⟩
  rw [hE] at SQ LQ OQ ⊢
  clear hE
  obtain ⟨C, hC⟩ : ∃ X, S.map (Value.int .u8) = X := ⟨_, rfl⟩
  rw [hC] at R1 TK SK LK OK ⊢
  clear hC
  clear hS hSb hQ ht h LK OK LQ LF OF OQ v37 v38
  clear hQb
  go_enter Tryd.func7, Tryd.ntmps7
  go_upto_region 1 with fail
  refine F_gen (F := fun W => Code.wp _ _ _ _ W) (J := fun W => Box W (w.heap.size) (C) ∧ Box W (w.heap.size + 1) (F) ∧ Box W (w.heap.size + 2) (E) ∧ Below w.heap.size w W) (And.intro (Box.alloc (Box.alloc (Box.newc rfl rfl) _) _) (And.intro (Box.alloc (Box.newc rfl (by simp)) _) (And.intro (Box.newc rfl (by simp)) (by go_grown)))) ?_
  intro w0 ⟨e_s, e_f, e_q, hB0⟩
  have hs0 := hB0.size
  have x_s0 := e_s; clear e_s
  have x_f0 := e_f; clear e_f
  have x_q0 := e_q; clear e_q
  go_wp2_with (refine wpList_load_box9 rfl _ _ rfl x_f0 rfl Tryd.underlying46 rfl SF.out ?_)
  refine (CK _).mono ?_
  rintro e w1 ⟨rfl, hb⟩
  have hB1 : Below w.heap.size w w1 := below_thru hB0 hb
  have hs1 := hB1.size
  have x_s1 : Box w1 (w.heap.size) (C) := Box.below x_s0 hb
  have x_f1 : Box w1 (w.heap.size + 1) (F) := Box.below x_f0 hb
  have x_q1 : Box w1 (w.heap.size + 2) (E) := Box.below x_q0 hb
  clear hB0 hs0 x_s0 x_f0 x_q0
  clear hb
  go_wp2_with (first
    | (refine wpList_load_box9 rfl _ _ rfl x_s1 rfl Tryd.underlying23 rfl SK.out ?_)
    | (refine wpList_load_box9 rfl _ _ rfl x_f1 rfl Tryd.underlying46 rfl SF.out ?_))
  refine (R1 _ (Lib.hid (hL.out.below hB1))).mono ?_
  rintro e w2 ⟨rfl, hb⟩
  have hB2 : Below w.heap.size w w2 := below_thru hB1 hb
  have hs2 := hB2.size
  have x_s2 : Box w2 (w.heap.size) (C) := Box.below x_s1 hb
  have x_f2 : Box w2 (w.heap.size + 1) (F) := Box.below x_f1 hb
  have x_q2 : Box w2 (w.heap.size + 2) (E) := Box.below x_q1 hb
  clear hB1 hs1 x_s1 x_f1 x_q1
  clear hb
  have ca := (x_f2).c 0 _ v0
  have za := (x_f2).lt
  have d_t_s := (x_s2).lt
  have d_t_f := (x_f2).lt
  have d_t_q := (x_q2).lt
  have d_t_0 := hs2
  go_upto_region 15 with (first
    | (refine wpList_load_rangew rfl _ _ rfl (Box.rangeMid x_f2 1 (P) (R) DT.out) rfl Tryd.underlying30 rfl SP.out ?_)
    | (refine wpList_store_box (cs := P) rfl _ _ _ rfl (Box.newc (l := zeroTk) rfl rfl) rfl rfl SP.out LP.out OP.out ?_; intro W2_0 hW2_0))
  have hN : Below w2.heap.size w2 W2_0 := (hW2_0.below _ _ (by omega) ((Below.refl _ w2).alloc (Nat.le_refl _) _))
  have x_t3 : Box W2_0 (w2.heap.size) (P) := hW2_0.box
  have hB3 : Below w.heap.size w W2_0 := below_thru hB2 hN
  have hs3 := hB3.size
  have x_s3 : Box W2_0 (w.heap.size) (C) := Box.below x_s2 hN
  have x_f3 : Box W2_0 (w.heap.size + 1) (F) := Box.below x_f2 hN
  have x_q3 : Box W2_0 (w.heap.size + 2) (E) := Box.below x_q2 hN
  clear hB2 hs2 x_s2 x_f2 x_q2
  clear hN hW2_0
  clear ca za
  have ch0 := (x_t3).c 0 _ p0
  have ch1 := (x_t3).c 1 _ p1
  have ch2 := (x_t3).c 2 _ p2
  have ch3 := (x_t3).c 3 _ p3
  have zh := (x_t3).lt
  go_wp2_with (refine wpList_load_box9 rfl _ _ rfl x_s3 rfl Tryd.underlying23 rfl SK.out ?_)
  refine (TK _ (Lib.hid (hL.out.below hB3))).mono ?_
  rintro e w4 ⟨rfl, hb⟩
  clear ch0 ch1 ch2 ch3 zh
  have hB4 : Below w.heap.size w w4 := below_thru hB3 hb
  have hs4 := hB4.size
  have x_s4 : Box w4 (w.heap.size) (C) := Box.below x_s3 hb
  have x_f4 : Box w4 (w.heap.size + 1) (F) := Box.below x_f3 hb
  have x_q4 : Box w4 (w.heap.size + 2) (E) := Box.below x_q3 hb
  have x_t4 : Box w4 (w2.heap.size) (P) := Box.below x_t3 hb
  clear hB3 hs3 x_s3 x_f3 x_q3 x_t3
  clear hb
  have d_u_s := (x_s4).lt
  have d_u_f := (x_f4).lt
  have d_u_q := (x_q4).lt
  have d_u_t := (x_t4).lt
  have d_u_0 := hs4
  go_upto_region 16 with (refine wpList_store_box (cs := U) rfl _ _ _ rfl (Box.newc (l := zeroTk) rfl rfl) rfl rfl SU.out LU.out OU.out ?_; intro W4_0 hW4_0)
  have hN : Below w4.heap.size w4 W4_0 := (hW4_0.below _ _ (by omega) ((Below.refl _ w4).alloc (Nat.le_refl _) _))
  have x_u5 : Box W4_0 (w4.heap.size) (U) := hW4_0.box
  have hB5 : Below w.heap.size w W4_0 := below_thru hB4 hN
  have hs5 := hB5.size
  have x_s5 : Box W4_0 (w.heap.size) (C) := Box.below x_s4 hN
  have x_f5 : Box W4_0 (w.heap.size + 1) (F) := Box.below x_f4 hN
  have x_q5 : Box W4_0 (w.heap.size + 2) (E) := Box.below x_q4 hN
  have x_t5 : Box W4_0 (w2.heap.size) (P) := Box.below x_t4 hN
  clear hB4 hs4 x_s4 x_f4 x_q4 x_t4
  clear hN hW4_0
  have ci := (x_t5).c 2 _ p2
  have zi := (x_t5).lt
  go_wp2_with fail
  refine (AL _ (Lib.hid (hL.out.below hB5))).mono ?_
  rintro e w6 ⟨rfl, hb⟩
  have hB6 : Below w.heap.size w w6 := below_thru hB5 hb
  have hs6 := hB6.size
  have x_s6 : Box w6 (w.heap.size) (C) := Box.below x_s5 hb
  have x_f6 : Box w6 (w.heap.size + 1) (F) := Box.below x_f5 hb
  have x_q6 : Box w6 (w.heap.size + 2) (E) := Box.below x_q5 hb
  have x_t6 : Box w6 (w2.heap.size) (P) := Box.below x_t5 hb
  have x_u6 : Box w6 (w4.heap.size) (U) := Box.below x_u5 hb
  clear hB5 hs5 x_s5 x_f5 x_q5 x_t5 x_u5
  clear hb
  go_wp2_with fail
  go_returns
  exact ⟨rfl, hB6⟩

theorem right11_is (f : Frm) {S Q : List Int} (hS : S.length = 32) (hSb : Byts S) (hQ : Q.length = 32) (hQb : Byts Q) (w : World) (hL : Hid (LaidS w)) : Calls Tryd.prog 7 #[(.agg (S.map (Value.int .u8)).toArray), .agg (mcell f).toArray, (.agg (Q.map (Value.int .u8)).toArray)] w fun e w' => e = .returned (.bool true) ∧ Below w.heap.size w w' := by
  by_cases h : f.Ok
  · rcases Frm.ok_two h with ⟨e, h1, _⟩ | ⟨e, h1, _⟩
    · rw [e]
      by_cases hk : HasKey f.r.k.t f.r.k.e
      · exact right11_t f.r hS hSb hQ hQb h1 hk w hL
      · exact right11_n f.r hS hSb hQ hQb h1 hk w hL
    · rw [e]
      exact right11_c f.c hS hSb hQ hQb h1 w hL
  · exact right11_f f hS hSb hQ hQb h w hL

end Go.Proofs.YtofjpeplgagihaaDoor
