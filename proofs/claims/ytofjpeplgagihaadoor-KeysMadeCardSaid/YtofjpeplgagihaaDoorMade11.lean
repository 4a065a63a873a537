/-
  KeysMade, walked.
-/
import Derived.Test.YtofjpeplgagihaaDoorRKyA
import Derived.Test.YtofjpeplgagihaaDoorAlive11
import Derived.Test.YtofjpeplgagihaaDoorGO1
namespace Go.Proofs.YtofjpeplgagihaaDoor
open Go.RowKit

theorem be4_small {t : Int} (h0 : 0 ≤ t) (h : t < 16) : be 4 t = [0, 0, 0, t] := by
  simp [be]
  omega
theorem keyMsg_lit {t p y1 y2 y3 y4 : Int} (h0 : 0 ≤ t) (h : t < 16) (h1 : IntKind.u8.wrap (p / 16777216) = y1) (h2 : IntKind.u8.wrap (p / 65536) = y2) (h3 : IntKind.u8.wrap (p / 256) = y3) (h4 : IntKind.u8.wrap p = y4) : keyMsg t p = [107, 0, 0, 0, t, y1, y2, y3, y4] := by
  unfold keyMsg
  rw [be4_small h0 h, ← h1, ← h2, ← h3, ← h4]
  simp only [IntKind.wrap_u8]
  simp [be]
  omega

set_option maxRecDepth 100000 in
set_option maxHeartbeats 6400000 in
theorem made11_tt (k : Nums) (c : Cmd) {S : List Int} (hS : S.length = 32) (hSb : Byts S) (ho : c.Ok) (hk : HasKey k.t k.e) (w : World) (hL : Hid (LaidS w)) : Calls Tryd.prog 6 #[(.agg (S.map (Value.int .u8)).toArray), .int .u32 k.t, .int .u32 k.u, .int .u32 k.e, .int .u64 k.x, .agg (ccell c).toArray] w fun e w' => e = .returned (.bool true) ∧ Below w.heap.size w w' := by
  obtain ⟨Q, hQ⟩ : ∃ X, (ordL S).map (Value.int .u8) = X := ⟨_, rfl⟩
  have A0 : ∀ (W : World) (a b : Value), IsL W .u8 a S → IsL W .u8 b [97] → Hid (LaidS W) → Calls Tryd.prog 22 #[a, b] W fun e w' => e = .returned (.tuple #[.agg Q.toArray, .int .i64 0]) ∧ Below W.heap.size W w' := by rw [← hQ]; exact fun W a b h1 h2 h => tag_ok (D := ordL S) W (Lib.hid h1) (Lib.hid h2) (by rw [hS]; omega) (by decide) (Lib.hid (hSb).l) (Lib.hid (byts97).l) (Lib.hid rfl) h
  have A1 := fun (W : World) (h : Hid (LaidS W)) => ord_is hS hSb W h
  have E1 := fun (W : World) => eq_same (P := Tryd.prog) Tryd.underlying23 Tryd.underlying5 size_u8' (ordL S) (ordL_len S) W
  have SK := Lib.hid (size_dig hS); have LK := Lib.hid (len_dig hS); have OK := Lib.hid (oneCell_ints (k := .u8) S)
  have IK := Lib.hid (fun (W : World) (b : Nat) (h : Box W b (S.map (Value.int .u8))) => IsL.boxed 32 hS h (by omega))
  have SG := fun (W : World) (h : Hid (LaidS W)) => sign_is c hS hSb (Or.inl ⟨rfl, ho, rfl⟩) W h; have BE := fun W => bef_is c (xs := c.msg) (q := 0) (Or.inl ⟨rfl, ho, rfl⟩) W
  have SQ := Lib.hid (size_dig (ordL_len S)); have LQ := Lib.hid (len_dig (ordL_len S)); have OQ := Lib.hid (oneCell_ints (k := .u8) (ordL S))
  have SC := Lib.hid (size_cmd c); have LC := Lib.hid (len_cmd Cmd.zero c); have OC := Lib.hid (one_cmd c)
  have SU := Lib.hid (size_cmd (c.sgn S)); have LU := Lib.hid (len_cmd Cmd.zero (c.sgn S)); have OU := Lib.hid (one_cmd (c.sgn S))
  have IQ := Lib.hid (fun (W : World) (b : Nat) (h : Box W b ((ordL S).map (Value.int .u8))) => IsL.boxed 32 (ordL_len S) h (by omega))
  obtain ⟨G, hG⟩ : ∃ X, (cmdTag S c).map (Value.int .u8) = X := ⟨_, rfl⟩
  have A3 : ∀ (W : World) (a b : Value), IsL W .u8 a (ordL S) → IsL W .u8 b c.msg → Hid (LaidS W) → Calls Tryd.prog 22 #[a, b] W fun e w' => e = .returned (.tuple #[.agg G.toArray, .int .i64 0]) ∧ Below W.heap.size W w' := by rw [← hG]; exact fun W a b h1 h2 h => tag_ok (D := cmdTag S c) W (Lib.hid h1) (Lib.hid h2) (by rw [ordL_len]; decide) (by rw [Cmd.msg_len (Cmd.ok_wd ho)]; decide) (Lib.hid (ordL_byts S).l) (Lib.hid (Cmd.msg_byts c).l) (Lib.hid rfl) h
  have SGD := Lib.hid (size_dig (cmdTag_len S c)); have LG := Lib.hid (len_dig (cmdTag_len S c)); have OG := Lib.hid (oneCell_ints (k := .u8) (cmdTag S c))
  have E3 := fun (W : World) => eqc_t (rfl : c.sgn S = c.sgn S) W
  have P1 := Lib.hid (sgn_p1 c (cmdTag_len S c)); have P2 : Hid (ccell (c.sgn S) = (ccell c).take 15 ++ (cmdTag S c).map (Value.int .u8) ++ (ccell c).drop (15 + ((cmdTag S c).map (Value.int .u8)).length)) := Lib.hid (sgn_p2 c (cmdTag_len S c) (cmdTag_byts S c))
  have TN := fun (W : World) (h : Hid (LaidS W)) => ten_is hS hSb k.ht k.he (Or.inl ⟨rfl, hk, rfl⟩) W h; have TK := fun (W : World) (h : Hid (LaidS W)) => token_is k hS hSb (Or.inl ⟨rfl, hk, rfl, rfl⟩) W h
  have I := fun W => ris_is (b := true) (⟨fun _ => hk, fun _ => rfl⟩) W
  have SD := Lib.hid (size_dig (tkeyL_len S k.t k.e)); have LD := Lib.hid (len_dig (tkeyL_len S k.t k.e)); have OD := Lib.hid (oneCell_ints (k := .u8) (tkeyL S k.t k.e))
  have SV := Lib.hid (size_tok k (minted_len S k)); have LV : Hid (zeroTk.length = (tcell k (minted S k)).length) := Lib.hid (len_tok Nums.zero k zd32 (minted_len S k)); have OV := Lib.hid (tcell_one k (minted S k))
  have AL := fun (W : World) (h : Hid (LaidS W)) => alive11_is W h
  have q1 := hk.1; have q2 := k.ht.1; have w0 : IntKind.u8.wrap k.t = k.t := by rw [IntKind.wrap_u8]; omega
  obtain ⟨y1, j1⟩ : ∃ y, IntKind.u8.wrap (k.e / 16777216) = y := ⟨_, rfl⟩
  obtain ⟨y2, j2⟩ : ∃ y, IntKind.u8.wrap (k.e / 65536) = y := ⟨_, rfl⟩
  obtain ⟨y3, j3⟩ : ∃ y, IntKind.u8.wrap (k.e / 256) = y := ⟨_, rfl⟩
  obtain ⟨y4, j4⟩ : ∃ y, IntKind.u8.wrap (k.e) = y := ⟨_, rfl⟩
  have LT := Lib.hid (keyMsg_lit q2 q1 j1 j2 j3 j4)
  obtain ⟨DK, hDK⟩ : ∃ X, (tkeyL S k.t k.e).map (Value.int .u8) = X := ⟨_, rfl⟩
  have A4 : ∀ (W : World) (a b : Value), IsL W .u8 a S → IsL W .u8 b (keyMsg k.t k.e) → Hid (LaidS W) → Calls Tryd.prog 22 #[a, b] W fun e w' => e = .returned (.tuple #[.agg DK.toArray, .int .i64 0]) ∧ Below W.heap.size W w' := by rw [← hDK]; exact fun W a b h1 h2 h => tag_ok (D := tkeyL S k.t k.e) W (Lib.hid h1) (Lib.hid h2) (by rw [hS]; omega) (by rw [keyMsg_len]; decide) (Lib.hid (hSb).l) (Lib.hid (keyMsg_byts k.t k.e).l) (Lib.hid rfl) h
  rw [LT.out] at A4
  clear LT q1 q2
  have B := fun (W : World) (h1 : Hid (LaidS W)) => mint_is (D := minted S k) k (tkeyL_len S k.t k.e) (tkeyL_byts S k.t k.e) (Lib.hid rfl) W h1
  have E4 := fun (W : World) => eq_same (P := Tryd.prog) Tryd.underlying23 Tryd.underlying5 size_u8' (tkeyL S k.t k.e) (tkeyL_len S k.t k.e) W
  have E5 := fun (W : World) => eq_tok_self k (minted_len S k) W
  rw [hDK] at SD LD OD TN B E4
  obtain ⟨V, hV⟩ : ∃ X, tcell k (minted S k) = X := ⟨_, rfl⟩
  rw [hV] at TK B E5 SV LV OV
  clear hV
  rw [hQ] at A1 E1 SQ LQ OQ IQ
  rw [hG] at P1 P2 SGD LG OG
  obtain ⟨U, hU⟩ : ∃ X, ccell (c.sgn S) = X := ⟨_, rfl⟩
  rw [hU] at SG SU LU OU P2 E3
  clear hU
  obtain ⟨CC, hCC⟩ : ∃ X, ccell c = X := ⟨_, rfl⟩
  rw [hCC] at SG BE SC LC OC P1 P2 ⊢
  clear hCC
  obtain ⟨M, hM⟩ : ∃ X, c.msg = X := ⟨_, rfl⟩
  rw [hM] at BE A3
  clear hM
  obtain ⟨C, hC⟩ : ∃ X, S.map (Value.int .u8) = X := ⟨_, rfl⟩
  rw [hC] at SK A1 SG TN TK IK ⊢
  clear hC
  clear hS hSb ho hk hQ LC OC LK OK hG hDK
  go_enter Tryd.func6, Tryd.ntmps6
  go_upto_region 1 with fail
  refine F_gen (F := fun W => Code.wp _ _ _ _ W) (J := fun W => Box W (w.heap.size) (C) ∧ Box W (w.heap.size + 1) (CC) ∧ Below w.heap.size w W) (And.intro (Box.alloc (Box.newc rfl rfl) _) (And.intro (Box.newc rfl (by simp)) (by go_grown))) ?_
  intro w0 ⟨e_s, e_c, hB0⟩
  have hs0 := hB0.size
  have x_s0 := e_s; clear e_s
  have x_c0 := e_c; clear e_c
  have LB : IsL (w0.alloc (.cells #[.int .u8 97] 5)) .u8 (.slice (some ⟨w0.heap.size, 0, none⟩) 1 1) [97] := IsL.built [97] rfl rfl rfl rfl (by simp)
  go_wp2_with fail
  refine (A0 _ _ _ (IK.out _ _ (x_s0.alloc _)) LB (Lib.hid (hL.out.below (hB0.alloc hs0 _)))).mono ?_
  rintro e w1 ⟨rfl, hb⟩
  have hN : Below w0.heap.size w0 w1 := below_thru ((Below.refl _ _).alloc (Nat.le_refl _) _) hb
  clear hb LB
  have hB1 : Below w.heap.size w w1 := below_thru hB0 hN
  have hs1 := hB1.size
  have x_s1 : Box w1 (w.heap.size) (C) := Box.below x_s0 hN
  have x_c1 : Box w1 (w.heap.size + 1) (CC) := Box.below x_c0 hN
  clear hB0 hs0 x_s0 x_c0
  clear hN
  have d_a_s := (x_s1).lt
  have d_a_c := (x_c1).lt
  have d_a_0 := hs1
  go_upto_region 2 with (refine wpList_store_box (cs := Q) rfl _ _ _ rfl (Box.newc (l := zero32) rfl rfl) rfl rfl SQ.out LQ.out OQ.out ?_; intro W1_0 hW1_0)
  have hN : Below w1.heap.size w1 W1_0 := (hW1_0.below _ _ (by omega) ((Below.refl _ w1).alloc (Nat.le_refl _) _))
  have x_a2 : Box W1_0 (w1.heap.size) (Q) := hW1_0.box
  have hB2 : Below w.heap.size w W1_0 := below_thru hB1 hN
  have hs2 := hB2.size
  have x_s2 : Box W1_0 (w.heap.size) (C) := Box.below x_s1 hN
  have x_c2 : Box W1_0 (w.heap.size + 1) (CC) := Box.below x_c1 hN
  clear hB1 hs1 x_s1 x_c1
  clear hN hW1_0
  refine wp_region_held_drew (S := fun W => Box W (w.heap.size) (C) ∧ Box W (w.heap.size + 1) (CC) ∧ Box W (w1.heap.size) (Q)) (by kernel_rfl) (And.intro (x_s2).drew (And.intro (x_c2).drew (x_a2).drew)) (fun _ => ?_)
  refine F_drew (F := fun W => wpAnyH _ _ _ _ _ _ _ _ W) ?_
  intro Wp0 hbp0
  clear hs2
  have x_s_p0 : Box Wp0 (w.heap.size) (C) := Box.below x_s2 hbp0
  have x_c_p0 : Box Wp0 (w.heap.size + 1) (CC) := Box.below x_c2 hbp0
  have x_a_p0 : Box Wp0 (w1.heap.size) (Q) := Box.below x_a2 hbp0
  have Bp0 := below_thru hB2 hbp0
  clear x_s2 x_c2 x_a2 hB2 hbp0
  refine takeH 0 34 (v := ?vp0_1) rfl (by rfl) (by kernel_rfl) (by kernel_rfl) (by kernel_rfl) (fun _ _ _ h => h) (Or.inl ⟨by rfl, ?_⟩) ((And.intro x_s_p0 (And.intro x_c_p0 x_a_p0))) ?_
  rotate_left
  · intro wq hSq
    go_simp
    exact rfl
  try simp only [Act.put, List.setIfInBounds_toArray, List.set_cons_zero, List.set_cons_succ]
  refine takeH 1 35 (v := ?vp1_2) rfl (by rfl) (by kernel_rfl) (by kernel_rfl) (by kernel_rfl) (fun _ _ _ h => h) (Or.inl ⟨by rfl, ?_⟩) ((And.intro x_s_p0 (And.intro x_c_p0 x_a_p0))) ?_
  rotate_left
  · intro wq hSq
    go_simp
    exact rfl
  try simp only [Act.put, List.setIfInBounds_toArray, List.set_cons_zero, List.set_cons_succ]
  refine takeH 2 36 (v := ?vp2_3) rfl (by rfl) (by kernel_rfl) (by kernel_rfl) (by kernel_rfl) (fun _ _ _ h => h) (Or.inl ⟨by rfl, ?_⟩) ((And.intro x_s_p0 (And.intro x_c_p0 x_a_p0))) ?_
  rotate_left
  · intro wq hSq
    go_simp
    exact rfl
  try simp only [Act.put, List.setIfInBounds_toArray, List.set_cons_zero, List.set_cons_succ]
  refine takeH 3 37 (v := .agg (C).toArray) rfl (by rfl) (by kernel_rfl) (by kernel_rfl) (by kernel_rfl) (fun _ _ _ h => h) (yieldsIf_load_mid (by rfl) _ _ rfl _ _ rfl (C) _ (fun wq hq => Box.range (hq.1)) Tryd.underlying23 rfl SK.out) ((And.intro x_s_p0 (And.intro x_c_p0 x_a_p0))) ?_
  try simp only [Act.put, List.setIfInBounds_toArray, List.set_cons_zero, List.set_cons_succ]
  refine takeH 5 39 (v := .agg (Q).toArray) rfl (by rfl) (by kernel_rfl) (by kernel_rfl) (by kernel_rfl) (fun _ _ _ h => h) (yieldsIf_load_mid (by rfl) _ _ rfl _ _ rfl (Q) _ (fun wq hq => Box.range (hq.2.2)) Tryd.underlying23 rfl SQ.out) ((And.intro x_s_p0 (And.intro x_c_p0 x_a_p0))) ?_
  try simp only [Act.put, List.setIfInBounds_toArray, List.set_cons_zero, List.set_cons_succ]
  refine wpAnyH_ready (rs := [4]) (by kernel_rfl) (by simp) (AllReadyH.cons rfl (fun K hK => ?_) AllReadyH.nil)
  go_simp
  refine (A1 _ (Lib.hid (hL.out.below Bp0))).mono ?_
  rintro e Wp4 ⟨rfl, hbp4⟩
  have x_s_p4 : Box Wp4 (w.heap.size) (C) := Box.below x_s_p0 hbp4
  have x_c_p4 : Box Wp4 (w.heap.size + 1) (CC) := Box.below x_c_p0 hbp4
  have x_a_p4 : Box Wp4 (w1.heap.size) (Q) := Box.below x_a_p0 hbp4
  have Bp4 := below_thru Bp0 hbp4
  clear x_s_p0 x_c_p0 x_a_p0 Bp0 hbp4
  refine hK.out _ _ (And.intro x_s_p4 (And.intro x_c_p4 x_a_p4)) (fun _ => ?_); clear hK K
  refine takeH 6 40 (v := ?vp6_5) rfl (by rfl) (by kernel_rfl) (by kernel_rfl) (by kernel_rfl) (fun _ _ _ h => h) (Or.inl ⟨by rfl, ?_⟩) ((And.intro x_s_p4 (And.intro x_c_p4 x_a_p4))) ?_
  rotate_left
  · intro wq hSq
    go_simp
    exact rfl
  try simp only [Act.put, List.setIfInBounds_toArray, List.set_cons_zero, List.set_cons_succ]
  refine takeH 7 41 (v := ?vp7_6) rfl (by rfl) (by kernel_rfl) (by kernel_rfl) (by kernel_rfl) (fun _ _ _ h => h) (Or.inl ⟨by rfl, ?_⟩) ((And.intro x_s_p4 (And.intro x_c_p4 x_a_p4))) ?_
  rotate_left
  · intro wq hSq
    go_simp
    exact rfl
  try simp only [Act.put, List.setIfInBounds_toArray, List.set_cons_zero, List.set_cons_succ]
  refine wpAnyH_done (by kernel_rfl) ?_ _
  have hB3 := Bp4; have hs3 := hB3.size
  have x_s3 := x_s_p4
  have x_c3 := x_c_p4
  have x_a3 := x_a_p4
  clear Bp4 x_s_p4 x_c_p4 x_a_p4
  go_wp2_with (first
    | (refine wpList_load_box9 rfl _ _ rfl x_s3 rfl Tryd.underlying23 rfl SK.out ?_)
    | (refine wpList_load_box9 rfl _ _ rfl x_c3 rfl Tryd.underlying37 rfl SC.out ?_))
  refine (SG _ (Lib.hid (hL.out.below hB3))).mono ?_
  rintro e w4 ⟨rfl, hb⟩
  have hB4 : Below w.heap.size w w4 := below_thru hB3 hb
  have hs4 := hB4.size
  have x_s4 : Box w4 (w.heap.size) (C) := Box.below x_s3 hb
  have x_c4 : Box w4 (w.heap.size + 1) (CC) := Box.below x_c3 hb
  have x_a4 : Box w4 (w1.heap.size) (Q) := Box.below x_a3 hb
  clear hB3 hs3 x_s3 x_c3 x_a3
  clear hb
  have d_x_s := (x_s4).lt
  have d_x_c := (x_c4).lt
  have d_x_a := (x_a4).lt
  have d_x_0 := hs4
  go_upto_region 5 with (refine wpList_store_box (cs := U) rfl _ _ _ rfl (Box.newc (l := ccell Cmd.zero) rfl rfl) rfl rfl SU.out LU.out OU.out ?_; intro W4_0 hW4_0)
  have hN : Below w4.heap.size w4 W4_0 := (hW4_0.below _ _ (by omega) ((Below.refl _ w4).alloc (Nat.le_refl _) _))
  have x_x5 : Box W4_0 (w4.heap.size) (U) := hW4_0.box
  have hB5 : Below w.heap.size w W4_0 := below_thru hB4 hN
  have hs5 := hB5.size
  have x_s5 : Box W4_0 (w.heap.size) (C) := Box.below x_s4 hN
  have x_c5 : Box W4_0 (w.heap.size + 1) (CC) := Box.below x_c4 hN
  have x_a5 : Box W4_0 (w1.heap.size) (Q) := Box.below x_a4 hN
  clear hB4 hs4 x_s4 x_c4 x_a4
  clear hN hW4_0
  go_wp2_with (refine wpList_load_box9 rfl _ _ rfl x_c5 rfl Tryd.underlying37 rfl SC.out ?_)
  refine (BE _).mono ?_
  rintro e w6 ⟨vm, rfl, hm, hb⟩
  have hB6 : Below w.heap.size w w6 := below_thru hB5 hb
  have hs6 := hB6.size
  have x_s6 : Box w6 (w.heap.size) (C) := Box.below x_s5 hb
  have x_c6 : Box w6 (w.heap.size + 1) (CC) := Box.below x_c5 hb
  have x_a6 : Box w6 (w1.heap.size) (Q) := Box.below x_a5 hb
  have x_x6 : Box w6 (w4.heap.size) (U) := Box.below x_x5 hb
  clear hB5 hs5 x_s5 x_c5 x_a5 x_x5
  clear hb
  have J_m6 : Hid (IsL w6 .u8 (vm) M) := Lib.hid hm
  clear hm
  go_wp2_with fail
  refine (A3 _ _ _ (IQ.out _ _ x_a6) J_m6.out (Lib.hid (hL.out.below hB6))).mono ?_
  rintro e w7 ⟨rfl, hb⟩
  have hB7 : Below w.heap.size w w7 := below_thru hB6 hb
  have hs7 := hB7.size
  have x_s7 : Box w7 (w.heap.size) (C) := Box.below x_s6 hb
  have x_c7 : Box w7 (w.heap.size + 1) (CC) := Box.below x_c6 hb
  have x_a7 : Box w7 (w1.heap.size) (Q) := Box.below x_a6 hb
  have x_x7 : Box w7 (w4.heap.size) (U) := Box.below x_x6 hb
  have J_m7 : Hid (IsL w7 .u8 (vm) M) := Lib.hid (IsL.below J_m6.out hb)
  clear hB6 hs6 x_s6 x_c6 x_a6 x_x6 J_m6
  clear hb
  clear J_m7
  have d_g_s := (x_s7).lt
  have d_g_c := (x_c7).lt
  have d_g_a := (x_a7).lt
  have d_g_x := (x_x7).lt
  have d_g_0 := hs7
  go_upto_region 10 with (refine wpList_store_box (cs := G) rfl _ _ _ rfl (Box.newc (l := zero32) rfl rfl) rfl rfl SGD.out LG.out OG.out ?_; intro W7_0 hW7_0)
  have hN : Below w7.heap.size w7 W7_0 := (hW7_0.below _ _ (by omega) ((Below.refl _ w7).alloc (Nat.le_refl _) _))
  have x_g8 : Box W7_0 (w7.heap.size) (G) := hW7_0.box
  have hB8 : Below w.heap.size w W7_0 := below_thru hB7 hN
  have hs8 := hB8.size
  have x_s8 : Box W7_0 (w.heap.size) (C) := Box.below x_s7 hN
  have x_c8 : Box W7_0 (w.heap.size + 1) (CC) := Box.below x_c7 hN
  have x_a8 : Box W7_0 (w1.heap.size) (Q) := Box.below x_a7 hN
  have x_x8 : Box W7_0 (w4.heap.size) (U) := Box.below x_x7 hN
  clear hB7 hs7 x_s7 x_c7 x_a7 x_x7
  clear hN hW7_0
  have lr_s := (x_s8).lt
  have lr_c := (x_c8).lt
  have lr_a := (x_a8).lt
  have lr_x := (x_x8).lt
  have lr_g := (x_g8).lt
  go_upto_region 11 with (first | (refine wpList_load_box9 rfl _ _ rfl x_g8 rfl Tryd.underlying23 rfl SGD.out ?_) | (refine wpList_store_part (cs := G) (ws := U) rfl _ _ _ rfl x_c8 rfl rfl SGD.out P1.out P2.out OG.out ?_; intro W8 hW8))
  have x_s9 : Box W8 (w.heap.size) (C) := hW8.past _ _ (by omega) x_s8
  have x_a9 : Box W8 (w1.heap.size) (Q) := hW8.past _ _ (by omega) x_a8
  have x_x9 : Box W8 (w4.heap.size) (U) := hW8.past _ _ (by omega) x_x8
  have x_g9 : Box W8 (w7.heap.size) (G) := hW8.past _ _ (by omega) x_g8
  have x_c9 : Box W8 (w.heap.size + 1) (U) := hW8.box
  have hB9 : Below w.heap.size w W8 := hW8.below _ _ (by omega) hB8
  have hs9 := hB9.size
  clear hW8 hB8 hs8 x_s8 x_c8 x_a8 x_x8 x_g8 lr_s lr_c lr_a lr_x lr_g 
  clear x_g9
  go_wp2_with (first
    | (refine wpList_load_box9 rfl _ _ rfl x_x9 rfl Tryd.underlying37 rfl SU.out ?_)
    | (refine wpList_load_box9 rfl _ _ rfl x_c9 rfl Tryd.underlying37 rfl SU.out ?_)
    | (refine wpList_load_box9 rfl _ _ rfl x_s9 rfl Tryd.underlying23 rfl SK.out ?_))
  refine (TN _ (Lib.hid (hL.out.below hB9))).mono ?_
  rintro e w10 ⟨rfl, hb⟩
  have hB10 : Below w.heap.size w w10 := below_thru hB9 hb
  have hs10 := hB10.size
  have x_s10 : Box w10 (w.heap.size) (C) := Box.below x_s9 hb
  have x_c10 : Box w10 (w.heap.size + 1) (U) := Box.below x_c9 hb
  have x_a10 : Box w10 (w1.heap.size) (Q) := Box.below x_a9 hb
  have x_x10 : Box w10 (w4.heap.size) (U) := Box.below x_x9 hb
  clear hB9 hs9 x_s9 x_c9 x_a9 x_x9
  clear hb
  clear x_c10
  clear x_x10
  clear x_a10
  have d_k_s := (x_s10).lt
  have d_k_0 := hs10
  go_upto_region 14 with (refine wpList_store_box (cs := DK) rfl _ _ _ rfl (Box.newc (l := zero32) rfl rfl) rfl rfl SD.out LD.out OD.out ?_; intro W10_0 hW10_0)
  have hN : Below w10.heap.size w10 W10_0 := (hW10_0.below _ _ (by omega) ((Below.refl _ w10).alloc (Nat.le_refl _) _))
  have x_k11 : Box W10_0 (w10.heap.size) (DK) := hW10_0.box
  have hB11 : Below w.heap.size w W10_0 := below_thru hB10 hN
  have hs11 := hB11.size
  have x_s11 : Box W10_0 (w.heap.size) (C) := Box.below x_s10 hN
  clear hB10 hs10 x_s10
  clear hN hW10_0
  go_wp2_with (refine wpList_load_box9 rfl _ _ rfl x_s11 rfl Tryd.underlying23 rfl SK.out ?_)
  refine (TK _ (Lib.hid (hL.out.below hB11))).mono ?_
  rintro e w12 ⟨rfl, hb⟩
  have hB12 : Below w.heap.size w w12 := below_thru hB11 hb
  have hs12 := hB12.size
  have x_s12 : Box w12 (w.heap.size) (C) := Box.below x_s11 hb
  have x_k12 : Box w12 (w10.heap.size) (DK) := Box.below x_k11 hb
  clear hB11 hs11 x_s11 x_k11
  clear hb
  have d_t_s := (x_s12).lt
  have d_t_k := (x_k12).lt
  have d_t_0 := hs12
  go_upto_region 15 with (refine wpList_store_box (cs := V) rfl _ _ _ rfl (Box.newc (l := zeroTk) rfl rfl) rfl rfl SV.out LV.out OV.out ?_; intro W12_0 hW12_0)
  have hN : Below w12.heap.size w12 W12_0 := (hW12_0.below _ _ (by omega) ((Below.refl _ w12).alloc (Nat.le_refl _) _))
  have x_t13 : Box W12_0 (w12.heap.size) (V) := hW12_0.box
  have hB13 : Below w.heap.size w W12_0 := below_thru hB12 hN
  have hs13 := hB13.size
  have x_s13 : Box W12_0 (w.heap.size) (C) := Box.below x_s12 hN
  have x_k13 : Box W12_0 (w10.heap.size) (DK) := Box.below x_k12 hN
  clear hB12 hs12 x_s12 x_k12
  clear hN hW12_0
  go_wp2_with fail
  refine (I _).mono ?_
  rintro e w14 ⟨rfl, hb⟩
  have hB14 : Below w.heap.size w w14 := below_thru hB13 hb
  have hs14 := hB14.size
  have x_s14 : Box w14 (w.heap.size) (C) := Box.below x_s13 hb
  have x_k14 : Box w14 (w10.heap.size) (DK) := Box.below x_k13 hb
  have x_t14 : Box w14 (w12.heap.size) (V) := Box.below x_t13 hb
  clear hB13 hs13 x_s13 x_k13 x_t13
  clear hb
  have LB : IsL (w14.alloc (.cells #[.int .u8 107, .int .u8 0, .int .u8 0, .int .u8 0, .int .u8 k.t, .int .u8 y1, .int .u8 y2, .int .u8 y3, .int .u8 y4] 5)) .u8 (.slice (some ⟨w14.heap.size, 0, none⟩) 9 9) [107, 0, 0, 0, k.t, y1, y2, y3, y4] := IsL.built [107, 0, 0, 0, k.t, y1, y2, y3, y4] rfl rfl rfl rfl (by simp)
  go_wp2_with fail
  refine (A4 _ _ _ (IK.out _ _ (x_s14.alloc _)) LB (Lib.hid (hL.out.below (hB14.alloc hs14 _)))).mono ?_
  rintro e w15 ⟨rfl, hb⟩
  have hN : Below w14.heap.size w14 w15 := below_thru ((Below.refl _ _).alloc (Nat.le_refl _) _) hb
  clear hb LB
  have hB15 : Below w.heap.size w w15 := below_thru hB14 hN
  have hs15 := hB15.size
  have x_s15 : Box w15 (w.heap.size) (C) := Box.below x_s14 hN
  have x_k15 : Box w15 (w10.heap.size) (DK) := Box.below x_k14 hN
  have x_t15 : Box w15 (w12.heap.size) (V) := Box.below x_t14 hN
  clear hB14 hs14 x_s14 x_k14 x_t14
  clear hN
  have d_w_s := (x_s15).lt
  have d_w_k := (x_k15).lt
  have d_w_t := (x_t15).lt
  have d_w_0 := hs15
  go_upto_region 19 with (refine wpList_store_box (cs := DK) rfl _ _ _ rfl (Box.newc (l := zero32) rfl rfl) rfl rfl SD.out LD.out OD.out ?_; intro W15_0 hW15_0)
  have hN : Below w15.heap.size w15 W15_0 := (hW15_0.below _ _ (by omega) ((Below.refl _ w15).alloc (Nat.le_refl _) _))
  have x_w16 : Box W15_0 (w15.heap.size) (DK) := hW15_0.box
  have hB16 : Below w.heap.size w W15_0 := below_thru hB15 hN
  have hs16 := hB16.size
  have x_s16 : Box W15_0 (w.heap.size) (C) := Box.below x_s15 hN
  have x_k16 : Box W15_0 (w10.heap.size) (DK) := Box.below x_k15 hN
  have x_t16 : Box W15_0 (w12.heap.size) (V) := Box.below x_t15 hN
  clear hB15 hs15 x_s15 x_k15 x_t15
  clear hN hW15_0
  refine wp_region_held_drew (S := fun W => Box W (w.heap.size) (C) ∧ Box W (w10.heap.size) (DK) ∧ Box W (w12.heap.size) (V) ∧ Box W (w15.heap.size) (DK)) (by kernel_rfl) (And.intro (x_s16).drew (And.intro (x_k16).drew (And.intro (x_t16).drew (x_w16).drew))) (fun _ => ?_)
  refine F_drew (F := fun W => wpAnyH _ _ _ _ _ _ _ _ W) ?_
  intro Wq0 hbq0
  clear hs16
  have x_s_q0 : Box Wq0 (w.heap.size) (C) := Box.below x_s16 hbq0
  have x_k_q0 : Box Wq0 (w10.heap.size) (DK) := Box.below x_k16 hbq0
  have x_t_q0 : Box Wq0 (w12.heap.size) (V) := Box.below x_t16 hbq0
  have x_w_q0 : Box Wq0 (w15.heap.size) (DK) := Box.below x_w16 hbq0
  have Bq0 := below_thru hB16 hbq0
  clear x_s16 x_k16 x_t16 x_w16 hB16 hbq0
  refine takeH 0 122 (v := ?vq0_1) rfl (by rfl) (by kernel_rfl) (by kernel_rfl) (by kernel_rfl) (fun _ _ _ h => h) (Or.inl ⟨by rfl, ?_⟩) ((And.intro x_s_q0 (And.intro x_k_q0 (And.intro x_t_q0 x_w_q0)))) ?_
  rotate_left
  · intro wq hSq
    go_simp
    exact rfl
  try simp only [Act.put, List.setIfInBounds_toArray, List.set_cons_zero, List.set_cons_succ]
  refine takeH 1 123 (v := ?vq1_2) rfl (by rfl) (by kernel_rfl) (by kernel_rfl) (by kernel_rfl) (fun _ _ _ h => h) (Or.inl ⟨by rfl, ?_⟩) ((And.intro x_s_q0 (And.intro x_k_q0 (And.intro x_t_q0 x_w_q0)))) ?_
  rotate_left
  · intro wq hSq
    go_simp
    exact rfl
  try simp only [Act.put, List.setIfInBounds_toArray, List.set_cons_zero, List.set_cons_succ]
  refine takeH 2 124 (v := ?vq2_3) rfl (by rfl) (by kernel_rfl) (by kernel_rfl) (by kernel_rfl) (fun _ _ _ h => h) (Or.inl ⟨by rfl, ?_⟩) ((And.intro x_s_q0 (And.intro x_k_q0 (And.intro x_t_q0 x_w_q0)))) ?_
  rotate_left
  · intro wq hSq
    go_simp
    exact rfl
  try simp only [Act.put, List.setIfInBounds_toArray, List.set_cons_zero, List.set_cons_succ]
  refine takeH 3 125 (v := ?vq3_4) rfl (by rfl) (by kernel_rfl) (by kernel_rfl) (by kernel_rfl) (fun _ _ _ h => h) (Or.inl ⟨by rfl, ?_⟩) ((And.intro x_s_q0 (And.intro x_k_q0 (And.intro x_t_q0 x_w_q0)))) ?_
  rotate_left
  · intro wq hSq
    go_simp
    exact rfl
  try simp only [Act.put, List.setIfInBounds_toArray, List.set_cons_zero, List.set_cons_succ]
  refine takeH 4 126 (v := ?vq4_5) rfl (by rfl) (by kernel_rfl) (by kernel_rfl) (by kernel_rfl) (fun _ _ _ h => h) (Or.inl ⟨by rfl, ?_⟩) ((And.intro x_s_q0 (And.intro x_k_q0 (And.intro x_t_q0 x_w_q0)))) ?_
  rotate_left
  · intro wq hSq
    go_simp
    exact rfl
  try simp only [Act.put, List.setIfInBounds_toArray, List.set_cons_zero, List.set_cons_succ]
  refine takeH 5 127 (v := ?vq5_6) rfl (by rfl) (by kernel_rfl) (by kernel_rfl) (by kernel_rfl) (fun _ _ _ h => h) (Or.inl ⟨by rfl, ?_⟩) ((And.intro x_s_q0 (And.intro x_k_q0 (And.intro x_t_q0 x_w_q0)))) ?_
  rotate_left
  · intro wq hSq
    go_simp
    exact rfl
  try simp only [Act.put, List.setIfInBounds_toArray, List.set_cons_zero, List.set_cons_succ]
  refine takeH 6 128 (v := ?vq6_7) rfl (by rfl) (by kernel_rfl) (by kernel_rfl) (by kernel_rfl) (fun _ _ _ h => h) (Or.inl ⟨by rfl, ?_⟩) ((And.intro x_s_q0 (And.intro x_k_q0 (And.intro x_t_q0 x_w_q0)))) ?_
  rotate_left
  · intro wq hSq
    go_simp
    exact rfl
  try simp only [Act.put, List.setIfInBounds_toArray, List.set_cons_zero, List.set_cons_succ]
  refine takeH 7 129 (v := ?vq7_8) rfl (by rfl) (by kernel_rfl) (by kernel_rfl) (by kernel_rfl) (fun _ _ _ h => h) (Or.inl ⟨by rfl, ?_⟩) ((And.intro x_s_q0 (And.intro x_k_q0 (And.intro x_t_q0 x_w_q0)))) ?_
  rotate_left
  · intro wq hSq
    go_simp
    exact rfl
  try simp only [Act.put, List.setIfInBounds_toArray, List.set_cons_zero, List.set_cons_succ]
  refine takeH 8 130 (v := ?vq8_9) rfl (by rfl) (by kernel_rfl) (by kernel_rfl) (by kernel_rfl) (fun _ _ _ h => h) (Or.inl ⟨by rfl, ?_⟩) ((And.intro x_s_q0 (And.intro x_k_q0 (And.intro x_t_q0 x_w_q0)))) ?_
  rotate_left
  · intro wq hSq
    go_simp
    exact rfl
  try simp only [Act.put, List.setIfInBounds_toArray, List.set_cons_zero, List.set_cons_succ]
  refine takeH 9 131 (v := ?vq9_10) rfl (by rfl) (by kernel_rfl) (by kernel_rfl) (by kernel_rfl) (fun _ _ _ h => h) (Or.inl ⟨by rfl, ?_⟩) ((And.intro x_s_q0 (And.intro x_k_q0 (And.intro x_t_q0 x_w_q0)))) ?_
  rotate_left
  · intro wq hSq
    go_simp
    exact rfl
  try simp only [Act.put, List.setIfInBounds_toArray, List.set_cons_zero, List.set_cons_succ]
  refine takeH 10 132 (v := ?vq10_11) rfl (by rfl) (by kernel_rfl) (by kernel_rfl) (by kernel_rfl) (fun _ _ _ h => h) (Or.inl ⟨by rfl, ?_⟩) ((And.intro x_s_q0 (And.intro x_k_q0 (And.intro x_t_q0 x_w_q0)))) ?_
  rotate_left
  · intro wq hSq
    go_simp
    exact rfl
  try simp only [Act.put, List.setIfInBounds_toArray, List.set_cons_zero, List.set_cons_succ]
  refine takeH 11 133 (v := .agg (DK).toArray) rfl (by rfl) (by kernel_rfl) (by kernel_rfl) (by kernel_rfl) (fun _ _ _ h => h) (yieldsIf_load_mid (by rfl) _ _ rfl _ _ rfl (DK) _ (fun wq hq => Box.range (hq.2.1)) Tryd.underlying23 rfl SD.out) ((And.intro x_s_q0 (And.intro x_k_q0 (And.intro x_t_q0 x_w_q0)))) ?_
  try simp only [Act.put, List.setIfInBounds_toArray, List.set_cons_zero, List.set_cons_succ]
  refine takeH 12 134 (v := .agg (DK).toArray) rfl (by rfl) (by kernel_rfl) (by kernel_rfl) (by kernel_rfl) (fun _ _ _ h => h) (yieldsIf_load_mid (by rfl) _ _ rfl _ _ rfl (DK) _ (fun wq hq => Box.range (hq.2.2.2)) Tryd.underlying23 rfl SD.out) ((And.intro x_s_q0 (And.intro x_k_q0 (And.intro x_t_q0 x_w_q0)))) ?_
  try simp only [Act.put, List.setIfInBounds_toArray, List.set_cons_zero, List.set_cons_succ]
  refine takeH 13 135 (v := ?vq13_12) rfl (by rfl) (by kernel_rfl) (by kernel_rfl) (by kernel_rfl) (fun _ _ _ h => h) (Or.inl ⟨by rfl, ?_⟩) ((And.intro x_s_q0 (And.intro x_k_q0 (And.intro x_t_q0 x_w_q0)))) ?_
  rotate_left
  · intro wq hSq
    go_simp
    exact rfl
  try simp only [Act.put, List.setIfInBounds_toArray, List.set_cons_zero, List.set_cons_succ]
  refine takeH 14 136 (v := ?vq14_13) rfl (by rfl) (by kernel_rfl) (by kernel_rfl) (by kernel_rfl) (fun _ _ _ h => h) (Or.inl ⟨by rfl, ?_⟩) ((And.intro x_s_q0 (And.intro x_k_q0 (And.intro x_t_q0 x_w_q0)))) ?_
  rotate_left
  · intro wq hSq
    go_simp
    exact rfl
  try simp only [Act.put, List.setIfInBounds_toArray, List.set_cons_zero, List.set_cons_succ]
  refine takeH 15 137 (v := ?vq15_14) rfl (by rfl) (by kernel_rfl) (by kernel_rfl) (by kernel_rfl) (fun _ _ _ h => h) (Or.inl ⟨by rfl, ?_⟩) ((And.intro x_s_q0 (And.intro x_k_q0 (And.intro x_t_q0 x_w_q0)))) ?_
  rotate_left
  · intro wq hSq
    go_simp
    exact rfl
  try simp only [Act.put, List.setIfInBounds_toArray, List.set_cons_zero, List.set_cons_succ]
  refine takeH 18 140 (v := ?vq18_15) rfl (by rfl) (by kernel_rfl) (by kernel_rfl) (by kernel_rfl) (fun _ _ _ h => h) (Or.inl ⟨by rfl, ?_⟩) ((And.intro x_s_q0 (And.intro x_k_q0 (And.intro x_t_q0 x_w_q0)))) ?_
  rotate_left
  · intro wq hSq
    go_simp
    exact rfl
  try simp only [Act.put, List.setIfInBounds_toArray, List.set_cons_zero, List.set_cons_succ]
  refine takeH 19 141 (v := ?vq19_16) rfl (by rfl) (by kernel_rfl) (by kernel_rfl) (by kernel_rfl) (fun _ _ _ h => h) (Or.inl ⟨by rfl, ?_⟩) ((And.intro x_s_q0 (And.intro x_k_q0 (And.intro x_t_q0 x_w_q0)))) ?_
  rotate_left
  · intro wq hSq
    go_simp
    exact rfl
  try simp only [Act.put, List.setIfInBounds_toArray, List.set_cons_zero, List.set_cons_succ]
  refine takeH 20 142 (v := ?vq20_17) rfl (by rfl) (by kernel_rfl) (by kernel_rfl) (by kernel_rfl) (fun _ _ _ h => h) (Or.inl ⟨by rfl, ?_⟩) ((And.intro x_s_q0 (And.intro x_k_q0 (And.intro x_t_q0 x_w_q0)))) ?_
  rotate_left
  · intro wq hSq
    go_simp
    exact rfl
  try simp only [Act.put, List.setIfInBounds_toArray, List.set_cons_zero, List.set_cons_succ]
  refine takeH 21 143 (v := ?vq21_18) rfl (by rfl) (by kernel_rfl) (by kernel_rfl) (by kernel_rfl) (fun _ _ _ h => h) (Or.inl ⟨by rfl, ?_⟩) ((And.intro x_s_q0 (And.intro x_k_q0 (And.intro x_t_q0 x_w_q0)))) ?_
  rotate_left
  · intro wq hSq
    go_simp
    exact rfl
  try simp only [Act.put, List.setIfInBounds_toArray, List.set_cons_zero, List.set_cons_succ]
  refine takeH 16 138 (v := .agg (V).toArray) rfl (by rfl) (by kernel_rfl) (by kernel_rfl) (by kernel_rfl) (fun _ _ _ h => h) (yieldsIf_load_mid (by rfl) _ _ rfl _ _ rfl (V) _ (fun wq hq => Box.range (hq.2.2.1)) Tryd.underlying30 rfl SV.out) ((And.intro x_s_q0 (And.intro x_k_q0 (And.intro x_t_q0 x_w_q0)))) ?_
  try simp only [Act.put, List.setIfInBounds_toArray, List.set_cons_zero, List.set_cons_succ]
  refine takeH 17 139 (v := .agg (DK).toArray) rfl (by rfl) (by kernel_rfl) (by kernel_rfl) (by kernel_rfl) (fun _ _ _ h => h) (yieldsIf_load_mid (by rfl) _ _ rfl _ _ rfl (DK) _ (fun wq hq => Box.range (hq.2.1)) Tryd.underlying23 rfl SD.out) ((And.intro x_s_q0 (And.intro x_k_q0 (And.intro x_t_q0 x_w_q0)))) ?_
  try simp only [Act.put, List.setIfInBounds_toArray, List.set_cons_zero, List.set_cons_succ]
  refine wpAnyH_ready (rs := [22]) (by kernel_rfl) (by simp) (AllReadyH.cons rfl (fun K hK => ?_) AllReadyH.nil)
  go_simp
  refine (B _ (Lib.hid (hL.out.below Bq0))).mono ?_
  rintro e Wq19 ⟨rfl, hbq19⟩
  have x_s_q19 : Box Wq19 (w.heap.size) (C) := Box.below x_s_q0 hbq19
  have x_k_q19 : Box Wq19 (w10.heap.size) (DK) := Box.below x_k_q0 hbq19
  have x_t_q19 : Box Wq19 (w12.heap.size) (V) := Box.below x_t_q0 hbq19
  have x_w_q19 : Box Wq19 (w15.heap.size) (DK) := Box.below x_w_q0 hbq19
  have Bq19 := below_thru Bq0 hbq19
  clear x_s_q0 x_k_q0 x_t_q0 x_w_q0 Bq0 hbq19
  refine hK.out _ _ (And.intro x_s_q19 (And.intro x_k_q19 (And.intro x_t_q19 x_w_q19))) (fun _ => ?_); clear hK K
  refine takeH 23 145 (v := ?vq23_20) rfl (by rfl) (by kernel_rfl) (by kernel_rfl) (by kernel_rfl) (fun _ _ _ h => h) (Or.inl ⟨by rfl, ?_⟩) ((And.intro x_s_q19 (And.intro x_k_q19 (And.intro x_t_q19 x_w_q19)))) ?_
  rotate_left
  · intro wq hSq
    go_simp
    exact rfl
  try simp only [Act.put, List.setIfInBounds_toArray, List.set_cons_zero, List.set_cons_succ]
  refine takeH 24 146 (v := ?vq24_21) rfl (by rfl) (by kernel_rfl) (by kernel_rfl) (by kernel_rfl) (fun _ _ _ h => h) (Or.inl ⟨by rfl, ?_⟩) ((And.intro x_s_q19 (And.intro x_k_q19 (And.intro x_t_q19 x_w_q19)))) ?_
  rotate_left
  · intro wq hSq
    go_simp
    exact rfl
  try simp only [Act.put, List.setIfInBounds_toArray, List.set_cons_zero, List.set_cons_succ]
  refine takeH 25 147 (v := ?vq25_22) rfl (by rfl) (by kernel_rfl) (by kernel_rfl) (by kernel_rfl) (fun _ _ _ h => h) (Or.inl ⟨by rfl, ?_⟩) ((And.intro x_s_q19 (And.intro x_k_q19 (And.intro x_t_q19 x_w_q19)))) ?_
  rotate_left
  · intro wq hSq
    go_simp
    exact rfl
  try simp only [Act.put, List.setIfInBounds_toArray, List.set_cons_zero, List.set_cons_succ]
  refine wpAnyH_ready (rs := [26]) (by kernel_rfl) (by simp) (AllReadyH.cons rfl (fun K hK => ?_) AllReadyH.nil)
  go_simp
  refine (AL _ (Lib.hid (hL.out.below Bq19))).mono ?_
  rintro e Wq23 ⟨rfl, hbq23⟩
  have x_s_q23 : Box Wq23 (w.heap.size) (C) := Box.below x_s_q19 hbq23
  have x_k_q23 : Box Wq23 (w10.heap.size) (DK) := Box.below x_k_q19 hbq23
  have x_t_q23 : Box Wq23 (w12.heap.size) (V) := Box.below x_t_q19 hbq23
  have x_w_q23 : Box Wq23 (w15.heap.size) (DK) := Box.below x_w_q19 hbq23
  have Bq23 := below_thru Bq19 hbq23
  clear x_s_q19 x_k_q19 x_t_q19 x_w_q19 Bq19 hbq23
  refine hK.out _ _ (And.intro x_s_q23 (And.intro x_k_q23 (And.intro x_t_q23 x_w_q23))) (fun _ => ?_); clear hK K
  refine takeH 27 149 (v := ?vq27_24) rfl (by rfl) (by kernel_rfl) (by kernel_rfl) (by kernel_rfl) (fun _ _ _ h => h) (Or.inl ⟨by rfl, ?_⟩) ((And.intro x_s_q23 (And.intro x_k_q23 (And.intro x_t_q23 x_w_q23)))) ?_
  rotate_left
  · intro wq hSq
    go_simp
    exact rfl
  try simp only [Act.put, List.setIfInBounds_toArray, List.set_cons_zero, List.set_cons_succ]
  refine takeH 28 12 (v := ?vq28_25) rfl (by rfl) (by kernel_rfl) (by kernel_rfl) (by kernel_rfl) (fun _ _ _ h => h) (Or.inl ⟨by rfl, ?_⟩) ((And.intro x_s_q23 (And.intro x_k_q23 (And.intro x_t_q23 x_w_q23)))) ?_
  rotate_left
  · intro wq hSq
    go_simp
    exact rfl
  try simp only [Act.put, List.setIfInBounds_toArray, List.set_cons_zero, List.set_cons_succ]
  refine wpAnyH_done (by kernel_rfl) ?_ _
  go_wp2_with fail
  go_returns
  exact ⟨rfl, Bq23⟩

set_option maxRecDepth 100000 in
set_option maxHeartbeats 6400000 in
theorem made11_tf (k : Nums) (c : Cmd) {S : List Int} (hS : S.length = 32) (hSb : Byts S) (ho : c.Ok) (hk : ¬ HasKey k.t k.e) (w : World) (hL : Hid (LaidS w)) : Calls Tryd.prog 6 #[(.agg (S.map (Value.int .u8)).toArray), .int .u32 k.t, .int .u32 k.u, .int .u32 k.e, .int .u64 k.x, .agg (ccell c).toArray] w fun e w' => e = .returned (.bool true) ∧ Below w.heap.size w w' := by
  obtain ⟨Q, hQ⟩ : ∃ X, (ordL S).map (Value.int .u8) = X := ⟨_, rfl⟩
  have A0 : ∀ (W : World) (a b : Value), IsL W .u8 a S → IsL W .u8 b [97] → Hid (LaidS W) → Calls Tryd.prog 22 #[a, b] W fun e w' => e = .returned (.tuple #[.agg Q.toArray, .int .i64 0]) ∧ Below W.heap.size W w' := by rw [← hQ]; exact fun W a b h1 h2 h => tag_ok (D := ordL S) W (Lib.hid h1) (Lib.hid h2) (by rw [hS]; omega) (by decide) (Lib.hid (hSb).l) (Lib.hid (byts97).l) (Lib.hid rfl) h
  have A1 := fun (W : World) (h : Hid (LaidS W)) => ord_is hS hSb W h
  have E1 := fun (W : World) => eq_same (P := Tryd.prog) Tryd.underlying23 Tryd.underlying5 size_u8' (ordL S) (ordL_len S) W
  have SK := Lib.hid (size_dig hS); have LK := Lib.hid (len_dig hS); have OK := Lib.hid (oneCell_ints (k := .u8) S)
  have IK := Lib.hid (fun (W : World) (b : Nat) (h : Box W b (S.map (Value.int .u8))) => IsL.boxed 32 hS h (by omega))
  have SG := fun (W : World) (h : Hid (LaidS W)) => sign_is c hS hSb (Or.inl ⟨rfl, ho, rfl⟩) W h; have BE := fun W => bef_is c (xs := c.msg) (q := 0) (Or.inl ⟨rfl, ho, rfl⟩) W
  have SQ := Lib.hid (size_dig (ordL_len S)); have LQ := Lib.hid (len_dig (ordL_len S)); have OQ := Lib.hid (oneCell_ints (k := .u8) (ordL S))
  have SC := Lib.hid (size_cmd c); have LC := Lib.hid (len_cmd Cmd.zero c); have OC := Lib.hid (one_cmd c)
  have SU := Lib.hid (size_cmd (c.sgn S)); have LU := Lib.hid (len_cmd Cmd.zero (c.sgn S)); have OU := Lib.hid (one_cmd (c.sgn S))
  have IQ := Lib.hid (fun (W : World) (b : Nat) (h : Box W b ((ordL S).map (Value.int .u8))) => IsL.boxed 32 (ordL_len S) h (by omega))
  obtain ⟨G, hG⟩ : ∃ X, (cmdTag S c).map (Value.int .u8) = X := ⟨_, rfl⟩
  have A3 : ∀ (W : World) (a b : Value), IsL W .u8 a (ordL S) → IsL W .u8 b c.msg → Hid (LaidS W) → Calls Tryd.prog 22 #[a, b] W fun e w' => e = .returned (.tuple #[.agg G.toArray, .int .i64 0]) ∧ Below W.heap.size W w' := by rw [← hG]; exact fun W a b h1 h2 h => tag_ok (D := cmdTag S c) W (Lib.hid h1) (Lib.hid h2) (by rw [ordL_len]; decide) (by rw [Cmd.msg_len (Cmd.ok_wd ho)]; decide) (Lib.hid (ordL_byts S).l) (Lib.hid (Cmd.msg_byts c).l) (Lib.hid rfl) h
  have SGD := Lib.hid (size_dig (cmdTag_len S c)); have LG := Lib.hid (len_dig (cmdTag_len S c)); have OG := Lib.hid (oneCell_ints (k := .u8) (cmdTag S c))
  have E3 := fun (W : World) => eqc_t (rfl : c.sgn S = c.sgn S) W
  have P1 := Lib.hid (sgn_p1 c (cmdTag_len S c)); have P2 : Hid (ccell (c.sgn S) = (ccell c).take 15 ++ (cmdTag S c).map (Value.int .u8) ++ (ccell c).drop (15 + ((cmdTag S c).map (Value.int .u8)).length)) := Lib.hid (sgn_p2 c (cmdTag_len S c) (cmdTag_byts S c))
  have TN := fun (W : World) (h : Hid (LaidS W)) => ten_is hS hSb k.ht k.he (Or.inr ⟨rfl, hk, rfl⟩) W h; have TK := fun (W : World) (h : Hid (LaidS W)) => token_is k hS hSb (Or.inr ⟨rfl, hk, rfl, rfl⟩) W h
  have I := fun W => ris_is (b := false) (⟨fun g => (Bool.false_ne_true g).elim, fun g => absurd g hk⟩) W
  have SD := Lib.hid (size_dig zd32); have LD := Lib.hid (len_dig zd32); have OD := Lib.hid (oneCell_ints (k := .u8) zeroD)
  have SV := Lib.hid (size_tok Nums.zero zd32); have LV : Hid (zeroTk.length = (tcell Nums.zero zeroD).length) := Lib.hid (len_tok Nums.zero Nums.zero zd32 zd32); have OV := Lib.hid (tcell_one Nums.zero zeroD)
  have AL := fun (W : World) (h : Hid (LaidS W)) => alive11_is W h
  obtain ⟨DK, hDK⟩ : ∃ X, zeroD.map (Value.int .u8) = X := ⟨_, rfl⟩
  rw [hDK] at SD LD OD TN
  clear hDK
  obtain ⟨V, hV⟩ : ∃ X, tcell Nums.zero zeroD = X := ⟨_, rfl⟩
  rw [hV] at TK SV LV OV
  clear hV
  rw [hQ] at A1 E1 SQ LQ OQ IQ
  rw [hG] at P1 P2 SGD LG OG
  obtain ⟨U, hU⟩ : ∃ X, ccell (c.sgn S) = X := ⟨_, rfl⟩
  rw [hU] at SG SU LU OU P2 E3
  clear hU
  obtain ⟨CC, hCC⟩ : ∃ X, ccell c = X := ⟨_, rfl⟩
  rw [hCC] at SG BE SC LC OC P1 P2 ⊢
  clear hCC
  obtain ⟨M, hM⟩ : ∃ X, c.msg = X := ⟨_, rfl⟩
  rw [hM] at BE A3
  clear hM
  obtain ⟨C, hC⟩ : ∃ X, S.map (Value.int .u8) = X := ⟨_, rfl⟩
  rw [hC] at SK A1 SG TN TK IK ⊢
  clear hC
  clear hS hSb ho hk hQ LC OC LK OK hG
  go_enter Tryd.func6, Tryd.ntmps6
  go_upto_region 1 with fail
  refine F_gen (F := fun W => Code.wp _ _ _ _ W) (J := fun W => Box W (w.heap.size) (C) ∧ Box W (w.heap.size + 1) (CC) ∧ Below w.heap.size w W) (And.intro (Box.alloc (Box.newc rfl rfl) _) (And.intro (Box.newc rfl (by simp)) (by go_grown))) ?_
  intro w0 ⟨e_s, e_c, hB0⟩
  have hs0 := hB0.size
  have x_s0 := e_s; clear e_s
  have x_c0 := e_c; clear e_c
  have LB : IsL (w0.alloc (.cells #[.int .u8 97] 5)) .u8 (.slice (some ⟨w0.heap.size, 0, none⟩) 1 1) [97] := IsL.built [97] rfl rfl rfl rfl (by simp)
  go_wp2_with fail
  refine (A0 _ _ _ (IK.out _ _ (x_s0.alloc _)) LB (Lib.hid (hL.out.below (hB0.alloc hs0 _)))).mono ?_
  rintro e w1 ⟨rfl, hb⟩
  have hN : Below w0.heap.size w0 w1 := below_thru ((Below.refl _ _).alloc (Nat.le_refl _) _) hb
  clear hb LB
  have hB1 : Below w.heap.size w w1 := below_thru hB0 hN
  have hs1 := hB1.size
  have x_s1 : Box w1 (w.heap.size) (C) := Box.below x_s0 hN
  have x_c1 : Box w1 (w.heap.size + 1) (CC) := Box.below x_c0 hN
  clear hB0 hs0 x_s0 x_c0
  clear hN
  have d_a_s := (x_s1).lt
  have d_a_c := (x_c1).lt
  have d_a_0 := hs1
  go_upto_region 2 with (refine wpList_store_box (cs := Q) rfl _ _ _ rfl (Box.newc (l := zero32) rfl rfl) rfl rfl SQ.out LQ.out OQ.out ?_; intro W1_0 hW1_0)
  have hN : Below w1.heap.size w1 W1_0 := (hW1_0.below _ _ (by omega) ((Below.refl _ w1).alloc (Nat.le_refl _) _))
  have x_a2 : Box W1_0 (w1.heap.size) (Q) := hW1_0.box
  have hB2 : Below w.heap.size w W1_0 := below_thru hB1 hN
  have hs2 := hB2.size
  have x_s2 : Box W1_0 (w.heap.size) (C) := Box.below x_s1 hN
  have x_c2 : Box W1_0 (w.heap.size + 1) (CC) := Box.below x_c1 hN
  clear hB1 hs1 x_s1 x_c1
  clear hN hW1_0
  refine wp_region_held_drew (S := fun W => Box W (w.heap.size) (C) ∧ Box W (w.heap.size + 1) (CC) ∧ Box W (w1.heap.size) (Q)) (by kernel_rfl) (And.intro (x_s2).drew (And.intro (x_c2).drew (x_a2).drew)) (fun _ => ?_)
  refine F_drew (F := fun W => wpAnyH _ _ _ _ _ _ _ _ W) ?_
  intro Wp0 hbp0
  clear hs2
  have x_s_p0 : Box Wp0 (w.heap.size) (C) := Box.below x_s2 hbp0
  have x_c_p0 : Box Wp0 (w.heap.size + 1) (CC) := Box.below x_c2 hbp0
  have x_a_p0 : Box Wp0 (w1.heap.size) (Q) := Box.below x_a2 hbp0
  have Bp0 := below_thru hB2 hbp0
  clear x_s2 x_c2 x_a2 hB2 hbp0
  refine takeH 0 34 (v := ?vp0_1) rfl (by rfl) (by kernel_rfl) (by kernel_rfl) (by kernel_rfl) (fun _ _ _ h => h) (Or.inl ⟨by rfl, ?_⟩) ((And.intro x_s_p0 (And.intro x_c_p0 x_a_p0))) ?_
  rotate_left
  · intro wq hSq
    go_simp
    exact rfl
  try simp only [Act.put, List.setIfInBounds_toArray, List.set_cons_zero, List.set_cons_succ]
  refine takeH 1 35 (v := ?vp1_2) rfl (by rfl) (by kernel_rfl) (by kernel_rfl) (by kernel_rfl) (fun _ _ _ h => h) (Or.inl ⟨by rfl, ?_⟩) ((And.intro x_s_p0 (And.intro x_c_p0 x_a_p0))) ?_
  rotate_left
  · intro wq hSq
    go_simp
    exact rfl
  try simp only [Act.put, List.setIfInBounds_toArray, List.set_cons_zero, List.set_cons_succ]
  refine takeH 2 36 (v := ?vp2_3) rfl (by rfl) (by kernel_rfl) (by kernel_rfl) (by kernel_rfl) (fun _ _ _ h => h) (Or.inl ⟨by rfl, ?_⟩) ((And.intro x_s_p0 (And.intro x_c_p0 x_a_p0))) ?_
  rotate_left
  · intro wq hSq
    go_simp
    exact rfl
  try simp only [Act.put, List.setIfInBounds_toArray, List.set_cons_zero, List.set_cons_succ]
  refine takeH 3 37 (v := .agg (C).toArray) rfl (by rfl) (by kernel_rfl) (by kernel_rfl) (by kernel_rfl) (fun _ _ _ h => h) (yieldsIf_load_mid (by rfl) _ _ rfl _ _ rfl (C) _ (fun wq hq => Box.range (hq.1)) Tryd.underlying23 rfl SK.out) ((And.intro x_s_p0 (And.intro x_c_p0 x_a_p0))) ?_
  try simp only [Act.put, List.setIfInBounds_toArray, List.set_cons_zero, List.set_cons_succ]
  refine takeH 5 39 (v := .agg (Q).toArray) rfl (by rfl) (by kernel_rfl) (by kernel_rfl) (by kernel_rfl) (fun _ _ _ h => h) (yieldsIf_load_mid (by rfl) _ _ rfl _ _ rfl (Q) _ (fun wq hq => Box.range (hq.2.2)) Tryd.underlying23 rfl SQ.out) ((And.intro x_s_p0 (And.intro x_c_p0 x_a_p0))) ?_
  try simp only [Act.put, List.setIfInBounds_toArray, List.set_cons_zero, List.set_cons_succ]
  refine wpAnyH_ready (rs := [4]) (by kernel_rfl) (by simp) (AllReadyH.cons rfl (fun K hK => ?_) AllReadyH.nil)
  go_simp
  refine (A1 _ (Lib.hid (hL.out.below Bp0))).mono ?_
  rintro e Wp4 ⟨rfl, hbp4⟩
  have x_s_p4 : Box Wp4 (w.heap.size) (C) := Box.below x_s_p0 hbp4
  have x_c_p4 : Box Wp4 (w.heap.size + 1) (CC) := Box.below x_c_p0 hbp4
  have x_a_p4 : Box Wp4 (w1.heap.size) (Q) := Box.below x_a_p0 hbp4
  have Bp4 := below_thru Bp0 hbp4
  clear x_s_p0 x_c_p0 x_a_p0 Bp0 hbp4
  refine hK.out _ _ (And.intro x_s_p4 (And.intro x_c_p4 x_a_p4)) (fun _ => ?_); clear hK K
  refine takeH 6 40 (v := ?vp6_5) rfl (by rfl) (by kernel_rfl) (by kernel_rfl) (by kernel_rfl) (fun _ _ _ h => h) (Or.inl ⟨by rfl, ?_⟩) ((And.intro x_s_p4 (And.intro x_c_p4 x_a_p4))) ?_
  rotate_left
  · intro wq hSq
    go_simp
    exact rfl
  try simp only [Act.put, List.setIfInBounds_toArray, List.set_cons_zero, List.set_cons_succ]
  refine takeH 7 41 (v := ?vp7_6) rfl (by rfl) (by kernel_rfl) (by kernel_rfl) (by kernel_rfl) (fun _ _ _ h => h) (Or.inl ⟨by rfl, ?_⟩) ((And.intro x_s_p4 (And.intro x_c_p4 x_a_p4))) ?_
  rotate_left
  · intro wq hSq
    go_simp
    exact rfl
  try simp only [Act.put, List.setIfInBounds_toArray, List.set_cons_zero, List.set_cons_succ]
  refine wpAnyH_done (by kernel_rfl) ?_ _
  have hB3 := Bp4; have hs3 := hB3.size
  have x_s3 := x_s_p4
  have x_c3 := x_c_p4
  have x_a3 := x_a_p4
  clear Bp4 x_s_p4 x_c_p4 x_a_p4
  go_wp2_with (first
    | (refine wpList_load_box9 rfl _ _ rfl x_s3 rfl Tryd.underlying23 rfl SK.out ?_)
    | (refine wpList_load_box9 rfl _ _ rfl x_c3 rfl Tryd.underlying37 rfl SC.out ?_))
  refine (SG _ (Lib.hid (hL.out.below hB3))).mono ?_
  rintro e w4 ⟨rfl, hb⟩
  have hB4 : Below w.heap.size w w4 := below_thru hB3 hb
  have hs4 := hB4.size
  have x_s4 : Box w4 (w.heap.size) (C) := Box.below x_s3 hb
  have x_c4 : Box w4 (w.heap.size + 1) (CC) := Box.below x_c3 hb
  have x_a4 : Box w4 (w1.heap.size) (Q) := Box.below x_a3 hb
  clear hB3 hs3 x_s3 x_c3 x_a3
  clear hb
  have d_x_s := (x_s4).lt
  have d_x_c := (x_c4).lt
  have d_x_a := (x_a4).lt
  have d_x_0 := hs4
  go_upto_region 5 with (refine wpList_store_box (cs := U) rfl _ _ _ rfl (Box.newc (l := ccell Cmd.zero) rfl rfl) rfl rfl SU.out LU.out OU.out ?_; intro W4_0 hW4_0)
  have hN : Below w4.heap.size w4 W4_0 := (hW4_0.below _ _ (by omega) ((Below.refl _ w4).alloc (Nat.le_refl _) _))
  have x_x5 : Box W4_0 (w4.heap.size) (U) := hW4_0.box
  have hB5 : Below w.heap.size w W4_0 := below_thru hB4 hN
  have hs5 := hB5.size
  have x_s5 : Box W4_0 (w.heap.size) (C) := Box.below x_s4 hN
  have x_c5 : Box W4_0 (w.heap.size + 1) (CC) := Box.below x_c4 hN
  have x_a5 : Box W4_0 (w1.heap.size) (Q) := Box.below x_a4 hN
  clear hB4 hs4 x_s4 x_c4 x_a4
  clear hN hW4_0
  go_wp2_with (refine wpList_load_box9 rfl _ _ rfl x_c5 rfl Tryd.underlying37 rfl SC.out ?_)
  refine (BE _).mono ?_
  rintro e w6 ⟨vm, rfl, hm, hb⟩
  have hB6 : Below w.heap.size w w6 := below_thru hB5 hb
  have hs6 := hB6.size
  have x_s6 : Box w6 (w.heap.size) (C) := Box.below x_s5 hb
  have x_c6 : Box w6 (w.heap.size + 1) (CC) := Box.below x_c5 hb
  have x_a6 : Box w6 (w1.heap.size) (Q) := Box.below x_a5 hb
  have x_x6 : Box w6 (w4.heap.size) (U) := Box.below x_x5 hb
  clear hB5 hs5 x_s5 x_c5 x_a5 x_x5
  clear hb
  have J_m6 : Hid (IsL w6 .u8 (vm) M) := Lib.hid hm
  clear hm
  go_wp2_with fail
  refine (A3 _ _ _ (IQ.out _ _ x_a6) J_m6.out (Lib.hid (hL.out.below hB6))).mono ?_
  rintro e w7 ⟨rfl, hb⟩
  have hB7 : Below w.heap.size w w7 := below_thru hB6 hb
  have hs7 := hB7.size
  have x_s7 : Box w7 (w.heap.size) (C) := Box.below x_s6 hb
  have x_c7 : Box w7 (w.heap.size + 1) (CC) := Box.below x_c6 hb
  have x_a7 : Box w7 (w1.heap.size) (Q) := Box.below x_a6 hb
  have x_x7 : Box w7 (w4.heap.size) (U) := Box.below x_x6 hb
  have J_m7 : Hid (IsL w7 .u8 (vm) M) := Lib.hid (IsL.below J_m6.out hb)
  clear hB6 hs6 x_s6 x_c6 x_a6 x_x6 J_m6
  clear hb
  clear J_m7
  have d_g_s := (x_s7).lt
  have d_g_c := (x_c7).lt
  have d_g_a := (x_a7).lt
  have d_g_x := (x_x7).lt
  have d_g_0 := hs7
  go_upto_region 10 with (refine wpList_store_box (cs := G) rfl _ _ _ rfl (Box.newc (l := zero32) rfl rfl) rfl rfl SGD.out LG.out OG.out ?_; intro W7_0 hW7_0)
  have hN : Below w7.heap.size w7 W7_0 := (hW7_0.below _ _ (by omega) ((Below.refl _ w7).alloc (Nat.le_refl _) _))
  have x_g8 : Box W7_0 (w7.heap.size) (G) := hW7_0.box
  have hB8 : Below w.heap.size w W7_0 := below_thru hB7 hN
  have hs8 := hB8.size
  have x_s8 : Box W7_0 (w.heap.size) (C) := Box.below x_s7 hN
  have x_c8 : Box W7_0 (w.heap.size + 1) (CC) := Box.below x_c7 hN
  have x_a8 : Box W7_0 (w1.heap.size) (Q) := Box.below x_a7 hN
  have x_x8 : Box W7_0 (w4.heap.size) (U) := Box.below x_x7 hN
  clear hB7 hs7 x_s7 x_c7 x_a7 x_x7
  clear hN hW7_0
  have lr_s := (x_s8).lt
  have lr_c := (x_c8).lt
  have lr_a := (x_a8).lt
  have lr_x := (x_x8).lt
  have lr_g := (x_g8).lt
  go_upto_region 11 with (first | (refine wpList_load_box9 rfl _ _ rfl x_g8 rfl Tryd.underlying23 rfl SGD.out ?_) | (refine wpList_store_part (cs := G) (ws := U) rfl _ _ _ rfl x_c8 rfl rfl SGD.out P1.out P2.out OG.out ?_; intro W8 hW8))
  have x_s9 : Box W8 (w.heap.size) (C) := hW8.past _ _ (by omega) x_s8
  have x_a9 : Box W8 (w1.heap.size) (Q) := hW8.past _ _ (by omega) x_a8
  have x_x9 : Box W8 (w4.heap.size) (U) := hW8.past _ _ (by omega) x_x8
  have x_g9 : Box W8 (w7.heap.size) (G) := hW8.past _ _ (by omega) x_g8
  have x_c9 : Box W8 (w.heap.size + 1) (U) := hW8.box
  have hB9 : Below w.heap.size w W8 := hW8.below _ _ (by omega) hB8
  have hs9 := hB9.size
  clear hW8 hB8 hs8 x_s8 x_c8 x_a8 x_x8 x_g8 lr_s lr_c lr_a lr_x lr_g 
  clear x_g9
  go_wp2_with (first
    | (refine wpList_load_box9 rfl _ _ rfl x_x9 rfl Tryd.underlying37 rfl SU.out ?_)
    | (refine wpList_load_box9 rfl _ _ rfl x_c9 rfl Tryd.underlying37 rfl SU.out ?_)
    | (refine wpList_load_box9 rfl _ _ rfl x_s9 rfl Tryd.underlying23 rfl SK.out ?_))
  refine (TN _ (Lib.hid (hL.out.below hB9))).mono ?_
  rintro e w10 ⟨rfl, hb⟩
  have hB10 : Below w.heap.size w w10 := below_thru hB9 hb
  have hs10 := hB10.size
  have x_s10 : Box w10 (w.heap.size) (C) := Box.below x_s9 hb
  have x_c10 : Box w10 (w.heap.size + 1) (U) := Box.below x_c9 hb
  have x_a10 : Box w10 (w1.heap.size) (Q) := Box.below x_a9 hb
  have x_x10 : Box w10 (w4.heap.size) (U) := Box.below x_x9 hb
  clear hB9 hs9 x_s9 x_c9 x_a9 x_x9
  clear hb
  clear x_c10
  clear x_x10
  clear x_a10
  have d_k_s := (x_s10).lt
  have d_k_0 := hs10
  go_upto_region 14 with (refine wpList_store_box (cs := DK) rfl _ _ _ rfl (Box.newc (l := zero32) rfl rfl) rfl rfl SD.out LD.out OD.out ?_; intro W10_0 hW10_0)
  have hN : Below w10.heap.size w10 W10_0 := (hW10_0.below _ _ (by omega) ((Below.refl _ w10).alloc (Nat.le_refl _) _))
  have x_k11 : Box W10_0 (w10.heap.size) (DK) := hW10_0.box
  have hB11 : Below w.heap.size w W10_0 := below_thru hB10 hN
  have hs11 := hB11.size
  have x_s11 : Box W10_0 (w.heap.size) (C) := Box.below x_s10 hN
  clear hB10 hs10 x_s10
  clear hN hW10_0
  go_wp2_with (refine wpList_load_box9 rfl _ _ rfl x_s11 rfl Tryd.underlying23 rfl SK.out ?_)
  refine (TK _ (Lib.hid (hL.out.below hB11))).mono ?_
  rintro e w12 ⟨rfl, hb⟩
  have hB12 : Below w.heap.size w w12 := below_thru hB11 hb
  have hs12 := hB12.size
  have x_s12 : Box w12 (w.heap.size) (C) := Box.below x_s11 hb
  have x_k12 : Box w12 (w10.heap.size) (DK) := Box.below x_k11 hb
  clear hB11 hs11 x_s11 x_k11
  clear hb
  have d_t_s := (x_s12).lt
  have d_t_k := (x_k12).lt
  have d_t_0 := hs12
  go_upto_region 15 with (refine wpList_store_box (cs := V) rfl _ _ _ rfl (Box.newc (l := zeroTk) rfl rfl) rfl rfl SV.out LV.out OV.out ?_; intro W12_0 hW12_0)
  have hN : Below w12.heap.size w12 W12_0 := (hW12_0.below _ _ (by omega) ((Below.refl _ w12).alloc (Nat.le_refl _) _))
  have x_t13 : Box W12_0 (w12.heap.size) (V) := hW12_0.box
  have hB13 : Below w.heap.size w W12_0 := below_thru hB12 hN
  have hs13 := hB13.size
  have x_s13 : Box W12_0 (w.heap.size) (C) := Box.below x_s12 hN
  have x_k13 : Box W12_0 (w10.heap.size) (DK) := Box.below x_k12 hN
  clear hB12 hs12 x_s12 x_k12
  clear hN hW12_0
  go_wp2_with fail
  refine (I _).mono ?_
  rintro e w14 ⟨rfl, hb⟩
  have hB14 : Below w.heap.size w w14 := below_thru hB13 hb
  have hs14 := hB14.size
  have x_s14 : Box w14 (w.heap.size) (C) := Box.below x_s13 hb
  have x_k14 : Box w14 (w10.heap.size) (DK) := Box.below x_k13 hb
  have x_t14 : Box w14 (w12.heap.size) (V) := Box.below x_t13 hb
  clear hB13 hs13 x_s13 x_k13 x_t13
  clear hb
  go_wp2_with fail
  refine (AL _ (Lib.hid (hL.out.below hB14))).mono ?_
  rintro e w15 ⟨rfl, hb⟩
  have hB15 : Below w.heap.size w w15 := below_thru hB14 hb
  have hs15 := hB15.size
  have x_s15 : Box w15 (w.heap.size) (C) := Box.below x_s14 hb
  have x_k15 : Box w15 (w10.heap.size) (DK) := Box.below x_k14 hb
  have x_t15 : Box w15 (w12.heap.size) (V) := Box.below x_t14 hb
  clear hB14 hs14 x_s14 x_k14 x_t14
  clear hb
  go_wp2_with fail
  go_returns
  exact ⟨rfl, hB15⟩

set_option maxRecDepth 100000 in
set_option maxHeartbeats 6400000 in
theorem made11_ft (k : Nums) (c : Cmd) {S : List Int} (hS : S.length = 32) (hSb : Byts S) (ho : ¬ c.Ok) (hk : HasKey k.t k.e) (w : World) (hL : Hid (LaidS w)) : Calls Tryd.prog 6 #[(.agg (S.map (Value.int .u8)).toArray), .int .u32 k.t, .int .u32 k.u, .int .u32 k.e, .int .u64 k.x, .agg (ccell c).toArray] w fun e w' => e = .returned (.bool true) ∧ Below w.heap.size w w' := by
  obtain ⟨Q, hQ⟩ : ∃ X, (ordL S).map (Value.int .u8) = X := ⟨_, rfl⟩
  have A0 : ∀ (W : World) (a b : Value), IsL W .u8 a S → IsL W .u8 b [97] → Hid (LaidS W) → Calls Tryd.prog 22 #[a, b] W fun e w' => e = .returned (.tuple #[.agg Q.toArray, .int .i64 0]) ∧ Below W.heap.size W w' := by rw [← hQ]; exact fun W a b h1 h2 h => tag_ok (D := ordL S) W (Lib.hid h1) (Lib.hid h2) (by rw [hS]; omega) (by decide) (Lib.hid (hSb).l) (Lib.hid (byts97).l) (Lib.hid rfl) h
  have A1 := fun (W : World) (h : Hid (LaidS W)) => ord_is hS hSb W h
  have E1 := fun (W : World) => eq_same (P := Tryd.prog) Tryd.underlying23 Tryd.underlying5 size_u8' (ordL S) (ordL_len S) W
  have SK := Lib.hid (size_dig hS); have LK := Lib.hid (len_dig hS); have OK := Lib.hid (oneCell_ints (k := .u8) S)
  have IK := Lib.hid (fun (W : World) (b : Nat) (h : Box W b (S.map (Value.int .u8))) => IsL.boxed 32 hS h (by omega))
  have SG := fun (W : World) (h : Hid (LaidS W)) => sign_is c hS hSb (Or.inr ⟨rfl, ho, rfl⟩) W h; have BE := fun W => bef_is c (xs := []) (q := 8) (Or.inr ⟨rfl, ho, rfl⟩) W
  have SQ := Lib.hid (size_dig (ordL_len S)); have LQ := Lib.hid (len_dig (ordL_len S)); have OQ := Lib.hid (oneCell_ints (k := .u8) (ordL S))
  have SC := Lib.hid (size_cmd c); have LC := Lib.hid (len_cmd Cmd.zero c); have OC := Lib.hid (one_cmd c)
  have SU := Lib.hid (size_cmd Cmd.zero); have LU := Lib.hid (len_cmd Cmd.zero Cmd.zero); have OU := Lib.hid (one_cmd Cmd.zero)
  have TN := fun (W : World) (h : Hid (LaidS W)) => ten_is hS hSb k.ht k.he (Or.inl ⟨rfl, hk, rfl⟩) W h; have TK := fun (W : World) (h : Hid (LaidS W)) => token_is k hS hSb (Or.inl ⟨rfl, hk, rfl, rfl⟩) W h
  have I := fun W => ris_is (b := true) (⟨fun _ => hk, fun _ => rfl⟩) W
  have SD := Lib.hid (size_dig (tkeyL_len S k.t k.e)); have LD := Lib.hid (len_dig (tkeyL_len S k.t k.e)); have OD := Lib.hid (oneCell_ints (k := .u8) (tkeyL S k.t k.e))
  have SV := Lib.hid (size_tok k (minted_len S k)); have LV : Hid (zeroTk.length = (tcell k (minted S k)).length) := Lib.hid (len_tok Nums.zero k zd32 (minted_len S k)); have OV := Lib.hid (tcell_one k (minted S k))
  have AL := fun (W : World) (h : Hid (LaidS W)) => alive11_is W h
  have q1 := hk.1; have q2 := k.ht.1; have w0 : IntKind.u8.wrap k.t = k.t := by rw [IntKind.wrap_u8]; omega
  obtain ⟨y1, j1⟩ : ∃ y, IntKind.u8.wrap (k.e / 16777216) = y := ⟨_, rfl⟩
  obtain ⟨y2, j2⟩ : ∃ y, IntKind.u8.wrap (k.e / 65536) = y := ⟨_, rfl⟩
  obtain ⟨y3, j3⟩ : ∃ y, IntKind.u8.wrap (k.e / 256) = y := ⟨_, rfl⟩
  obtain ⟨y4, j4⟩ : ∃ y, IntKind.u8.wrap (k.e) = y := ⟨_, rfl⟩
  have LT := Lib.hid (keyMsg_lit q2 q1 j1 j2 j3 j4)
  obtain ⟨DK, hDK⟩ : ∃ X, (tkeyL S k.t k.e).map (Value.int .u8) = X := ⟨_, rfl⟩
  have A4 : ∀ (W : World) (a b : Value), IsL W .u8 a S → IsL W .u8 b (keyMsg k.t k.e) → Hid (LaidS W) → Calls Tryd.prog 22 #[a, b] W fun e w' => e = .returned (.tuple #[.agg DK.toArray, .int .i64 0]) ∧ Below W.heap.size W w' := by rw [← hDK]; exact fun W a b h1 h2 h => tag_ok (D := tkeyL S k.t k.e) W (Lib.hid h1) (Lib.hid h2) (by rw [hS]; omega) (by rw [keyMsg_len]; decide) (Lib.hid (hSb).l) (Lib.hid (keyMsg_byts k.t k.e).l) (Lib.hid rfl) h
  rw [LT.out] at A4
  clear LT q1 q2
  have B := fun (W : World) (h1 : Hid (LaidS W)) => mint_is (D := minted S k) k (tkeyL_len S k.t k.e) (tkeyL_byts S k.t k.e) (Lib.hid rfl) W h1
  have E4 := fun (W : World) => eq_same (P := Tryd.prog) Tryd.underlying23 Tryd.underlying5 size_u8' (tkeyL S k.t k.e) (tkeyL_len S k.t k.e) W
  have E5 := fun (W : World) => eq_tok_self k (minted_len S k) W
  rw [hDK] at SD LD OD TN B E4
  obtain ⟨V, hV⟩ : ∃ X, tcell k (minted S k) = X := ⟨_, rfl⟩
  rw [hV] at TK B E5 SV LV OV
  clear hV
  rw [hQ] at A1 E1 SQ LQ OQ
  obtain ⟨U, hU⟩ : ∃ X, ccell Cmd.zero = X := ⟨_, rfl⟩
  replace LU : Hid ((ccell Cmd.zero).length = U.length) := Lib.hid (by rw [← hU])
  rw [hU] at SG SU OU
  clear hU
  obtain ⟨CC, hCC⟩ : ∃ X, ccell c = X := ⟨_, rfl⟩
  rw [hCC] at SG BE SC LC OC ⊢
  clear hCC
  obtain ⟨C, hC⟩ : ∃ X, S.map (Value.int .u8) = X := ⟨_, rfl⟩
  rw [hC] at SK A1 SG TN TK IK ⊢
  clear hC
  clear hS hSb ho hk hQ LC OC LK OK hDK
  go_enter Tryd.func6, Tryd.ntmps6
  go_upto_region 1 with fail
  refine F_gen (F := fun W => Code.wp _ _ _ _ W) (J := fun W => Box W (w.heap.size) (C) ∧ Box W (w.heap.size + 1) (CC) ∧ Below w.heap.size w W) (And.intro (Box.alloc (Box.newc rfl rfl) _) (And.intro (Box.newc rfl (by simp)) (by go_grown))) ?_
  intro w0 ⟨e_s, e_c, hB0⟩
  have hs0 := hB0.size
  have x_s0 := e_s; clear e_s
  have x_c0 := e_c; clear e_c
  have LB : IsL (w0.alloc (.cells #[.int .u8 97] 5)) .u8 (.slice (some ⟨w0.heap.size, 0, none⟩) 1 1) [97] := IsL.built [97] rfl rfl rfl rfl (by simp)
  go_wp2_with fail
  refine (A0 _ _ _ (IK.out _ _ (x_s0.alloc _)) LB (Lib.hid (hL.out.below (hB0.alloc hs0 _)))).mono ?_
  rintro e w1 ⟨rfl, hb⟩
  have hN : Below w0.heap.size w0 w1 := below_thru ((Below.refl _ _).alloc (Nat.le_refl _) _) hb
  clear hb LB
  have hB1 : Below w.heap.size w w1 := below_thru hB0 hN
  have hs1 := hB1.size
  have x_s1 : Box w1 (w.heap.size) (C) := Box.below x_s0 hN
  have x_c1 : Box w1 (w.heap.size + 1) (CC) := Box.below x_c0 hN
  clear hB0 hs0 x_s0 x_c0
  clear hN
  have d_a_s := (x_s1).lt
  have d_a_c := (x_c1).lt
  have d_a_0 := hs1
  go_upto_region 2 with (refine wpList_store_box (cs := Q) rfl _ _ _ rfl (Box.newc (l := zero32) rfl rfl) rfl rfl SQ.out LQ.out OQ.out ?_; intro W1_0 hW1_0)
  have hN : Below w1.heap.size w1 W1_0 := (hW1_0.below _ _ (by omega) ((Below.refl _ w1).alloc (Nat.le_refl _) _))
  have x_a2 : Box W1_0 (w1.heap.size) (Q) := hW1_0.box
  have hB2 : Below w.heap.size w W1_0 := below_thru hB1 hN
  have hs2 := hB2.size
  have x_s2 : Box W1_0 (w.heap.size) (C) := Box.below x_s1 hN
  have x_c2 : Box W1_0 (w.heap.size + 1) (CC) := Box.below x_c1 hN
  clear hB1 hs1 x_s1 x_c1
  clear hN hW1_0
  refine wp_region_held_drew (S := fun W => Box W (w.heap.size) (C) ∧ Box W (w.heap.size + 1) (CC) ∧ Box W (w1.heap.size) (Q)) (by kernel_rfl) (And.intro (x_s2).drew (And.intro (x_c2).drew (x_a2).drew)) (fun _ => ?_)
  refine F_drew (F := fun W => wpAnyH _ _ _ _ _ _ _ _ W) ?_
  intro Wp0 hbp0
  clear hs2
  have x_s_p0 : Box Wp0 (w.heap.size) (C) := Box.below x_s2 hbp0
  have x_c_p0 : Box Wp0 (w.heap.size + 1) (CC) := Box.below x_c2 hbp0
  have x_a_p0 : Box Wp0 (w1.heap.size) (Q) := Box.below x_a2 hbp0
  have Bp0 := below_thru hB2 hbp0
  clear x_s2 x_c2 x_a2 hB2 hbp0
  refine takeH 0 34 (v := ?vp0_1) rfl (by rfl) (by kernel_rfl) (by kernel_rfl) (by kernel_rfl) (fun _ _ _ h => h) (Or.inl ⟨by rfl, ?_⟩) ((And.intro x_s_p0 (And.intro x_c_p0 x_a_p0))) ?_
  rotate_left
  · intro wq hSq
    go_simp
    exact rfl
  try simp only [Act.put, List.setIfInBounds_toArray, List.set_cons_zero, List.set_cons_succ]
  refine takeH 1 35 (v := ?vp1_2) rfl (by rfl) (by kernel_rfl) (by kernel_rfl) (by kernel_rfl) (fun _ _ _ h => h) (Or.inl ⟨by rfl, ?_⟩) ((And.intro x_s_p0 (And.intro x_c_p0 x_a_p0))) ?_
  rotate_left
  · intro wq hSq
    go_simp
    exact rfl
  try simp only [Act.put, List.setIfInBounds_toArray, List.set_cons_zero, List.set_cons_succ]
  refine takeH 2 36 (v := ?vp2_3) rfl (by rfl) (by kernel_rfl) (by kernel_rfl) (by kernel_rfl) (fun _ _ _ h => h) (Or.inl ⟨by rfl, ?_⟩) ((And.intro x_s_p0 (And.intro x_c_p0 x_a_p0))) ?_
  rotate_left
  · intro wq hSq
    go_simp
    exact rfl
  try simp only [Act.put, List.setIfInBounds_toArray, List.set_cons_zero, List.set_cons_succ]
  refine takeH 3 37 (v := .agg (C).toArray) rfl (by rfl) (by kernel_rfl) (by kernel_rfl) (by kernel_rfl) (fun _ _ _ h => h) (yieldsIf_load_mid (by rfl) _ _ rfl _ _ rfl (C) _ (fun wq hq => Box.range (hq.1)) Tryd.underlying23 rfl SK.out) ((And.intro x_s_p0 (And.intro x_c_p0 x_a_p0))) ?_
  try simp only [Act.put, List.setIfInBounds_toArray, List.set_cons_zero, List.set_cons_succ]
  refine takeH 5 39 (v := .agg (Q).toArray) rfl (by rfl) (by kernel_rfl) (by kernel_rfl) (by kernel_rfl) (fun _ _ _ h => h) (yieldsIf_load_mid (by rfl) _ _ rfl _ _ rfl (Q) _ (fun wq hq => Box.range (hq.2.2)) Tryd.underlying23 rfl SQ.out) ((And.intro x_s_p0 (And.intro x_c_p0 x_a_p0))) ?_
  try simp only [Act.put, List.setIfInBounds_toArray, List.set_cons_zero, List.set_cons_succ]
  refine wpAnyH_ready (rs := [4]) (by kernel_rfl) (by simp) (AllReadyH.cons rfl (fun K hK => ?_) AllReadyH.nil)
  go_simp
  refine (A1 _ (Lib.hid (hL.out.below Bp0))).mono ?_
  rintro e Wp4 ⟨rfl, hbp4⟩
  have x_s_p4 : Box Wp4 (w.heap.size) (C) := Box.below x_s_p0 hbp4
  have x_c_p4 : Box Wp4 (w.heap.size + 1) (CC) := Box.below x_c_p0 hbp4
  have x_a_p4 : Box Wp4 (w1.heap.size) (Q) := Box.below x_a_p0 hbp4
  have Bp4 := below_thru Bp0 hbp4
  clear x_s_p0 x_c_p0 x_a_p0 Bp0 hbp4
  refine hK.out _ _ (And.intro x_s_p4 (And.intro x_c_p4 x_a_p4)) (fun _ => ?_); clear hK K
  refine takeH 6 40 (v := ?vp6_5) rfl (by rfl) (by kernel_rfl) (by kernel_rfl) (by kernel_rfl) (fun _ _ _ h => h) (Or.inl ⟨by rfl, ?_⟩) ((And.intro x_s_p4 (And.intro x_c_p4 x_a_p4))) ?_
  rotate_left
  · intro wq hSq
    go_simp
    exact rfl
  try simp only [Act.put, List.setIfInBounds_toArray, List.set_cons_zero, List.set_cons_succ]
  refine takeH 7 41 (v := ?vp7_6) rfl (by rfl) (by kernel_rfl) (by kernel_rfl) (by kernel_rfl) (fun _ _ _ h => h) (Or.inl ⟨by rfl, ?_⟩) ((And.intro x_s_p4 (And.intro x_c_p4 x_a_p4))) ?_
  rotate_left
  · intro wq hSq
    go_simp
    exact rfl
  try simp only [Act.put, List.setIfInBounds_toArray, List.set_cons_zero, List.set_cons_succ]
  refine wpAnyH_done (by kernel_rfl) ?_ _
  have hB3 := Bp4; have hs3 := hB3.size
  have x_s3 := x_s_p4
  have x_c3 := x_c_p4
  have x_a3 := x_a_p4
  clear Bp4 x_s_p4 x_c_p4 x_a_p4
  go_wp2_with (first
    | (refine wpList_load_box9 rfl _ _ rfl x_s3 rfl Tryd.underlying23 rfl SK.out ?_)
    | (refine wpList_load_box9 rfl _ _ rfl x_c3 rfl Tryd.underlying37 rfl SC.out ?_))
  refine (SG _ (Lib.hid (hL.out.below hB3))).mono ?_
  rintro e w4 ⟨rfl, hb⟩
  have hB4 : Below w.heap.size w w4 := below_thru hB3 hb
  have hs4 := hB4.size
  have x_s4 : Box w4 (w.heap.size) (C) := Box.below x_s3 hb
  have x_c4 : Box w4 (w.heap.size + 1) (CC) := Box.below x_c3 hb
  have x_a4 : Box w4 (w1.heap.size) (Q) := Box.below x_a3 hb
  clear hB3 hs3 x_s3 x_c3 x_a3
  clear hb
  have d_x_s := (x_s4).lt
  have d_x_c := (x_c4).lt
  have d_x_a := (x_a4).lt
  have d_x_0 := hs4
  go_upto_region 5 with (refine wpList_store_box (cs := U) rfl _ _ _ rfl (Box.newc (l := ccell Cmd.zero) rfl rfl) rfl rfl SU.out LU.out OU.out ?_; intro W4_0 hW4_0)
  have hN : Below w4.heap.size w4 W4_0 := (hW4_0.below _ _ (by omega) ((Below.refl _ w4).alloc (Nat.le_refl _) _))
  have x_x5 : Box W4_0 (w4.heap.size) (U) := hW4_0.box
  have hB5 : Below w.heap.size w W4_0 := below_thru hB4 hN
  have hs5 := hB5.size
  have x_s5 : Box W4_0 (w.heap.size) (C) := Box.below x_s4 hN
  have x_c5 : Box W4_0 (w.heap.size + 1) (CC) := Box.below x_c4 hN
  have x_a5 : Box W4_0 (w1.heap.size) (Q) := Box.below x_a4 hN
  clear hB4 hs4 x_s4 x_c4 x_a4
  clear hN hW4_0
  go_wp2_with (refine wpList_load_box9 rfl _ _ rfl x_c5 rfl Tryd.underlying37 rfl SC.out ?_)
  refine (BE _).mono ?_
  rintro e w6 ⟨vm, rfl, hm, hb⟩
  have hB6 : Below w.heap.size w w6 := below_thru hB5 hb
  have hs6 := hB6.size
  have x_s6 : Box w6 (w.heap.size) (C) := Box.below x_s5 hb
  have x_c6 : Box w6 (w.heap.size + 1) (CC) := Box.below x_c5 hb
  have x_a6 : Box w6 (w1.heap.size) (Q) := Box.below x_a5 hb
  have x_x6 : Box w6 (w4.heap.size) (U) := Box.below x_x5 hb
  clear hB5 hs5 x_s5 x_c5 x_a5 x_x5
  clear hb
  clear hm
  go_wp2_with (refine wpList_load_box9 rfl _ _ rfl x_s6 rfl Tryd.underlying23 rfl SK.out ?_)
  refine (TN _ (Lib.hid (hL.out.below hB6))).mono ?_
  rintro e w7 ⟨rfl, hb⟩
  have hB7 : Below w.heap.size w w7 := below_thru hB6 hb
  have hs7 := hB7.size
  have x_s7 : Box w7 (w.heap.size) (C) := Box.below x_s6 hb
  have x_c7 : Box w7 (w.heap.size + 1) (CC) := Box.below x_c6 hb
  have x_a7 : Box w7 (w1.heap.size) (Q) := Box.below x_a6 hb
  have x_x7 : Box w7 (w4.heap.size) (U) := Box.below x_x6 hb
  clear hB6 hs6 x_s6 x_c6 x_a6 x_x6
  clear hb
  clear x_x7
  clear x_a7
  have d_k_s := (x_s7).lt
  have d_k_c := (x_c7).lt
  have d_k_0 := hs7
  go_upto_region 14 with (refine wpList_store_box (cs := DK) rfl _ _ _ rfl (Box.newc (l := zero32) rfl rfl) rfl rfl SD.out LD.out OD.out ?_; intro W7_0 hW7_0)
  have hN : Below w7.heap.size w7 W7_0 := (hW7_0.below _ _ (by omega) ((Below.refl _ w7).alloc (Nat.le_refl _) _))
  have x_k8 : Box W7_0 (w7.heap.size) (DK) := hW7_0.box
  have hB8 : Below w.heap.size w W7_0 := below_thru hB7 hN
  have hs8 := hB8.size
  have x_s8 : Box W7_0 (w.heap.size) (C) := Box.below x_s7 hN
  have x_c8 : Box W7_0 (w.heap.size + 1) (CC) := Box.below x_c7 hN
  clear hB7 hs7 x_s7 x_c7
  clear hN hW7_0
  go_wp2_with (refine wpList_load_box9 rfl _ _ rfl x_s8 rfl Tryd.underlying23 rfl SK.out ?_)
  refine (TK _ (Lib.hid (hL.out.below hB8))).mono ?_
  rintro e w9 ⟨rfl, hb⟩
  have hB9 : Below w.heap.size w w9 := below_thru hB8 hb
  have hs9 := hB9.size
  have x_s9 : Box w9 (w.heap.size) (C) := Box.below x_s8 hb
  have x_c9 : Box w9 (w.heap.size + 1) (CC) := Box.below x_c8 hb
  have x_k9 : Box w9 (w7.heap.size) (DK) := Box.below x_k8 hb
  clear hB8 hs8 x_s8 x_c8 x_k8
  clear hb
  have d_t_s := (x_s9).lt
  have d_t_c := (x_c9).lt
  have d_t_k := (x_k9).lt
  have d_t_0 := hs9
  go_upto_region 15 with (refine wpList_store_box (cs := V) rfl _ _ _ rfl (Box.newc (l := zeroTk) rfl rfl) rfl rfl SV.out LV.out OV.out ?_; intro W9_0 hW9_0)
  have hN : Below w9.heap.size w9 W9_0 := (hW9_0.below _ _ (by omega) ((Below.refl _ w9).alloc (Nat.le_refl _) _))
  have x_t10 : Box W9_0 (w9.heap.size) (V) := hW9_0.box
  have hB10 : Below w.heap.size w W9_0 := below_thru hB9 hN
  have hs10 := hB10.size
  have x_s10 : Box W9_0 (w.heap.size) (C) := Box.below x_s9 hN
  have x_c10 : Box W9_0 (w.heap.size + 1) (CC) := Box.below x_c9 hN
  have x_k10 : Box W9_0 (w7.heap.size) (DK) := Box.below x_k9 hN
  clear hB9 hs9 x_s9 x_c9 x_k9
  clear hN hW9_0
  go_wp2_with fail
  refine (I _).mono ?_
  rintro e w11 ⟨rfl, hb⟩
  have hB11 : Below w.heap.size w w11 := below_thru hB10 hb
  have hs11 := hB11.size
  have x_s11 : Box w11 (w.heap.size) (C) := Box.below x_s10 hb
  have x_c11 : Box w11 (w.heap.size + 1) (CC) := Box.below x_c10 hb
  have x_k11 : Box w11 (w7.heap.size) (DK) := Box.below x_k10 hb
  have x_t11 : Box w11 (w9.heap.size) (V) := Box.below x_t10 hb
  clear hB10 hs10 x_s10 x_c10 x_k10 x_t10
  clear hb
  have LB : IsL (w11.alloc (.cells #[.int .u8 107, .int .u8 0, .int .u8 0, .int .u8 0, .int .u8 k.t, .int .u8 y1, .int .u8 y2, .int .u8 y3, .int .u8 y4] 5)) .u8 (.slice (some ⟨w11.heap.size, 0, none⟩) 9 9) [107, 0, 0, 0, k.t, y1, y2, y3, y4] := IsL.built [107, 0, 0, 0, k.t, y1, y2, y3, y4] rfl rfl rfl rfl (by simp)
  go_wp2_with fail
  refine (A4 _ _ _ (IK.out _ _ (x_s11.alloc _)) LB (Lib.hid (hL.out.below (hB11.alloc hs11 _)))).mono ?_
  rintro e w12 ⟨rfl, hb⟩
  have hN : Below w11.heap.size w11 w12 := below_thru ((Below.refl _ _).alloc (Nat.le_refl _) _) hb
  clear hb LB
  have hB12 : Below w.heap.size w w12 := below_thru hB11 hN
  have hs12 := hB12.size
  have x_s12 : Box w12 (w.heap.size) (C) := Box.below x_s11 hN
  have x_c12 : Box w12 (w.heap.size + 1) (CC) := Box.below x_c11 hN
  have x_k12 : Box w12 (w7.heap.size) (DK) := Box.below x_k11 hN
  have x_t12 : Box w12 (w9.heap.size) (V) := Box.below x_t11 hN
  clear hB11 hs11 x_s11 x_c11 x_k11 x_t11
  clear hN
  have d_w_s := (x_s12).lt
  have d_w_c := (x_c12).lt
  have d_w_k := (x_k12).lt
  have d_w_t := (x_t12).lt
  have d_w_0 := hs12
  go_upto_region 19 with (refine wpList_store_box (cs := DK) rfl _ _ _ rfl (Box.newc (l := zero32) rfl rfl) rfl rfl SD.out LD.out OD.out ?_; intro W12_0 hW12_0)
  have hN : Below w12.heap.size w12 W12_0 := (hW12_0.below _ _ (by omega) ((Below.refl _ w12).alloc (Nat.le_refl _) _))
  have x_w13 : Box W12_0 (w12.heap.size) (DK) := hW12_0.box
  have hB13 : Below w.heap.size w W12_0 := below_thru hB12 hN
  have hs13 := hB13.size
  have x_s13 : Box W12_0 (w.heap.size) (C) := Box.below x_s12 hN
  have x_c13 : Box W12_0 (w.heap.size + 1) (CC) := Box.below x_c12 hN
  have x_k13 : Box W12_0 (w7.heap.size) (DK) := Box.below x_k12 hN
  have x_t13 : Box W12_0 (w9.heap.size) (V) := Box.below x_t12 hN
  clear hB12 hs12 x_s12 x_c12 x_k12 x_t12
  clear hN hW12_0
  refine wp_region_held_drew (S := fun W => Box W (w.heap.size) (C) ∧ Box W (w.heap.size + 1) (CC) ∧ Box W (w7.heap.size) (DK) ∧ Box W (w9.heap.size) (V) ∧ Box W (w12.heap.size) (DK)) (by kernel_rfl) (And.intro (x_s13).drew (And.intro (x_c13).drew (And.intro (x_k13).drew (And.intro (x_t13).drew (x_w13).drew)))) (fun _ => ?_)
  refine F_drew (F := fun W => wpAnyH _ _ _ _ _ _ _ _ W) ?_
  intro Wq0 hbq0
  clear hs13
  have x_s_q0 : Box Wq0 (w.heap.size) (C) := Box.below x_s13 hbq0
  have x_c_q0 : Box Wq0 (w.heap.size + 1) (CC) := Box.below x_c13 hbq0
  have x_k_q0 : Box Wq0 (w7.heap.size) (DK) := Box.below x_k13 hbq0
  have x_t_q0 : Box Wq0 (w9.heap.size) (V) := Box.below x_t13 hbq0
  have x_w_q0 : Box Wq0 (w12.heap.size) (DK) := Box.below x_w13 hbq0
  have Bq0 := below_thru hB13 hbq0
  clear x_s13 x_c13 x_k13 x_t13 x_w13 hB13 hbq0
  refine takeH 0 122 (v := ?vq0_1) rfl (by rfl) (by kernel_rfl) (by kernel_rfl) (by kernel_rfl) (fun _ _ _ h => h) (Or.inl ⟨by rfl, ?_⟩) ((And.intro x_s_q0 (And.intro x_c_q0 (And.intro x_k_q0 (And.intro x_t_q0 x_w_q0))))) ?_
  rotate_left
  · intro wq hSq
    go_simp
    exact rfl
  try simp only [Act.put, List.setIfInBounds_toArray, List.set_cons_zero, List.set_cons_succ]
  refine takeH 1 123 (v := ?vq1_2) rfl (by rfl) (by kernel_rfl) (by kernel_rfl) (by kernel_rfl) (fun _ _ _ h => h) (Or.inl ⟨by rfl, ?_⟩) ((And.intro x_s_q0 (And.intro x_c_q0 (And.intro x_k_q0 (And.intro x_t_q0 x_w_q0))))) ?_
  rotate_left
  · intro wq hSq
    go_simp
    exact rfl
  try simp only [Act.put, List.setIfInBounds_toArray, List.set_cons_zero, List.set_cons_succ]
  refine takeH 2 124 (v := ?vq2_3) rfl (by rfl) (by kernel_rfl) (by kernel_rfl) (by kernel_rfl) (fun _ _ _ h => h) (Or.inl ⟨by rfl, ?_⟩) ((And.intro x_s_q0 (And.intro x_c_q0 (And.intro x_k_q0 (And.intro x_t_q0 x_w_q0))))) ?_
  rotate_left
  · intro wq hSq
    go_simp
    exact rfl
  try simp only [Act.put, List.setIfInBounds_toArray, List.set_cons_zero, List.set_cons_succ]
  refine takeH 3 125 (v := ?vq3_4) rfl (by rfl) (by kernel_rfl) (by kernel_rfl) (by kernel_rfl) (fun _ _ _ h => h) (Or.inl ⟨by rfl, ?_⟩) ((And.intro x_s_q0 (And.intro x_c_q0 (And.intro x_k_q0 (And.intro x_t_q0 x_w_q0))))) ?_
  rotate_left
  · intro wq hSq
    go_simp
    exact rfl
  try simp only [Act.put, List.setIfInBounds_toArray, List.set_cons_zero, List.set_cons_succ]
  refine takeH 4 126 (v := ?vq4_5) rfl (by rfl) (by kernel_rfl) (by kernel_rfl) (by kernel_rfl) (fun _ _ _ h => h) (Or.inl ⟨by rfl, ?_⟩) ((And.intro x_s_q0 (And.intro x_c_q0 (And.intro x_k_q0 (And.intro x_t_q0 x_w_q0))))) ?_
  rotate_left
  · intro wq hSq
    go_simp
    exact rfl
  try simp only [Act.put, List.setIfInBounds_toArray, List.set_cons_zero, List.set_cons_succ]
  refine takeH 5 127 (v := ?vq5_6) rfl (by rfl) (by kernel_rfl) (by kernel_rfl) (by kernel_rfl) (fun _ _ _ h => h) (Or.inl ⟨by rfl, ?_⟩) ((And.intro x_s_q0 (And.intro x_c_q0 (And.intro x_k_q0 (And.intro x_t_q0 x_w_q0))))) ?_
  rotate_left
  · intro wq hSq
    go_simp
    exact rfl
  try simp only [Act.put, List.setIfInBounds_toArray, List.set_cons_zero, List.set_cons_succ]
  refine takeH 6 128 (v := ?vq6_7) rfl (by rfl) (by kernel_rfl) (by kernel_rfl) (by kernel_rfl) (fun _ _ _ h => h) (Or.inl ⟨by rfl, ?_⟩) ((And.intro x_s_q0 (And.intro x_c_q0 (And.intro x_k_q0 (And.intro x_t_q0 x_w_q0))))) ?_
  rotate_left
  · intro wq hSq
    go_simp
    exact rfl
  try simp only [Act.put, List.setIfInBounds_toArray, List.set_cons_zero, List.set_cons_succ]
  refine takeH 7 129 (v := ?vq7_8) rfl (by rfl) (by kernel_rfl) (by kernel_rfl) (by kernel_rfl) (fun _ _ _ h => h) (Or.inl ⟨by rfl, ?_⟩) ((And.intro x_s_q0 (And.intro x_c_q0 (And.intro x_k_q0 (And.intro x_t_q0 x_w_q0))))) ?_
  rotate_left
  · intro wq hSq
    go_simp
    exact rfl
  try simp only [Act.put, List.setIfInBounds_toArray, List.set_cons_zero, List.set_cons_succ]
  refine takeH 8 130 (v := ?vq8_9) rfl (by rfl) (by kernel_rfl) (by kernel_rfl) (by kernel_rfl) (fun _ _ _ h => h) (Or.inl ⟨by rfl, ?_⟩) ((And.intro x_s_q0 (And.intro x_c_q0 (And.intro x_k_q0 (And.intro x_t_q0 x_w_q0))))) ?_
  rotate_left
  · intro wq hSq
    go_simp
    exact rfl
  try simp only [Act.put, List.setIfInBounds_toArray, List.set_cons_zero, List.set_cons_succ]
  refine takeH 9 131 (v := ?vq9_10) rfl (by rfl) (by kernel_rfl) (by kernel_rfl) (by kernel_rfl) (fun _ _ _ h => h) (Or.inl ⟨by rfl, ?_⟩) ((And.intro x_s_q0 (And.intro x_c_q0 (And.intro x_k_q0 (And.intro x_t_q0 x_w_q0))))) ?_
  rotate_left
  · intro wq hSq
    go_simp
    exact rfl
  try simp only [Act.put, List.setIfInBounds_toArray, List.set_cons_zero, List.set_cons_succ]
  refine takeH 10 132 (v := ?vq10_11) rfl (by rfl) (by kernel_rfl) (by kernel_rfl) (by kernel_rfl) (fun _ _ _ h => h) (Or.inl ⟨by rfl, ?_⟩) ((And.intro x_s_q0 (And.intro x_c_q0 (And.intro x_k_q0 (And.intro x_t_q0 x_w_q0))))) ?_
  rotate_left
  · intro wq hSq
    go_simp
    exact rfl
  try simp only [Act.put, List.setIfInBounds_toArray, List.set_cons_zero, List.set_cons_succ]
  refine takeH 11 133 (v := .agg (DK).toArray) rfl (by rfl) (by kernel_rfl) (by kernel_rfl) (by kernel_rfl) (fun _ _ _ h => h) (yieldsIf_load_mid (by rfl) _ _ rfl _ _ rfl (DK) _ (fun wq hq => Box.range (hq.2.2.1)) Tryd.underlying23 rfl SD.out) ((And.intro x_s_q0 (And.intro x_c_q0 (And.intro x_k_q0 (And.intro x_t_q0 x_w_q0))))) ?_
  try simp only [Act.put, List.setIfInBounds_toArray, List.set_cons_zero, List.set_cons_succ]
  refine takeH 12 134 (v := .agg (DK).toArray) rfl (by rfl) (by kernel_rfl) (by kernel_rfl) (by kernel_rfl) (fun _ _ _ h => h) (yieldsIf_load_mid (by rfl) _ _ rfl _ _ rfl (DK) _ (fun wq hq => Box.range (hq.2.2.2.2)) Tryd.underlying23 rfl SD.out) ((And.intro x_s_q0 (And.intro x_c_q0 (And.intro x_k_q0 (And.intro x_t_q0 x_w_q0))))) ?_
  try simp only [Act.put, List.setIfInBounds_toArray, List.set_cons_zero, List.set_cons_succ]
  refine takeH 13 135 (v := ?vq13_12) rfl (by rfl) (by kernel_rfl) (by kernel_rfl) (by kernel_rfl) (fun _ _ _ h => h) (Or.inl ⟨by rfl, ?_⟩) ((And.intro x_s_q0 (And.intro x_c_q0 (And.intro x_k_q0 (And.intro x_t_q0 x_w_q0))))) ?_
  rotate_left
  · intro wq hSq
    go_simp
    exact rfl
  try simp only [Act.put, List.setIfInBounds_toArray, List.set_cons_zero, List.set_cons_succ]
  refine takeH 14 136 (v := ?vq14_13) rfl (by rfl) (by kernel_rfl) (by kernel_rfl) (by kernel_rfl) (fun _ _ _ h => h) (Or.inl ⟨by rfl, ?_⟩) ((And.intro x_s_q0 (And.intro x_c_q0 (And.intro x_k_q0 (And.intro x_t_q0 x_w_q0))))) ?_
  rotate_left
  · intro wq hSq
    go_simp
    exact rfl
  try simp only [Act.put, List.setIfInBounds_toArray, List.set_cons_zero, List.set_cons_succ]
  refine takeH 15 137 (v := ?vq15_14) rfl (by rfl) (by kernel_rfl) (by kernel_rfl) (by kernel_rfl) (fun _ _ _ h => h) (Or.inl ⟨by rfl, ?_⟩) ((And.intro x_s_q0 (And.intro x_c_q0 (And.intro x_k_q0 (And.intro x_t_q0 x_w_q0))))) ?_
  rotate_left
  · intro wq hSq
    go_simp
    exact rfl
  try simp only [Act.put, List.setIfInBounds_toArray, List.set_cons_zero, List.set_cons_succ]
  refine takeH 18 140 (v := ?vq18_15) rfl (by rfl) (by kernel_rfl) (by kernel_rfl) (by kernel_rfl) (fun _ _ _ h => h) (Or.inl ⟨by rfl, ?_⟩) ((And.intro x_s_q0 (And.intro x_c_q0 (And.intro x_k_q0 (And.intro x_t_q0 x_w_q0))))) ?_
  rotate_left
  · intro wq hSq
    go_simp
    exact rfl
  try simp only [Act.put, List.setIfInBounds_toArray, List.set_cons_zero, List.set_cons_succ]
  refine takeH 19 141 (v := ?vq19_16) rfl (by rfl) (by kernel_rfl) (by kernel_rfl) (by kernel_rfl) (fun _ _ _ h => h) (Or.inl ⟨by rfl, ?_⟩) ((And.intro x_s_q0 (And.intro x_c_q0 (And.intro x_k_q0 (And.intro x_t_q0 x_w_q0))))) ?_
  rotate_left
  · intro wq hSq
    go_simp
    exact rfl
  try simp only [Act.put, List.setIfInBounds_toArray, List.set_cons_zero, List.set_cons_succ]
  refine takeH 20 142 (v := ?vq20_17) rfl (by rfl) (by kernel_rfl) (by kernel_rfl) (by kernel_rfl) (fun _ _ _ h => h) (Or.inl ⟨by rfl, ?_⟩) ((And.intro x_s_q0 (And.intro x_c_q0 (And.intro x_k_q0 (And.intro x_t_q0 x_w_q0))))) ?_
  rotate_left
  · intro wq hSq
    go_simp
    exact rfl
  try simp only [Act.put, List.setIfInBounds_toArray, List.set_cons_zero, List.set_cons_succ]
  refine takeH 21 143 (v := ?vq21_18) rfl (by rfl) (by kernel_rfl) (by kernel_rfl) (by kernel_rfl) (fun _ _ _ h => h) (Or.inl ⟨by rfl, ?_⟩) ((And.intro x_s_q0 (And.intro x_c_q0 (And.intro x_k_q0 (And.intro x_t_q0 x_w_q0))))) ?_
  rotate_left
  · intro wq hSq
    go_simp
    exact rfl
  try simp only [Act.put, List.setIfInBounds_toArray, List.set_cons_zero, List.set_cons_succ]
  refine takeH 16 138 (v := .agg (V).toArray) rfl (by rfl) (by kernel_rfl) (by kernel_rfl) (by kernel_rfl) (fun _ _ _ h => h) (yieldsIf_load_mid (by rfl) _ _ rfl _ _ rfl (V) _ (fun wq hq => Box.range (hq.2.2.2.1)) Tryd.underlying30 rfl SV.out) ((And.intro x_s_q0 (And.intro x_c_q0 (And.intro x_k_q0 (And.intro x_t_q0 x_w_q0))))) ?_
  try simp only [Act.put, List.setIfInBounds_toArray, List.set_cons_zero, List.set_cons_succ]
  refine takeH 17 139 (v := .agg (DK).toArray) rfl (by rfl) (by kernel_rfl) (by kernel_rfl) (by kernel_rfl) (fun _ _ _ h => h) (yieldsIf_load_mid (by rfl) _ _ rfl _ _ rfl (DK) _ (fun wq hq => Box.range (hq.2.2.1)) Tryd.underlying23 rfl SD.out) ((And.intro x_s_q0 (And.intro x_c_q0 (And.intro x_k_q0 (And.intro x_t_q0 x_w_q0))))) ?_
  try simp only [Act.put, List.setIfInBounds_toArray, List.set_cons_zero, List.set_cons_succ]
  refine wpAnyH_ready (rs := [22]) (by kernel_rfl) (by simp) (AllReadyH.cons rfl (fun K hK => ?_) AllReadyH.nil)
  go_simp
  refine (B _ (Lib.hid (hL.out.below Bq0))).mono ?_
  rintro e Wq19 ⟨rfl, hbq19⟩
  have x_s_q19 : Box Wq19 (w.heap.size) (C) := Box.below x_s_q0 hbq19
  have x_c_q19 : Box Wq19 (w.heap.size + 1) (CC) := Box.below x_c_q0 hbq19
  have x_k_q19 : Box Wq19 (w7.heap.size) (DK) := Box.below x_k_q0 hbq19
  have x_t_q19 : Box Wq19 (w9.heap.size) (V) := Box.below x_t_q0 hbq19
  have x_w_q19 : Box Wq19 (w12.heap.size) (DK) := Box.below x_w_q0 hbq19
  have Bq19 := below_thru Bq0 hbq19
  clear x_s_q0 x_c_q0 x_k_q0 x_t_q0 x_w_q0 Bq0 hbq19
  refine hK.out _ _ (And.intro x_s_q19 (And.intro x_c_q19 (And.intro x_k_q19 (And.intro x_t_q19 x_w_q19)))) (fun _ => ?_); clear hK K
  refine takeH 23 145 (v := ?vq23_20) rfl (by rfl) (by kernel_rfl) (by kernel_rfl) (by kernel_rfl) (fun _ _ _ h => h) (Or.inl ⟨by rfl, ?_⟩) ((And.intro x_s_q19 (And.intro x_c_q19 (And.intro x_k_q19 (And.intro x_t_q19 x_w_q19))))) ?_
  rotate_left
  · intro wq hSq
    go_simp
    exact rfl
  try simp only [Act.put, List.setIfInBounds_toArray, List.set_cons_zero, List.set_cons_succ]
  refine takeH 24 146 (v := ?vq24_21) rfl (by rfl) (by kernel_rfl) (by kernel_rfl) (by kernel_rfl) (fun _ _ _ h => h) (Or.inl ⟨by rfl, ?_⟩) ((And.intro x_s_q19 (And.intro x_c_q19 (And.intro x_k_q19 (And.intro x_t_q19 x_w_q19))))) ?_
  rotate_left
  · intro wq hSq
    go_simp
    exact rfl
  try simp only [Act.put, List.setIfInBounds_toArray, List.set_cons_zero, List.set_cons_succ]
  refine takeH 25 147 (v := ?vq25_22) rfl (by rfl) (by kernel_rfl) (by kernel_rfl) (by kernel_rfl) (fun _ _ _ h => h) (Or.inl ⟨by rfl, ?_⟩) ((And.intro x_s_q19 (And.intro x_c_q19 (And.intro x_k_q19 (And.intro x_t_q19 x_w_q19))))) ?_
  rotate_left
  · intro wq hSq
    go_simp
    exact rfl
  try simp only [Act.put, List.setIfInBounds_toArray, List.set_cons_zero, List.set_cons_succ]
  refine wpAnyH_ready (rs := [26]) (by kernel_rfl) (by simp) (AllReadyH.cons rfl (fun K hK => ?_) AllReadyH.nil)
  go_simp
  refine (AL _ (Lib.hid (hL.out.below Bq19))).mono ?_
  rintro e Wq23 ⟨rfl, hbq23⟩
  have x_s_q23 : Box Wq23 (w.heap.size) (C) := Box.below x_s_q19 hbq23
  have x_c_q23 : Box Wq23 (w.heap.size + 1) (CC) := Box.below x_c_q19 hbq23
  have x_k_q23 : Box Wq23 (w7.heap.size) (DK) := Box.below x_k_q19 hbq23
  have x_t_q23 : Box Wq23 (w9.heap.size) (V) := Box.below x_t_q19 hbq23
  have x_w_q23 : Box Wq23 (w12.heap.size) (DK) := Box.below x_w_q19 hbq23
  have Bq23 := below_thru Bq19 hbq23
  clear x_s_q19 x_c_q19 x_k_q19 x_t_q19 x_w_q19 Bq19 hbq23
  refine hK.out _ _ (And.intro x_s_q23 (And.intro x_c_q23 (And.intro x_k_q23 (And.intro x_t_q23 x_w_q23)))) (fun _ => ?_); clear hK K
  refine takeH 27 149 (v := ?vq27_24) rfl (by rfl) (by kernel_rfl) (by kernel_rfl) (by kernel_rfl) (fun _ _ _ h => h) (Or.inl ⟨by rfl, ?_⟩) ((And.intro x_s_q23 (And.intro x_c_q23 (And.intro x_k_q23 (And.intro x_t_q23 x_w_q23))))) ?_
  rotate_left
  · intro wq hSq
    go_simp
    exact rfl
  try simp only [Act.put, List.setIfInBounds_toArray, List.set_cons_zero, List.set_cons_succ]
  refine takeH 28 12 (v := ?vq28_25) rfl (by rfl) (by kernel_rfl) (by kernel_rfl) (by kernel_rfl) (fun _ _ _ h => h) (Or.inl ⟨by rfl, ?_⟩) ((And.intro x_s_q23 (And.intro x_c_q23 (And.intro x_k_q23 (And.intro x_t_q23 x_w_q23))))) ?_
  rotate_left
  · intro wq hSq
    go_simp
    exact rfl
  try simp only [Act.put, List.setIfInBounds_toArray, List.set_cons_zero, List.set_cons_succ]
  refine wpAnyH_done (by kernel_rfl) ?_ _
  go_wp2_with fail
  go_returns
  exact ⟨rfl, Bq23⟩

set_option maxRecDepth 100000 in
set_option maxHeartbeats 6400000 in
theorem made11_ff (k : Nums) (c : Cmd) {S : List Int} (hS : S.length = 32) (hSb : Byts S) (ho : ¬ c.Ok) (hk : ¬ HasKey k.t k.e) (w : World) (hL : Hid (LaidS w)) : Calls Tryd.prog 6 #[(.agg (S.map (Value.int .u8)).toArray), .int .u32 k.t, .int .u32 k.u, .int .u32 k.e, .int .u64 k.x, .agg (ccell c).toArray] w fun e w' => e = .returned (.bool true) ∧ Below w.heap.size w w' := by
  obtain ⟨Q, hQ⟩ : ∃ X, (ordL S).map (Value.int .u8) = X := ⟨_, rfl⟩
  have A0 : ∀ (W : World) (a b : Value), IsL W .u8 a S → IsL W .u8 b [97] → Hid (LaidS W) → Calls Tryd.prog 22 #[a, b] W fun e w' => e = .returned (.tuple #[.agg Q.toArray, .int .i64 0]) ∧ Below W.heap.size W w' := by rw [← hQ]; exact fun W a b h1 h2 h => tag_ok (D := ordL S) W (Lib.hid h1) (Lib.hid h2) (by rw [hS]; omega) (by decide) (Lib.hid (hSb).l) (Lib.hid (byts97).l) (Lib.hid rfl) h
  have A1 := fun (W : World) (h : Hid (LaidS W)) => ord_is hS hSb W h
  have E1 := fun (W : World) => eq_same (P := Tryd.prog) Tryd.underlying23 Tryd.underlying5 size_u8' (ordL S) (ordL_len S) W
  have SK := Lib.hid (size_dig hS); have LK := Lib.hid (len_dig hS); have OK := Lib.hid (oneCell_ints (k := .u8) S)
  have IK := Lib.hid (fun (W : World) (b : Nat) (h : Box W b (S.map (Value.int .u8))) => IsL.boxed 32 hS h (by omega))
  have SG := fun (W : World) (h : Hid (LaidS W)) => sign_is c hS hSb (Or.inr ⟨rfl, ho, rfl⟩) W h; have BE := fun W => bef_is c (xs := []) (q := 8) (Or.inr ⟨rfl, ho, rfl⟩) W
  have SQ := Lib.hid (size_dig (ordL_len S)); have LQ := Lib.hid (len_dig (ordL_len S)); have OQ := Lib.hid (oneCell_ints (k := .u8) (ordL S))
  have SC := Lib.hid (size_cmd c); have LC := Lib.hid (len_cmd Cmd.zero c); have OC := Lib.hid (one_cmd c)
  have SU := Lib.hid (size_cmd Cmd.zero); have LU := Lib.hid (len_cmd Cmd.zero Cmd.zero); have OU := Lib.hid (one_cmd Cmd.zero)
  have TN := fun (W : World) (h : Hid (LaidS W)) => ten_is hS hSb k.ht k.he (Or.inr ⟨rfl, hk, rfl⟩) W h; have TK := fun (W : World) (h : Hid (LaidS W)) => token_is k hS hSb (Or.inr ⟨rfl, hk, rfl, rfl⟩) W h
  have I := fun W => ris_is (b := false) (⟨fun g => (Bool.false_ne_true g).elim, fun g => absurd g hk⟩) W
  have SD := Lib.hid (size_dig zd32); have LD := Lib.hid (len_dig zd32); have OD := Lib.hid (oneCell_ints (k := .u8) zeroD)
  have SV := Lib.hid (size_tok Nums.zero zd32); have LV : Hid (zeroTk.length = (tcell Nums.zero zeroD).length) := Lib.hid (len_tok Nums.zero Nums.zero zd32 zd32); have OV := Lib.hid (tcell_one Nums.zero zeroD)
  have AL := fun (W : World) (h : Hid (LaidS W)) => alive11_is W h
  obtain ⟨DK, hDK⟩ : ∃ X, zeroD.map (Value.int .u8) = X := ⟨_, rfl⟩
  rw [hDK] at SD LD OD TN
  clear hDK
  obtain ⟨V, hV⟩ : ∃ X, tcell Nums.zero zeroD = X := ⟨_, rfl⟩
  rw [hV] at TK SV LV OV
  clear hV
  rw [hQ] at A1 E1 SQ LQ OQ
  obtain ⟨U, hU⟩ : ∃ X, ccell Cmd.zero = X := ⟨_, rfl⟩
  replace LU : Hid ((ccell Cmd.zero).length = U.length) := Lib.hid (by rw [← hU])
  rw [hU] at SG SU OU
  clear hU
  obtain ⟨CC, hCC⟩ : ∃ X, ccell c = X := ⟨_, rfl⟩
  rw [hCC] at SG BE SC LC OC ⊢
  clear hCC
  obtain ⟨C, hC⟩ : ∃ X, S.map (Value.int .u8) = X := ⟨_, rfl⟩
  rw [hC] at SK A1 SG TN TK IK ⊢
  clear hC
  clear hS hSb ho hk hQ LC OC LK OK
  go_enter Tryd.func6, Tryd.ntmps6
  go_upto_region 1 with fail
  refine F_gen (F := fun W => Code.wp _ _ _ _ W) (J := fun W => Box W (w.heap.size) (C) ∧ Box W (w.heap.size + 1) (CC) ∧ Below w.heap.size w W) (And.intro (Box.alloc (Box.newc rfl rfl) _) (And.intro (Box.newc rfl (by simp)) (by go_grown))) ?_
  intro w0 ⟨e_s, e_c, hB0⟩
  have hs0 := hB0.size
  have x_s0 := e_s; clear e_s
  have x_c0 := e_c; clear e_c
  have LB : IsL (w0.alloc (.cells #[.int .u8 97] 5)) .u8 (.slice (some ⟨w0.heap.size, 0, none⟩) 1 1) [97] := IsL.built [97] rfl rfl rfl rfl (by simp)
  go_wp2_with fail
  refine (A0 _ _ _ (IK.out _ _ (x_s0.alloc _)) LB (Lib.hid (hL.out.below (hB0.alloc hs0 _)))).mono ?_
  rintro e w1 ⟨rfl, hb⟩
  have hN : Below w0.heap.size w0 w1 := below_thru ((Below.refl _ _).alloc (Nat.le_refl _) _) hb
  clear hb LB
  have hB1 : Below w.heap.size w w1 := below_thru hB0 hN
  have hs1 := hB1.size
  have x_s1 : Box w1 (w.heap.size) (C) := Box.below x_s0 hN
  have x_c1 : Box w1 (w.heap.size + 1) (CC) := Box.below x_c0 hN
  clear hB0 hs0 x_s0 x_c0
  clear hN
  have d_a_s := (x_s1).lt
  have d_a_c := (x_c1).lt
  have d_a_0 := hs1
  go_upto_region 2 with (refine wpList_store_box (cs := Q) rfl _ _ _ rfl (Box.newc (l := zero32) rfl rfl) rfl rfl SQ.out LQ.out OQ.out ?_; intro W1_0 hW1_0)
  have hN : Below w1.heap.size w1 W1_0 := (hW1_0.below _ _ (by omega) ((Below.refl _ w1).alloc (Nat.le_refl _) _))
  have x_a2 : Box W1_0 (w1.heap.size) (Q) := hW1_0.box
  have hB2 : Below w.heap.size w W1_0 := below_thru hB1 hN
  have hs2 := hB2.size
  have x_s2 : Box W1_0 (w.heap.size) (C) := Box.below x_s1 hN
  have x_c2 : Box W1_0 (w.heap.size + 1) (CC) := Box.below x_c1 hN
  clear hB1 hs1 x_s1 x_c1
  clear hN hW1_0
  refine wp_region_held_drew (S := fun W => Box W (w.heap.size) (C) ∧ Box W (w.heap.size + 1) (CC) ∧ Box W (w1.heap.size) (Q)) (by kernel_rfl) (And.intro (x_s2).drew (And.intro (x_c2).drew (x_a2).drew)) (fun _ => ?_)
  refine F_drew (F := fun W => wpAnyH _ _ _ _ _ _ _ _ W) ?_
  intro Wp0 hbp0
  clear hs2
  have x_s_p0 : Box Wp0 (w.heap.size) (C) := Box.below x_s2 hbp0
  have x_c_p0 : Box Wp0 (w.heap.size + 1) (CC) := Box.below x_c2 hbp0
  have x_a_p0 : Box Wp0 (w1.heap.size) (Q) := Box.below x_a2 hbp0
  have Bp0 := below_thru hB2 hbp0
  clear x_s2 x_c2 x_a2 hB2 hbp0
  refine takeH 0 34 (v := ?vp0_1) rfl (by rfl) (by kernel_rfl) (by kernel_rfl) (by kernel_rfl) (fun _ _ _ h => h) (Or.inl ⟨by rfl, ?_⟩) ((And.intro x_s_p0 (And.intro x_c_p0 x_a_p0))) ?_
  rotate_left
  · intro wq hSq
    go_simp
    exact rfl
  try simp only [Act.put, List.setIfInBounds_toArray, List.set_cons_zero, List.set_cons_succ]
  refine takeH 1 35 (v := ?vp1_2) rfl (by rfl) (by kernel_rfl) (by kernel_rfl) (by kernel_rfl) (fun _ _ _ h => h) (Or.inl ⟨by rfl, ?_⟩) ((And.intro x_s_p0 (And.intro x_c_p0 x_a_p0))) ?_
  rotate_left
  · intro wq hSq
    go_simp
    exact rfl
  try simp only [Act.put, List.setIfInBounds_toArray, List.set_cons_zero, List.set_cons_succ]
  refine takeH 2 36 (v := ?vp2_3) rfl (by rfl) (by kernel_rfl) (by kernel_rfl) (by kernel_rfl) (fun _ _ _ h => h) (Or.inl ⟨by rfl, ?_⟩) ((And.intro x_s_p0 (And.intro x_c_p0 x_a_p0))) ?_
  rotate_left
  · intro wq hSq
    go_simp
    exact rfl
  try simp only [Act.put, List.setIfInBounds_toArray, List.set_cons_zero, List.set_cons_succ]
  refine takeH 3 37 (v := .agg (C).toArray) rfl (by rfl) (by kernel_rfl) (by kernel_rfl) (by kernel_rfl) (fun _ _ _ h => h) (yieldsIf_load_mid (by rfl) _ _ rfl _ _ rfl (C) _ (fun wq hq => Box.range (hq.1)) Tryd.underlying23 rfl SK.out) ((And.intro x_s_p0 (And.intro x_c_p0 x_a_p0))) ?_
  try simp only [Act.put, List.setIfInBounds_toArray, List.set_cons_zero, List.set_cons_succ]
  refine takeH 5 39 (v := .agg (Q).toArray) rfl (by rfl) (by kernel_rfl) (by kernel_rfl) (by kernel_rfl) (fun _ _ _ h => h) (yieldsIf_load_mid (by rfl) _ _ rfl _ _ rfl (Q) _ (fun wq hq => Box.range (hq.2.2)) Tryd.underlying23 rfl SQ.out) ((And.intro x_s_p0 (And.intro x_c_p0 x_a_p0))) ?_
  try simp only [Act.put, List.setIfInBounds_toArray, List.set_cons_zero, List.set_cons_succ]
  refine wpAnyH_ready (rs := [4]) (by kernel_rfl) (by simp) (AllReadyH.cons rfl (fun K hK => ?_) AllReadyH.nil)
  go_simp
  refine (A1 _ (Lib.hid (hL.out.below Bp0))).mono ?_
  rintro e Wp4 ⟨rfl, hbp4⟩
  have x_s_p4 : Box Wp4 (w.heap.size) (C) := Box.below x_s_p0 hbp4
  have x_c_p4 : Box Wp4 (w.heap.size + 1) (CC) := Box.below x_c_p0 hbp4
  have x_a_p4 : Box Wp4 (w1.heap.size) (Q) := Box.below x_a_p0 hbp4
  have Bp4 := below_thru Bp0 hbp4
  clear x_s_p0 x_c_p0 x_a_p0 Bp0 hbp4
  refine hK.out _ _ (And.intro x_s_p4 (And.intro x_c_p4 x_a_p4)) (fun _ => ?_); clear hK K
  refine takeH 6 40 (v := ?vp6_5) rfl (by rfl) (by kernel_rfl) (by kernel_rfl) (by kernel_rfl) (fun _ _ _ h => h) (Or.inl ⟨by rfl, ?_⟩) ((And.intro x_s_p4 (And.intro x_c_p4 x_a_p4))) ?_
  rotate_left
  · intro wq hSq
    go_simp
    exact rfl
  try simp only [Act.put, List.setIfInBounds_toArray, List.set_cons_zero, List.set_cons_succ]
  refine takeH 7 41 (v := ?vp7_6) rfl (by rfl) (by kernel_rfl) (by kernel_rfl) (by kernel_rfl) (fun _ _ _ h => h) (Or.inl ⟨by rfl, ?_⟩) ((And.intro x_s_p4 (And.intro x_c_p4 x_a_p4))) ?_
  rotate_left
  · intro wq hSq
    go_simp
    exact rfl
  try simp only [Act.put, List.setIfInBounds_toArray, List.set_cons_zero, List.set_cons_succ]
  refine wpAnyH_done (by kernel_rfl) ?_ _
  have hB3 := Bp4; have hs3 := hB3.size
  have x_s3 := x_s_p4
  have x_c3 := x_c_p4
  have x_a3 := x_a_p4
  clear Bp4 x_s_p4 x_c_p4 x_a_p4
  go_wp2_with (first
    | (refine wpList_load_box9 rfl _ _ rfl x_s3 rfl Tryd.underlying23 rfl SK.out ?_)
    | (refine wpList_load_box9 rfl _ _ rfl x_c3 rfl Tryd.underlying37 rfl SC.out ?_))
  refine (SG _ (Lib.hid (hL.out.below hB3))).mono ?_
  rintro e w4 ⟨rfl, hb⟩
  have hB4 : Below w.heap.size w w4 := below_thru hB3 hb
  have hs4 := hB4.size
  have x_s4 : Box w4 (w.heap.size) (C) := Box.below x_s3 hb
  have x_c4 : Box w4 (w.heap.size + 1) (CC) := Box.below x_c3 hb
  have x_a4 : Box w4 (w1.heap.size) (Q) := Box.below x_a3 hb
  clear hB3 hs3 x_s3 x_c3 x_a3
  clear hb
  have d_x_s := (x_s4).lt
  have d_x_c := (x_c4).lt
  have d_x_a := (x_a4).lt
  have d_x_0 := hs4
  go_upto_region 5 with (refine wpList_store_box (cs := U) rfl _ _ _ rfl (Box.newc (l := ccell Cmd.zero) rfl rfl) rfl rfl SU.out LU.out OU.out ?_; intro W4_0 hW4_0)
  have hN : Below w4.heap.size w4 W4_0 := (hW4_0.below _ _ (by omega) ((Below.refl _ w4).alloc (Nat.le_refl _) _))
  have x_x5 : Box W4_0 (w4.heap.size) (U) := hW4_0.box
  have hB5 : Below w.heap.size w W4_0 := below_thru hB4 hN
  have hs5 := hB5.size
  have x_s5 : Box W4_0 (w.heap.size) (C) := Box.below x_s4 hN
  have x_c5 : Box W4_0 (w.heap.size + 1) (CC) := Box.below x_c4 hN
  have x_a5 : Box W4_0 (w1.heap.size) (Q) := Box.below x_a4 hN
  clear hB4 hs4 x_s4 x_c4 x_a4
  clear hN hW4_0
  go_wp2_with (refine wpList_load_box9 rfl _ _ rfl x_c5 rfl Tryd.underlying37 rfl SC.out ?_)
  refine (BE _).mono ?_
  rintro e w6 ⟨vm, rfl, hm, hb⟩
  have hB6 : Below w.heap.size w w6 := below_thru hB5 hb
  have hs6 := hB6.size
  have x_s6 : Box w6 (w.heap.size) (C) := Box.below x_s5 hb
  have x_c6 : Box w6 (w.heap.size + 1) (CC) := Box.below x_c5 hb
  have x_a6 : Box w6 (w1.heap.size) (Q) := Box.below x_a5 hb
  have x_x6 : Box w6 (w4.heap.size) (U) := Box.below x_x5 hb
  clear hB5 hs5 x_s5 x_c5 x_a5 x_x5
  clear hb
  clear hm
  go_wp2_with (refine wpList_load_box9 rfl _ _ rfl x_s6 rfl Tryd.underlying23 rfl SK.out ?_)
  refine (TN _ (Lib.hid (hL.out.below hB6))).mono ?_
  rintro e w7 ⟨rfl, hb⟩
  have hB7 : Below w.heap.size w w7 := below_thru hB6 hb
  have hs7 := hB7.size
  have x_s7 : Box w7 (w.heap.size) (C) := Box.below x_s6 hb
  have x_c7 : Box w7 (w.heap.size + 1) (CC) := Box.below x_c6 hb
  have x_a7 : Box w7 (w1.heap.size) (Q) := Box.below x_a6 hb
  have x_x7 : Box w7 (w4.heap.size) (U) := Box.below x_x6 hb
  clear hB6 hs6 x_s6 x_c6 x_a6 x_x6
  clear hb
  clear x_x7
  clear x_a7
  have d_k_s := (x_s7).lt
  have d_k_c := (x_c7).lt
  have d_k_0 := hs7
  go_upto_region 14 with (refine wpList_store_box (cs := DK) rfl _ _ _ rfl (Box.newc (l := zero32) rfl rfl) rfl rfl SD.out LD.out OD.out ?_; intro W7_0 hW7_0)
  have hN : Below w7.heap.size w7 W7_0 := (hW7_0.below _ _ (by omega) ((Below.refl _ w7).alloc (Nat.le_refl _) _))
  have x_k8 : Box W7_0 (w7.heap.size) (DK) := hW7_0.box
  have hB8 : Below w.heap.size w W7_0 := below_thru hB7 hN
  have hs8 := hB8.size
  have x_s8 : Box W7_0 (w.heap.size) (C) := Box.below x_s7 hN
  have x_c8 : Box W7_0 (w.heap.size + 1) (CC) := Box.below x_c7 hN
  clear hB7 hs7 x_s7 x_c7
  clear hN hW7_0
  go_wp2_with (refine wpList_load_box9 rfl _ _ rfl x_s8 rfl Tryd.underlying23 rfl SK.out ?_)
  refine (TK _ (Lib.hid (hL.out.below hB8))).mono ?_
  rintro e w9 ⟨rfl, hb⟩
  have hB9 : Below w.heap.size w w9 := below_thru hB8 hb
  have hs9 := hB9.size
  have x_s9 : Box w9 (w.heap.size) (C) := Box.below x_s8 hb
  have x_c9 : Box w9 (w.heap.size + 1) (CC) := Box.below x_c8 hb
  have x_k9 : Box w9 (w7.heap.size) (DK) := Box.below x_k8 hb
  clear hB8 hs8 x_s8 x_c8 x_k8
  clear hb
  have d_t_s := (x_s9).lt
  have d_t_c := (x_c9).lt
  have d_t_k := (x_k9).lt
  have d_t_0 := hs9
  go_upto_region 15 with (refine wpList_store_box (cs := V) rfl _ _ _ rfl (Box.newc (l := zeroTk) rfl rfl) rfl rfl SV.out LV.out OV.out ?_; intro W9_0 hW9_0)
  have hN : Below w9.heap.size w9 W9_0 := (hW9_0.below _ _ (by omega) ((Below.refl _ w9).alloc (Nat.le_refl _) _))
  have x_t10 : Box W9_0 (w9.heap.size) (V) := hW9_0.box
  have hB10 : Below w.heap.size w W9_0 := below_thru hB9 hN
  have hs10 := hB10.size
  have x_s10 : Box W9_0 (w.heap.size) (C) := Box.below x_s9 hN
  have x_c10 : Box W9_0 (w.heap.size + 1) (CC) := Box.below x_c9 hN
  have x_k10 : Box W9_0 (w7.heap.size) (DK) := Box.below x_k9 hN
  clear hB9 hs9 x_s9 x_c9 x_k9
  clear hN hW9_0
  go_wp2_with fail
  refine (I _).mono ?_
  rintro e w11 ⟨rfl, hb⟩
  have hB11 : Below w.heap.size w w11 := below_thru hB10 hb
  have hs11 := hB11.size
  have x_s11 : Box w11 (w.heap.size) (C) := Box.below x_s10 hb
  have x_c11 : Box w11 (w.heap.size + 1) (CC) := Box.below x_c10 hb
  have x_k11 : Box w11 (w7.heap.size) (DK) := Box.below x_k10 hb
  have x_t11 : Box w11 (w9.heap.size) (V) := Box.below x_t10 hb
  clear hB10 hs10 x_s10 x_c10 x_k10 x_t10
  clear hb
  go_wp2_with fail
  refine (AL _ (Lib.hid (hL.out.below hB11))).mono ?_
  rintro e w12 ⟨rfl, hb⟩
  have hB12 : Below w.heap.size w w12 := below_thru hB11 hb
  have hs12 := hB12.size
  have x_s12 : Box w12 (w.heap.size) (C) := Box.below x_s11 hb
  have x_c12 : Box w12 (w.heap.size + 1) (CC) := Box.below x_c11 hb
  have x_k12 : Box w12 (w7.heap.size) (DK) := Box.below x_k11 hb
  have x_t12 : Box w12 (w9.heap.size) (V) := Box.below x_t11 hb
  clear hB11 hs11 x_s11 x_c11 x_k11 x_t11
  clear hb
  go_wp2_with fail
  go_returns
  exact ⟨rfl, hB12⟩

theorem made11_is (k : Nums) (c : Cmd) {S : List Int} (hS : S.length = 32) (hSb : Byts S) (w : World) (hL : Hid (LaidS w)) : Calls Tryd.prog 6 #[(.agg (S.map (Value.int .u8)).toArray), .int .u32 k.t, .int .u32 k.u, .int .u32 k.e, .int .u64 k.x, .agg (ccell c).toArray] w fun e w' => e = .returned (.bool true) ∧ Below w.heap.size w w' := by
  by_cases ho : c.Ok
  · by_cases hk : HasKey k.t k.e
    · exact made11_tt k c hS hSb ho hk w hL
    · exact made11_tf k c hS hSb ho hk w hL
  · by_cases hk : HasKey k.t k.e
    · exact made11_ft k c hS hSb ho hk w hL
    · exact made11_ff k c hS hSb ho hk w hL

end Go.Proofs.YtofjpeplgagihaaDoor
