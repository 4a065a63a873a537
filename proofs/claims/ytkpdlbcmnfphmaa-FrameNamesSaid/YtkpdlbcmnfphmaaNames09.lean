/-
  FrameNames, walked.
-/
import Derived.Test.YtkpdlbcmnfphmaaNm09
namespace Go.Proofs.Ytkpdlbcmnfphmaa
open Go.RowKit

theorem hy2_9 : Byts (2 :: (rq9 15 r15b).bs) := fun x h => by
  rcases List.mem_cons.1 h with q | q
  · rw [q]
    decide
  · exact Req.bs_byts _ x q
set_option maxRecDepth 100000 in
theorem eqm_f2 (f : Frm) (W : World) : (Op.equalIn 10000 43 (.agg (mcell f).toArray) (.agg (mcell f).toArray)).run Try.prog W = .ok true W := eqm_t rfl W
set_option maxRecDepth 100000 in
theorem size_i64n : (Try.prog.info? 2).map (·.size) = some 1 := by kernel_rfl
set_option maxRecDepth 100000 in
set_option maxHeartbeats 12800000 in
theorem names9_is (w : World) : Calls Try.prog 3 #[] w fun e w' => e = .returned (.bool true) ∧ Below w.heap.size w w' := by
  obtain ⟨ti, hin, hz0, hz1, hz2⟩ := info_parts info_cmd9
  obtain ⟨LV, hLV⟩ : ∃ V, limsV = V := ⟨_, rfl⟩; obtain ⟨LO, hLO⟩ : ∃ V, limsO = V := ⟨_, rfl⟩
  have LM := fun W => limits9_is W; rw [hLV] at LM
  have dA := fun W => dgA9_b W; have dB := fun W => dgB9_b W; obtain ⟨DA, hDA⟩ : ∃ V, digA9.map (Value.int .u8) = V := ⟨_, rfl⟩; obtain ⟨DB, hDB⟩ : ∃ V, digB9.map (Value.int .u8) = V := ⟨_, rfl⟩; rw [hDA] at dA; rw [hDB] at dB
  have Af0 := fun W => fine0_b W
  rw [hLV, hDA] at Af0
  have Af1 := fun W => fine1_b W
  rw [hDB] at Af1
  have Af2 := fun W => fine2_b W
  rw [hLV] at Af2
  have Af3 := fun W => fine3_b W
  have Af4 := fun W => fine4_b W
  have Af5 := fun W => fine5_b W
  have HFf : Hid (ccell fine0 ++ (ccell fine1 ++ (ccell fine2 ++ (ccell fine3 ++ (ccell fine4 ++ ccell fine5)))) = flatR LC fineC) := Lib.hid rfl
  have lf0 := ccell_len fine0; obtain ⟨Vf0, ef0⟩ : ∃ V, ccell fine0 = V := ⟨_, rfl⟩; rw [ef0] at Af0 lf0 HFf
  have lf1 := ccell_len fine1; obtain ⟨Vf1, ef1⟩ : ∃ V, ccell fine1 = V := ⟨_, rfl⟩; rw [ef1] at Af1 lf1 HFf
  have lf2 := ccell_len fine2; obtain ⟨Vf2, ef2⟩ : ∃ V, ccell fine2 = V := ⟨_, rfl⟩; rw [ef2] at Af2 lf2 HFf
  have lf3 := ccell_len fine3; obtain ⟨Vf3, ef3⟩ : ∃ V, ccell fine3 = V := ⟨_, rfl⟩; rw [ef3] at Af3 lf3 HFf
  have lf4 := ccell_len fine4; obtain ⟨Vf4, ef4⟩ : ∃ V, ccell fine4 = V := ⟨_, rfl⟩; rw [ef4] at Af4 lf4 HFf
  have lf5 := ccell_len fine5; obtain ⟨Vf5, ef5⟩ : ∃ V, ccell fine5 = V := ⟨_, rfl⟩; rw [ef5] at Af5 lf5 HFf
  have HBf := Lib.hid (fun W => run_bsliceN (P := Try.prog) (n := 6) W 32 31 ti _ 47 Try.underlying32 hin hz0 hz1 rfl [Vf0, Vf1, Vf2, Vf3, Vf4, Vf5] (by simp [lf0, lf1, lf2, lf3, lf4, lf5]) (by decide) (by simp) #[(0, .agg Vf0.toArray), (1, .agg Vf1.toArray), (2, .agg Vf2.toArray), (3, .agg Vf3.toArray), (4, .agg Vf4.toArray), (5, .agg Vf5.toArray)] rfl rfl (by decide))
  have Ab0 := fun W => bad0_b W
  have Ab1 := fun W => bad1_b W
  have Ab2 := fun W => bad2_b W
  have Ab3 := fun W => bad3_b W
  have Ab4 := fun W => bad4_b W
  rw [hLV] at Ab4
  have Ab5 := fun W => bad5_b W
  rw [hLV] at Ab5
  have Ab6 := fun W => bad6_b W
  rw [hLV] at Ab6
  have Ab7 := fun W => bad7_b W
  rw [hLV] at Ab7
  have Ab8 := fun W => bad8_b W
  rw [hLO] at Ab8
  have Ab9 := fun W => bad9_b W
  have Ab10 := fun W => bad10_b W
  have Ab11 := fun W => bad11_b W
  have Ab12 := fun W => bad12_b W
  rw [hLV] at Ab12
  have Ab13 := fun W => bad13_b W
  rw [hLO] at Ab13
  have Ab14 := fun W => bad14_b W
  rw [hLV] at Ab14
  have Ab15 := fun W => bad15_b W
  have Ab16 := fun W => bad16_b W
  rw [hLV] at Ab16
  have Ab17 := fun W => bad17_b W
  have Ab18 := fun W => bad18_b W
  rw [hLV] at Ab18
  have HFb : Hid (ccell bad0 ++ (ccell bad1 ++ (ccell bad2 ++ (ccell bad3 ++ (ccell bad4 ++ (ccell bad5 ++ (ccell bad6 ++ (ccell bad7 ++ (ccell bad8 ++ (ccell bad9 ++ (ccell bad10 ++ (ccell bad11 ++ (ccell bad12 ++ (ccell bad13 ++ (ccell bad14 ++ (ccell bad15 ++ (ccell bad16 ++ (ccell bad17 ++ ccell bad18))))))))))))))))) = flatR LC badC) := Lib.hid rfl
  have lb0 := ccell_len bad0; obtain ⟨Vb0, eb0⟩ : ∃ V, ccell bad0 = V := ⟨_, rfl⟩; rw [eb0] at Ab0 lb0 HFb
  have lb1 := ccell_len bad1; obtain ⟨Vb1, eb1⟩ : ∃ V, ccell bad1 = V := ⟨_, rfl⟩; rw [eb1] at Ab1 lb1 HFb
  have lb2 := ccell_len bad2; obtain ⟨Vb2, eb2⟩ : ∃ V, ccell bad2 = V := ⟨_, rfl⟩; rw [eb2] at Ab2 lb2 HFb
  have lb3 := ccell_len bad3; obtain ⟨Vb3, eb3⟩ : ∃ V, ccell bad3 = V := ⟨_, rfl⟩; rw [eb3] at Ab3 lb3 HFb
  have lb4 := ccell_len bad4; obtain ⟨Vb4, eb4⟩ : ∃ V, ccell bad4 = V := ⟨_, rfl⟩; rw [eb4] at Ab4 lb4 HFb
  have lb5 := ccell_len bad5; obtain ⟨Vb5, eb5⟩ : ∃ V, ccell bad5 = V := ⟨_, rfl⟩; rw [eb5] at Ab5 lb5 HFb
  have lb6 := ccell_len bad6; obtain ⟨Vb6, eb6⟩ : ∃ V, ccell bad6 = V := ⟨_, rfl⟩; rw [eb6] at Ab6 lb6 HFb
  have lb7 := ccell_len bad7; obtain ⟨Vb7, eb7⟩ : ∃ V, ccell bad7 = V := ⟨_, rfl⟩; rw [eb7] at Ab7 lb7 HFb
  have lb8 := ccell_len bad8; obtain ⟨Vb8, eb8⟩ : ∃ V, ccell bad8 = V := ⟨_, rfl⟩; rw [eb8] at Ab8 lb8 HFb
  have lb9 := ccell_len bad9; obtain ⟨Vb9, eb9⟩ : ∃ V, ccell bad9 = V := ⟨_, rfl⟩; rw [eb9] at Ab9 lb9 HFb
  have lb10 := ccell_len bad10; obtain ⟨Vb10, eb10⟩ : ∃ V, ccell bad10 = V := ⟨_, rfl⟩; rw [eb10] at Ab10 lb10 HFb
  have lb11 := ccell_len bad11; obtain ⟨Vb11, eb11⟩ : ∃ V, ccell bad11 = V := ⟨_, rfl⟩; rw [eb11] at Ab11 lb11 HFb
  have lb12 := ccell_len bad12; obtain ⟨Vb12, eb12⟩ : ∃ V, ccell bad12 = V := ⟨_, rfl⟩; rw [eb12] at Ab12 lb12 HFb
  have lb13 := ccell_len bad13; obtain ⟨Vb13, eb13⟩ : ∃ V, ccell bad13 = V := ⟨_, rfl⟩; rw [eb13] at Ab13 lb13 HFb
  have lb14 := ccell_len bad14; obtain ⟨Vb14, eb14⟩ : ∃ V, ccell bad14 = V := ⟨_, rfl⟩; rw [eb14] at Ab14 lb14 HFb
  have lb15 := ccell_len bad15; obtain ⟨Vb15, eb15⟩ : ∃ V, ccell bad15 = V := ⟨_, rfl⟩; rw [eb15] at Ab15 lb15 HFb
  have lb16 := ccell_len bad16; obtain ⟨Vb16, eb16⟩ : ∃ V, ccell bad16 = V := ⟨_, rfl⟩; rw [eb16] at Ab16 lb16 HFb
  have lb17 := ccell_len bad17; obtain ⟨Vb17, eb17⟩ : ∃ V, ccell bad17 = V := ⟨_, rfl⟩; rw [eb17] at Ab17 lb17 HFb
  have lb18 := ccell_len bad18; obtain ⟨Vb18, eb18⟩ : ∃ V, ccell bad18 = V := ⟨_, rfl⟩; rw [eb18] at Ab18 lb18 HFb
  have HBb := Lib.hid (fun W => run_bsliceN (P := Try.prog) (n := 19) W 32 31 ti _ 47 Try.underlying32 hin hz0 hz1 rfl [Vb0, Vb1, Vb2, Vb3, Vb4, Vb5, Vb6, Vb7, Vb8, Vb9, Vb10, Vb11, Vb12, Vb13, Vb14, Vb15, Vb16, Vb17, Vb18] (by simp [lb0, lb1, lb2, lb3, lb4, lb5, lb6, lb7, lb8, lb9, lb10, lb11, lb12, lb13, lb14, lb15, lb16, lb17, lb18]) (by decide) (by simp) #[(0, .agg Vb0.toArray), (1, .agg Vb1.toArray), (2, .agg Vb2.toArray), (3, .agg Vb3.toArray), (4, .agg Vb4.toArray), (5, .agg Vb5.toArray), (6, .agg Vb6.toArray), (7, .agg Vb7.toArray), (8, .agg Vb8.toArray), (9, .agg Vb9.toArray), (10, .agg Vb10.toArray), (11, .agg Vb11.toArray), (12, .agg Vb12.toArray), (13, .agg Vb13.toArray), (14, .agg Vb14.toArray), (15, .agg Vb15.toArray), (16, .agg Vb16.toArray), (17, .agg Vb17.toArray), (18, .agg Vb18.toArray)] rfl rfl (by decide))
  clear hDA hDB ef0 lf0 ef2 lf2 ef3 lf3 ef4 lf4 ef5 lf5 eb0 lb0 eb1 lb1 eb2 lb2 eb3 lb3 eb4 lb4 eb5 lb5 eb6 lb6 eb7 lb7 eb8 lb8 eb9 lb9 eb10 lb10 eb11 lb11 eb12 lb12 eb13 lb13 eb14 lb14 eb15 lb15 eb16 lb16 eb17 lb17 eb18 lb18
  go_enter Try.func3, Try.ntmps3
  have hB0 := Below.refl w.heap.size w
  have hs0 := hB0.size
  go_wp2_with fail
  refine (LM _).mono ?_
  rintro e w1 ⟨rfl, hb⟩
  have hB1 : Below w.heap.size w w1 := below_thru hB0 hb
  have hs1 := hB1.size
  clear hB0 hs0
  clear hb
  go_wp2_with (first
    | (refine wpList_build9 rfl 29 _ rfl (us := #[(0, .int .u8 1)]) (by rfl) (dA _) ?_)
    | (refine wpList_build9 rfl 31 _ rfl (us := #[(0, .int .u8 1), (1, .int .u32 15), (3, .agg LV.toArray), (4, .int .u8 1), (5, .int .u8 8), (6, .int .u64 18446744073709551615), (7, .agg DA.toArray)]) (by rfl) (Af0 _) ?_)
    | (refine wpList_build9 rfl 29 _ rfl (us := #[(31, .int .u8 255)]) (by rfl) (dB _) ?_)
    | (refine wpList_build9 rfl 31 _ rfl (us := #[(0, .int .u8 2), (7, .agg DB.toArray)]) (by rfl) (Af1 _) ?_))
  refine (LM _).mono ?_
  rintro e w2 ⟨rfl, hb⟩
  have hB2 : Below w.heap.size w w2 := below_thru hB1 hb
  have hs2 := hB2.size
  clear hB1 hs1
  clear hb
  go_upto_region 2 with (first | (refine wpList_build9 rfl 31 _ rfl (us := #[(0, .int .u8 3), (3, .agg LV.toArray)]) (by rfl) (Af2 _) ?_) | (refine wpList_build9 rfl 31 _ rfl (us := #[(0, .int .u8 4), (6, .int .u64 1)]) (by rfl) (Af3 _) ?_) | (refine wpList_build9 rfl 31 _ rfl (us := #[(0, .int .u8 5), (2, .int .u32 4294967295)]) (by rfl) (Af4 _) ?_) | (refine wpList_build9 rfl 31 _ rfl (us := #[(0, .int .u8 5)]) (by rfl) (Af5 _) ?_) | (refine wpList_bsliceN rfl 32 6 _ rfl (us := #[(0, .agg Vf0.toArray), (1, .agg Vf1.toArray), (2, .agg Vf2.toArray), (3, .agg Vf3.toArray), (4, .agg Vf4.toArray), (5, .agg Vf5.toArray)]) (by rfl) (HBf.out _) ?_))
  refine F_gen (F := fun W => Code.wp _ _ _ _ W) (J := fun W => Box W (w2.heap.size) (flatR LC fineC) ∧ Below w.heap.size w W) (And.intro (Box.newc (by rw [HFf.out]) rfl) (hB2.alloc (by first | exact hs2 | (simp; omega)) _)) ?_
  intro wf ⟨x_fr3, hB3⟩
  clear hB2 hs2
  have hs3 := hB3.size
  clear HBf HFf dB Af0 Af1 Af2 Af3 Af4 Af5
  obtain ⟨bF, hbF⟩ : ∃ b, w2.heap.size = b := ⟨_, rfl⟩; rw [hbF] at x_fr3 ⊢; clear hbF
  obtain ⟨FR, hFR⟩ : ∃ V, flatR LC fineC = V := ⟨_, rfl⟩; rw [hFR] at x_fr3
  go_wp2_with fail
  go_loopw [2] (fun s2 wr => ∃ j : Nat, s2 = .int .i64 j ∧ j ≤ 6 ∧ Below w.heap.size w wr ∧ Box wr (bF) FR) (fun s2 _ => 6 - (intOf s2).toNat)
  case atStart => exact ⟨0, rfl, by omega, hB3, x_fr3⟩
  case round =>
    clear x_fr3 hB3 hs3
    obtain ⟨j, rfl, hj, hBr, hWr⟩ := hrel
    by_cases hlt : j < 6
    · obtain ⟨c, hc⟩ : ∃ c, fineC[j]? = some c := ⟨_, List.getElem?_eq_getElem hlt⟩
      have hok := fineC_ok c (List.mem_of_getElem? hc)
      have DR := Lib.hid (cmd_at hc); rw [hFR] at DR
      have i0 : (0 : Int) ≤ (j : Int) := by omega
      have i1 : (j : Int) < 6 := by omega
      have SC := Lib.hid (size_cmd c); have LCc := fun W => lcmd_is c W
      have ct : (ccell c)[1]? = some (.int .u32 c.t) := rfl
      have WF := fun W => wr_is (Frm.cmd c) (xs := (Frm.cmd c).bs) (q := 0) (Or.inl ⟨rfl, Frm.cmd_ok hok, rfl⟩) W; have TF := fun W => ten_is (Frm.cmd c) (n := c.t) (q := 0) (Or.inl ⟨rfl, Frm.cmd_ok hok, rfl⟩) W; have CK := fun W => chk_is (Frm.cmd c) (q := 0) (Lib.hid (Or.inl ⟨rfl, Frm.cmd_ok hok⟩)) W
      have PA := parse_self9 (Frm.cmd_ok hok); unfold Parses at PA; have A1 := fun W => bef_own c hok W; have HX := Lib.hid (Cmd.msg_len (Cmd.ok_wd hok))
      have HS : Hid ((Frm.cmd c).bs.length = 88) := Lib.hid (by rw [Frm.cmd_bs, List.length_append, HX.out, c.hg])
      have SV := Lib.hid (size_frm (Frm.cmd c)); have LV2 := Lib.hid (len_frm Frm.zero (Frm.cmd c)); have OV := Lib.hid (one_frm (Frm.cmd c)); have EV := fun W => eqm_f2 (Frm.cmd c) W
      obtain ⟨XS, hXS⟩ : ∃ X, (Frm.cmd c).bs = X := ⟨_, rfl⟩; rw [hXS] at WF PA HS; obtain ⟨X, hX⟩ : ∃ X, c.msg = X := ⟨_, rfl⟩; rw [hX] at A1 HX
      obtain ⟨V, hV⟩ : ∃ V, mcell (Frm.cmd c) = V := ⟨_, rfl⟩; rw [hV] at LCc WF TF CK PA SV LV2 OV EV
      obtain ⟨C, hC⟩ : ∃ V, ccell c = V := ⟨_, rfl⟩; rw [hC] at DR SC LCc A1 ct
      obtain ⟨T, hT⟩ : ∃ V, c.t = V := ⟨_, rfl⟩; rw [hT] at ct TF
      clear hXS hX hV hC hT hok hc
      obtain ⟨R, hR⟩ : ∃ R, List.drop ((j + 1) * 47) FR = R := ⟨_, rfl⟩; rw [hR] at DR; clear hR
      have hB0 := Below.refl wr.heap.size wr
      have hs0 := hB0.size
      have x_fr0 : Box wr (bF) (FR) := hWr
      clear hWr
      go_wp2_with (refine wpList_load_rangew rfl _ _ rfl (Box.rangeMid x_fr0 (j * 47) (C) (R) DR.out) rfl Try.underlying31 rfl SC.out ?_)
      refine (LCc _).mono ?_
      rintro e w1 ⟨rfl, hb⟩
      have hB1 : Below wr.heap.size wr w1 := below_thru hB0 hb
      have hs1 := hB1.size
      have x_fr1 : Box w1 (bF) (FR) := Box.below x_fr0 hb
      clear hB0 hs0 x_fr0
      clear hb
      go_wp2_with fail
      refine (WF _).mono ?_
      rintro e w2 ⟨va, rfl, hoa, hb⟩
      clear WF
      have hB2 : Below wr.heap.size wr w2 := below_thru hB1 hb
      have hs2 := hB2.size
      have x_fr2 : Box w2 (bF) (FR) := Box.below x_fr1 hb
      clear hB1 hs1 x_fr1
      clear hb
      obtain ⟨ga, ca, rfl, _, lo_a, hi_a, hbx⟩ := own_box hoa (by rw [HS.out]; decide)
      rw [HS.out] at lo_a ⊢
      clear hoa
      have x_xa2 : Box w2 (ga) (XS.map (Value.int .u8)) := hbx
      clear hbx
      have J_a2 : Hid (IsL w2 .u8 (.slice (some ⟨ga, 0, none⟩) 88 ca) XS) := Lib.hid (IsL.range 88 ca HS.out x_xa2.range (by omega) (by omega))
      go_wp2_with fail
      refine (PA _ _ J_a2.out).mono ?_
      rintro e w3 ⟨rfl, hb⟩
      clear PA
      have hB3 : Below wr.heap.size wr w3 := below_thru hB2 hb
      have hs3 := hB3.size
      have x_fr3 : Box w3 (bF) (FR) := Box.below x_fr2 hb
      have x_xa3 : Box w3 (ga) (XS.map (Value.int .u8)) := Box.below x_xa2 hb
      have J_a3 : Hid (IsL w3 .u8 (.slice (some ⟨ga, 0, none⟩) 88 ca) XS) := Lib.hid (IsL.below J_a2.out hb)
      clear hB2 hs2 x_fr2 x_xa2 J_a2
      clear hb
      clear J_a3
      clear x_xa3
      have d_f_fr := (x_fr3).lt
      have d_f_0 := hs3
      go_upto_region 7 with (refine wpList_store_box (cs := V) rfl _ _ _ rfl (Box.newc (l := mcell Frm.zero) rfl rfl) rfl rfl SV.out LV2.out OV.out ?_; intro W3_0 hW3_0)
      have hN : Below w3.heap.size w3 W3_0 := (hW3_0.below _ _ (by omega) ((Below.refl _ w3).alloc (Nat.le_refl _) _))
      have x_f4 : Box W3_0 (w3.heap.size) (V) := hW3_0.box
      have hB4 : Below wr.heap.size wr W3_0 := below_thru hB3 hN
      have hs4 := hB4.size
      have x_fr4 : Box W3_0 (bF) (FR) := Box.below x_fr3 hN
      clear hB3 hs3 x_fr3
      clear hN hW3_0
      go_wp2_with (refine wpList_load_rangew rfl _ _ rfl (Box.rangeMid x_fr4 (j * 47) (C) (R) DR.out) rfl Try.underlying31 rfl SC.out ?_)
      refine (A1 _).mono ?_
      rintro e w5 ⟨va, rfl, hoa, hb⟩
      clear A1
      have hB5 : Below wr.heap.size wr w5 := below_thru hB4 hb
      have hs5 := hB5.size
      have x_fr5 : Box w5 (bF) (FR) := Box.below x_fr4 hb
      have x_f5 : Box w5 (w3.heap.size) (V) := Box.below x_f4 hb
      clear hB4 hs4 x_fr4 x_f4
      clear hb
      obtain ⟨gm, cm, rfl, _, lo_m, hi_m, hbx⟩ := own_box hoa (by rw [HX.out]; decide)
      rw [HX.out] at lo_m ⊢
      clear hoa
      clear hbx
      go_wp2_with (refine wpList_load_box9 rfl _ _ rfl x_f5 rfl Try.underlying43 rfl SV.out ?_)
      refine (TF _).mono ?_
      rintro e w6 ⟨rfl, hb⟩
      clear TF
      have hB6 : Below wr.heap.size wr w6 := below_thru hB5 hb
      have hs6 := hB6.size
      have x_fr6 : Box w6 (bF) (FR) := Box.below x_fr5 hb
      have x_f6 : Box w6 (w3.heap.size) (V) := Box.below x_f5 hb
      clear hB5 hs5 x_fr5 x_f5
      clear hb
      go_upto_region 9 with fail
      have rg := Box.rangeMid x_fr6 (j * 47) C R DR.out; have rt := rg 1 _ ct
      refine wp_region_held_drew (S := fun W => Box W (bF) (FR) ∧ Box W (w3.heap.size) (V) ∧ W.cell? ⟨bF, j * 47 + 1, none⟩ = some (.int .u32 T) ∧ W.rangeAt (bF) (j * 47) (C)) (by kernel_rfl) (And.intro (x_fr6).drew (And.intro (x_f6).drew (And.intro rt rg))) (fun _ => ?_)
      refine F_drew (F := fun W => wpAnyH _ _ _ _ _ _ _ _ W) ?_
      intro Wa0 hba0
      clear hs6
      have x_fr_a0 : Box Wa0 (bF) (FR) := Box.below x_fr6 hba0
      have x_f_a0 : Box Wa0 (w3.heap.size) (V) := Box.below x_f6 hba0
      have c_ct_a0 := cell_below hba0 rt
      have c_el_a0 := range_below rg hba0
      have Ba0 := below_thru hB6 hba0
      clear x_fr6 x_f6 rt rg hB6 hba0
      refine takeH 0 81 (v := ?va0_1) rfl (by rfl) (by kernel_rfl) (by kernel_rfl) (by kernel_rfl) (fun _ _ _ h => h) (Or.inl ⟨by rfl, ?_⟩) ((And.intro x_fr_a0 (And.intro x_f_a0 (And.intro c_ct_a0 c_el_a0)))) ?_
      rotate_left
      · intro wq hSq
        go_simp
        exact rfl
      try simp only [Act.put, List.setIfInBounds_toArray, List.set_cons_zero, List.set_cons_succ]
      refine takeH 1 82 (v := ?va1_2) rfl (by rfl) (by kernel_rfl) (by kernel_rfl) (by kernel_rfl) (fun _ _ _ h => h) (Or.inl ⟨by rfl, ?_⟩) ((And.intro x_fr_a0 (And.intro x_f_a0 (And.intro c_ct_a0 c_el_a0)))) ?_
      rotate_left
      · intro wq hSq
        go_simp
        exact rfl
      try simp only [Act.put, List.setIfInBounds_toArray, List.set_cons_zero, List.set_cons_succ]
      refine takeH 2 83 (v := ?va2_3) rfl (by rfl) (by kernel_rfl) (by kernel_rfl) (by kernel_rfl) (fun _ _ _ h => h) (Or.inl ⟨by rfl, ?_⟩) ((And.intro x_fr_a0 (And.intro x_f_a0 (And.intro c_ct_a0 c_el_a0)))) ?_
      rotate_left
      · intro wq hSq
        go_simp
        exact rfl
      try simp only [Act.put, List.setIfInBounds_toArray, List.set_cons_zero, List.set_cons_succ]
      refine takeH 3 84 (v := .agg (C).toArray) rfl (by rfl) (by kernel_rfl) (by kernel_rfl) (by kernel_rfl) (fun _ _ _ h => h) (yieldsIf_load_mid (by rfl) _ _ rfl _ _ rfl (C) _ (fun wq hq => hq.2.2.2) Try.underlying31 rfl SC.out) ((And.intro x_fr_a0 (And.intro x_f_a0 (And.intro c_ct_a0 c_el_a0)))) ?_
      try simp only [Act.put, List.setIfInBounds_toArray, List.set_cons_zero, List.set_cons_succ]
      refine wpAnyH_ready (rs := [4]) (by kernel_rfl) (by simp) (AllReadyH.cons rfl (fun K hK => ?_) AllReadyH.nil)
      go_simp
      refine (LCc _).mono ?_
      rintro e Wa4 ⟨rfl, hba4⟩
      have x_fr_a4 : Box Wa4 (bF) (FR) := Box.below x_fr_a0 hba4
      have x_f_a4 : Box Wa4 (w3.heap.size) (V) := Box.below x_f_a0 hba4
      have c_ct_a4 := cell_below hba4 c_ct_a0
      have c_el_a4 := range_below c_el_a0 hba4
      have Ba4 := below_thru Ba0 hba4
      clear x_fr_a0 x_f_a0 c_ct_a0 c_el_a0 Ba0 hba4
      refine hK.out _ _ (And.intro x_fr_a4 (And.intro x_f_a4 (And.intro c_ct_a4 c_el_a4))) (fun _ => ?_); clear hK K
      refine wpAnyH_ready (rs := [5]) (by kernel_rfl) (by simp) (AllReadyH.cons rfl (fun K hK => ?_) AllReadyH.nil)
      go_simp
      refine (CK _).mono ?_
      rintro e Wa5 ⟨rfl, hba5⟩
      have x_fr_a5 : Box Wa5 (bF) (FR) := Box.below x_fr_a4 hba5
      have x_f_a5 : Box Wa5 (w3.heap.size) (V) := Box.below x_f_a4 hba5
      have c_ct_a5 := cell_below hba5 c_ct_a4
      have c_el_a5 := range_below c_el_a4 hba5
      have Ba5 := below_thru Ba4 hba5
      clear x_fr_a4 x_f_a4 c_ct_a4 c_el_a4 Ba4 hba5
      refine hK.out _ _ (And.intro x_fr_a5 (And.intro x_f_a5 (And.intro c_ct_a5 c_el_a5))) (fun _ => ?_); clear hK K
      refine takeH 6 87 (v := ?va6_6) rfl (by rfl) (by kernel_rfl) (by kernel_rfl) (by kernel_rfl) (fun _ _ _ h => h) (Or.inl ⟨by rfl, ?_⟩) ((And.intro x_fr_a5 (And.intro x_f_a5 (And.intro c_ct_a5 c_el_a5)))) ?_
      rotate_left
      · intro wq hSq
        go_simp
        exact rfl
      try simp only [Act.put, List.setIfInBounds_toArray, List.set_cons_zero, List.set_cons_succ]
      refine takeH 7 88 (v := ?va7_7) rfl (by rfl) (by kernel_rfl) (by kernel_rfl) (by kernel_rfl) (fun _ _ _ h => h) (Or.inl ⟨by rfl, ?_⟩) ((And.intro x_fr_a5 (And.intro x_f_a5 (And.intro c_ct_a5 c_el_a5)))) ?_
      rotate_left
      · intro wq hSq
        go_simp
        exact rfl
      try simp only [Act.put, List.setIfInBounds_toArray, List.set_cons_zero, List.set_cons_succ]
      refine takeH 8 89 (v := ?va8_8) rfl (by rfl) (by kernel_rfl) (by kernel_rfl) (by kernel_rfl) (fun _ _ _ h => h) (Or.inl ⟨by rfl, ?_⟩) ((And.intro x_fr_a5 (And.intro x_f_a5 (And.intro c_ct_a5 c_el_a5)))) ?_
      rotate_left
      · intro wq hSq
        go_simp
        exact rfl
      try simp only [Act.put, List.setIfInBounds_toArray, List.set_cons_zero, List.set_cons_succ]
      refine takeH 9 90 (v := ?va9_9) rfl (by rfl) (by kernel_rfl) (by kernel_rfl) (by kernel_rfl) (fun _ _ _ h => h) (Or.inl ⟨by rfl, ?_⟩) ((And.intro x_fr_a5 (And.intro x_f_a5 (And.intro c_ct_a5 c_el_a5)))) ?_
      rotate_left
      · intro wq hSq
        go_simp
        exact rfl
      try simp only [Act.put, List.setIfInBounds_toArray, List.set_cons_zero, List.set_cons_succ]
      refine takeH 10 91 (v := ?va10_10) rfl (by rfl) (by kernel_rfl) (by kernel_rfl) (by kernel_rfl) (fun _ _ _ h => h) (Or.inl ⟨by rfl, ?_⟩) ((And.intro x_fr_a5 (And.intro x_f_a5 (And.intro c_ct_a5 c_el_a5)))) ?_
      rotate_left
      · intro wq hSq
        go_simp
        exact rfl
      try simp only [Act.put, List.setIfInBounds_toArray, List.set_cons_zero, List.set_cons_succ]
      refine takeH 11 92 (v := ?va11_11) rfl (by rfl) (by kernel_rfl) (by kernel_rfl) (by kernel_rfl) (fun _ _ _ h => h) (Or.inl ⟨by rfl, ?_⟩) ((And.intro x_fr_a5 (And.intro x_f_a5 (And.intro c_ct_a5 c_el_a5)))) ?_
      rotate_left
      · intro wq hSq
        go_simp
        exact rfl
      try simp only [Act.put, List.setIfInBounds_toArray, List.set_cons_zero, List.set_cons_succ]
      refine takeH 12 93 (v := ?va12_12) rfl (by rfl) (by kernel_rfl) (by kernel_rfl) (by kernel_rfl) (fun _ _ _ h => h) (Or.inl ⟨by rfl, ?_⟩) ((And.intro x_fr_a5 (And.intro x_f_a5 (And.intro c_ct_a5 c_el_a5)))) ?_
      rotate_left
      · intro wq hSq
        go_simp
        exact rfl
      try simp only [Act.put, List.setIfInBounds_toArray, List.set_cons_zero, List.set_cons_succ]
      refine takeH 13 94 (v := ?va13_13) rfl (by rfl) (by kernel_rfl) (by kernel_rfl) (by kernel_rfl) (fun _ _ _ h => h) (Or.inl ⟨by rfl, ?_⟩) ((And.intro x_fr_a5 (And.intro x_f_a5 (And.intro c_ct_a5 c_el_a5)))) ?_
      rotate_left
      · intro wq hSq
        go_simp
        exact rfl
      try simp only [Act.put, List.setIfInBounds_toArray, List.set_cons_zero, List.set_cons_succ]
      refine takeH 14 95 (v := ?va14_14) rfl (by rfl) (by kernel_rfl) (by kernel_rfl) (by kernel_rfl) (fun _ _ _ h => h) (Or.inl ⟨by rfl, ?_⟩) ((And.intro x_fr_a5 (And.intro x_f_a5 (And.intro c_ct_a5 c_el_a5)))) ?_
      rotate_left
      · intro wq hSq
        go_simp
        exact rfl
      try simp only [Act.put, List.setIfInBounds_toArray, List.set_cons_zero, List.set_cons_succ]
      refine takeH 15 96 (v := ?va15_15) rfl (by rfl) (by kernel_rfl) (by kernel_rfl) (by kernel_rfl) (fun _ _ _ h => h) (Or.inl ⟨by rfl, ?_⟩) ((And.intro x_fr_a5 (And.intro x_f_a5 (And.intro c_ct_a5 c_el_a5)))) ?_
      rotate_left
      · intro wq hSq
        go_simp
        exact rfl
      try simp only [Act.put, List.setIfInBounds_toArray, List.set_cons_zero, List.set_cons_succ]
      refine takeH 16 97 (v := ?va16_16) rfl (by rfl) (by kernel_rfl) (by kernel_rfl) (by kernel_rfl) (fun _ _ _ h => h) (Or.inl ⟨by rfl, ?_⟩) ((And.intro x_fr_a5 (And.intro x_f_a5 (And.intro c_ct_a5 c_el_a5)))) ?_
      rotate_left
      · intro wq hSq
        go_simp
        exact rfl
      try simp only [Act.put, List.setIfInBounds_toArray, List.set_cons_zero, List.set_cons_succ]
      refine takeH 17 98 (v := ?va17_17) rfl (by rfl) (by kernel_rfl) (by kernel_rfl) (by kernel_rfl) (fun _ _ _ h => h) (Or.inl ⟨by rfl, ?_⟩) ((And.intro x_fr_a5 (And.intro x_f_a5 (And.intro c_ct_a5 c_el_a5)))) ?_
      rotate_left
      · intro wq hSq
        go_simp
        exact rfl
      try simp only [Act.put, List.setIfInBounds_toArray, List.set_cons_zero, List.set_cons_succ]
      refine takeH 18 99 (v := ?va18_18) rfl (by rfl) (by kernel_rfl) (by kernel_rfl) (by kernel_rfl) (fun _ _ _ h => h) (Or.inl ⟨by rfl, ?_⟩) ((And.intro x_fr_a5 (And.intro x_f_a5 (And.intro c_ct_a5 c_el_a5)))) ?_
      rotate_left
      · intro wq hSq
        go_simp
        exact rfl
      try simp only [Act.put, List.setIfInBounds_toArray, List.set_cons_zero, List.set_cons_succ]
      refine takeH 19 100 (v := ?va19_19) rfl (by rfl) (by kernel_rfl) (by kernel_rfl) (by kernel_rfl) (fun _ _ _ h => h) (Or.inl ⟨by rfl, ?_⟩) ((And.intro x_fr_a5 (And.intro x_f_a5 (And.intro c_ct_a5 c_el_a5)))) ?_
      rotate_left
      · intro wq hSq
        go_simp
        exact rfl
      try simp only [Act.put, List.setIfInBounds_toArray, List.set_cons_zero, List.set_cons_succ]
      refine takeH 20 101 (v := ?va20_20) rfl (by rfl) (by kernel_rfl) (by kernel_rfl) (by kernel_rfl) (fun _ _ _ h => h) (Or.inl ⟨by rfl, ?_⟩) ((And.intro x_fr_a5 (And.intro x_f_a5 (And.intro c_ct_a5 c_el_a5)))) ?_
      rotate_left
      · intro wq hSq
        go_simp
        exact rfl
      try simp only [Act.put, List.setIfInBounds_toArray, List.set_cons_zero, List.set_cons_succ]
      refine takeH 22 103 (v := ?va22_21) rfl (by rfl) (by kernel_rfl) (by kernel_rfl) (by kernel_rfl) (fun _ _ _ h => h) (Or.inl ⟨by rfl, ?_⟩) ((And.intro x_fr_a5 (And.intro x_f_a5 (And.intro c_ct_a5 c_el_a5)))) ?_
      rotate_left
      · intro wq hSq
        go_simp
        exact rfl
      try simp only [Act.put, List.setIfInBounds_toArray, List.set_cons_zero, List.set_cons_succ]
      refine takeH 23 104 (v := ?va23_22) rfl (by rfl) (by kernel_rfl) (by kernel_rfl) (by kernel_rfl) (fun _ _ _ h => h) (Or.inl ⟨by rfl, ?_⟩) ((And.intro x_fr_a5 (And.intro x_f_a5 (And.intro c_ct_a5 c_el_a5)))) ?_
      rotate_left
      · intro wq hSq
        go_simp
        exact rfl
      try simp only [Act.put, List.setIfInBounds_toArray, List.set_cons_zero, List.set_cons_succ]
      refine takeH 24 105 (v := ?va24_23) rfl (by rfl) (by kernel_rfl) (by kernel_rfl) (by kernel_rfl) (fun _ _ _ h => h) (Or.inl ⟨by rfl, ?_⟩) ((And.intro x_fr_a5 (And.intro x_f_a5 (And.intro c_ct_a5 c_el_a5)))) ?_
      rotate_left
      · intro wq hSq
        go_simp
        exact rfl
      try simp only [Act.put, List.setIfInBounds_toArray, List.set_cons_zero, List.set_cons_succ]
      refine takeH 21 102 (v := .agg (V).toArray) rfl (by rfl) (by kernel_rfl) (by kernel_rfl) (by kernel_rfl) (fun _ _ _ h => h) (yieldsIf_load_mid (by rfl) _ _ rfl _ _ rfl (V) _ (fun wq hq => Box.range (hq.2.1)) Try.underlying43 rfl SV.out) ((And.intro x_fr_a5 (And.intro x_f_a5 (And.intro c_ct_a5 c_el_a5)))) ?_
      try simp only [Act.put, List.setIfInBounds_toArray, List.set_cons_zero, List.set_cons_succ]
      refine takeH 25 106 (v := .agg (C).toArray) rfl (by rfl) (by kernel_rfl) (by kernel_rfl) (by kernel_rfl) (fun _ _ _ h => h) (yieldsIf_load_mid (by rfl) _ _ rfl _ _ rfl (C) _ (fun wq hq => hq.2.2.2) Try.underlying31 rfl SC.out) ((And.intro x_fr_a5 (And.intro x_f_a5 (And.intro c_ct_a5 c_el_a5)))) ?_
      try simp only [Act.put, List.setIfInBounds_toArray, List.set_cons_zero, List.set_cons_succ]
      refine wpAnyH_ready (rs := [26]) (by kernel_rfl) (by simp) (AllReadyH.cons rfl (fun K hK => ?_) AllReadyH.nil)
      go_simp
      refine (LCc _).mono ?_
      rintro e Wa24 ⟨rfl, hba24⟩
      have x_fr_a24 : Box Wa24 (bF) (FR) := Box.below x_fr_a5 hba24
      have x_f_a24 : Box Wa24 (w3.heap.size) (V) := Box.below x_f_a5 hba24
      have c_ct_a24 := cell_below hba24 c_ct_a5
      have c_el_a24 := range_below c_el_a5 hba24
      have Ba24 := below_thru Ba5 hba24
      clear x_fr_a5 x_f_a5 c_ct_a5 c_el_a5 Ba5 hba24
      refine hK.out _ _ (And.intro x_fr_a24 (And.intro x_f_a24 (And.intro c_ct_a24 c_el_a24))) (fun _ => ?_); clear hK K
      refine takeH 27 108 (v := ?va27_25) rfl (by rfl) (by kernel_rfl) (by kernel_rfl) (by kernel_rfl) (fun _ _ _ h => h) (Or.inl ⟨by rfl, ?_⟩) ((And.intro x_fr_a24 (And.intro x_f_a24 (And.intro c_ct_a24 c_el_a24)))) ?_
      rotate_left
      · intro wq hSq
        go_simp
        exact rfl
      try simp only [Act.put, List.setIfInBounds_toArray, List.set_cons_zero, List.set_cons_succ]
      refine takeH 28 109 (v := ?va28_26) rfl (by rfl) (by kernel_rfl) (by kernel_rfl) (by kernel_rfl) (fun _ _ _ h => h) (Or.inl ⟨by rfl, ?_⟩) ((And.intro x_fr_a24 (And.intro x_f_a24 (And.intro c_ct_a24 c_el_a24)))) ?_
      rotate_left
      · intro wq hSq
        go_simp
        exact rfl
      try simp only [Act.put, List.setIfInBounds_toArray, List.set_cons_zero, List.set_cons_succ]
      refine takeH 29 110 (v := ?va29_27) rfl (by rfl) (by kernel_rfl) (by kernel_rfl) (by kernel_rfl) (fun _ _ _ h => h) (Or.inl ⟨by rfl, ?_⟩) ((And.intro x_fr_a24 (And.intro x_f_a24 (And.intro c_ct_a24 c_el_a24)))) ?_
      rotate_left
      · intro wq hSq
        go_simp
        exact rfl
      try simp only [Act.put, List.setIfInBounds_toArray, List.set_cons_zero, List.set_cons_succ]
      refine takeH 30 111 (v := ?va30_28) rfl (by rfl) (by kernel_rfl) (by kernel_rfl) (by kernel_rfl) (fun _ _ _ h => h) (Or.inl ⟨by rfl, ?_⟩) ((And.intro x_fr_a24 (And.intro x_f_a24 (And.intro c_ct_a24 c_el_a24)))) ?_
      rotate_left
      · intro wq hSq
        go_simp
        exact rfl
      try simp only [Act.put, List.setIfInBounds_toArray, List.set_cons_zero, List.set_cons_succ]
      refine takeH 31 112 (v := ?va31_29) rfl (by rfl) (by kernel_rfl) (by kernel_rfl) (by kernel_rfl) (fun _ _ _ h => h) (Or.inl ⟨by rfl, ?_⟩) ((And.intro x_fr_a24 (And.intro x_f_a24 (And.intro c_ct_a24 c_el_a24)))) ?_
      rotate_left
      · intro wq hSq
        go_simp
        exact rfl
      try simp only [Act.put, List.setIfInBounds_toArray, List.set_cons_zero, List.set_cons_succ]
      refine takeH 32 113 (v := ?va32_30) rfl (by rfl) (by kernel_rfl) (by kernel_rfl) (by kernel_rfl) (fun _ _ _ h => h) (Or.inl ⟨by rfl, ?_⟩) ((And.intro x_fr_a24 (And.intro x_f_a24 (And.intro c_ct_a24 c_el_a24)))) ?_
      rotate_left
      · intro wq hSq
        go_simp
        exact rfl
      try simp only [Act.put, List.setIfInBounds_toArray, List.set_cons_zero, List.set_cons_succ]
      refine takeH 33 114 (v := ?va33_31) rfl (by rfl) (by kernel_rfl) (by kernel_rfl) (by kernel_rfl) (fun _ _ _ h => h) (Or.inl ⟨by rfl, ?_⟩) ((And.intro x_fr_a24 (And.intro x_f_a24 (And.intro c_ct_a24 c_el_a24)))) ?_
      rotate_left
      · intro wq hSq
        go_simp
        exact rfl
      try simp only [Act.put, List.setIfInBounds_toArray, List.set_cons_zero, List.set_cons_succ]
      refine takeH 34 115 (v := ?va34_32) rfl (by rfl) (by kernel_rfl) (by kernel_rfl) (by kernel_rfl) (fun _ _ _ h => h) (Or.inl ⟨by rfl, ?_⟩) ((And.intro x_fr_a24 (And.intro x_f_a24 (And.intro c_ct_a24 c_el_a24)))) ?_
      rotate_left
      · intro wq hSq
        go_simp
        exact rfl
      try simp only [Act.put, List.setIfInBounds_toArray, List.set_cons_zero, List.set_cons_succ]
      refine takeH 35 116 (v := ?va35_33) rfl (by rfl) (by kernel_rfl) (by kernel_rfl) (by kernel_rfl) (fun _ _ _ h => h) (Or.inl ⟨by rfl, ?_⟩) ((And.intro x_fr_a24 (And.intro x_f_a24 (And.intro c_ct_a24 c_el_a24)))) ?_
      rotate_left
      · intro wq hSq
        go_simp
        exact rfl
      try simp only [Act.put, List.setIfInBounds_toArray, List.set_cons_zero, List.set_cons_succ]
      refine takeH 36 117 (v := ?va36_34) rfl (by rfl) (by kernel_rfl) (by kernel_rfl) (by kernel_rfl) (fun _ _ _ h => h) (Or.inl ⟨by rfl, ?_⟩) ((And.intro x_fr_a24 (And.intro x_f_a24 (And.intro c_ct_a24 c_el_a24)))) ?_
      rotate_left
      · intro wq hSq
        go_simp
        exact rfl
      try simp only [Act.put, List.setIfInBounds_toArray, List.set_cons_zero, List.set_cons_succ]
      refine takeH 37 118 (v := ?va37_35) rfl (by rfl) (by kernel_rfl) (by kernel_rfl) (by kernel_rfl) (fun _ _ _ h => h) (Or.inl ⟨by rfl, ?_⟩) ((And.intro x_fr_a24 (And.intro x_f_a24 (And.intro c_ct_a24 c_el_a24)))) ?_
      rotate_left
      · intro wq hSq
        go_simp
        exact rfl
      try simp only [Act.put, List.setIfInBounds_toArray, List.set_cons_zero, List.set_cons_succ]
      refine takeH 38 119 (v := ?va38_36) rfl (by rfl) (by kernel_rfl) (by kernel_rfl) (by kernel_rfl) (fun _ _ _ h => h) (Or.inl ⟨by rfl, ?_⟩) ((And.intro x_fr_a24 (And.intro x_f_a24 (And.intro c_ct_a24 c_el_a24)))) ?_
      rotate_left
      · intro wq hSq
        go_simp
        exact rfl
      try simp only [Act.put, List.setIfInBounds_toArray, List.set_cons_zero, List.set_cons_succ]
      refine takeH 39 120 (v := ?va39_37) rfl (by rfl) (by kernel_rfl) (by kernel_rfl) (by kernel_rfl) (fun _ _ _ h => h) (Or.inl ⟨by rfl, ?_⟩) ((And.intro x_fr_a24 (And.intro x_f_a24 (And.intro c_ct_a24 c_el_a24)))) ?_
      rotate_left
      · intro wq hSq
        go_simp
        exact rfl
      try simp only [Act.put, List.setIfInBounds_toArray, List.set_cons_zero, List.set_cons_succ]
      refine takeH 40 121 (v := ?va40_38) rfl (by rfl) (by kernel_rfl) (by kernel_rfl) (by kernel_rfl) (fun _ _ _ h => h) (Or.inl ⟨by rfl, ?_⟩) ((And.intro x_fr_a24 (And.intro x_f_a24 (And.intro c_ct_a24 c_el_a24)))) ?_
      rotate_left
      · intro wq hSq
        go_simp
        exact rfl
      try simp only [Act.put, List.setIfInBounds_toArray, List.set_cons_zero, List.set_cons_succ]
      refine takeH 41 122 (v := ?va41_39) rfl (by rfl) (by kernel_rfl) (by kernel_rfl) (by kernel_rfl) (fun _ _ _ h => h) (Or.inl ⟨by rfl, ?_⟩) ((And.intro x_fr_a24 (And.intro x_f_a24 (And.intro c_ct_a24 c_el_a24)))) ?_
      rotate_left
      · intro wq hSq
        go_simp
        exact rfl
      try simp only [Act.put, List.setIfInBounds_toArray, List.set_cons_zero, List.set_cons_succ]
      refine takeH 42 123 (v := ?va42_40) rfl (by rfl) (by kernel_rfl) (by kernel_rfl) (by kernel_rfl) (fun _ _ _ h => h) (Or.inl ⟨by rfl, ?_⟩) ((And.intro x_fr_a24 (And.intro x_f_a24 (And.intro c_ct_a24 c_el_a24)))) ?_
      rotate_left
      · intro wq hSq
        go_simp
        exact rfl
      try simp only [Act.put, List.setIfInBounds_toArray, List.set_cons_zero, List.set_cons_succ]
      refine takeH 43 124 (v := ?va43_41) rfl (by rfl) (by kernel_rfl) (by kernel_rfl) (by kernel_rfl) (fun _ _ _ h => h) (Or.inl ⟨by rfl, ?_⟩) ((And.intro x_fr_a24 (And.intro x_f_a24 (And.intro c_ct_a24 c_el_a24)))) ?_
      rotate_left
      · intro wq hSq
        go_simp
        exact rfl
      try simp only [Act.put, List.setIfInBounds_toArray, List.set_cons_zero, List.set_cons_succ]
      refine takeH 44 125 (v := ?va44_42) rfl (by rfl) (by kernel_rfl) (by kernel_rfl) (by kernel_rfl) (fun _ _ _ h => h) (Or.inl ⟨by rfl, ?_⟩) ((And.intro x_fr_a24 (And.intro x_f_a24 (And.intro c_ct_a24 c_el_a24)))) ?_
      rotate_left
      · intro wq hSq
        go_simp
        exact rfl
      try simp only [Act.put, List.setIfInBounds_toArray, List.set_cons_zero, List.set_cons_succ]
      refine takeH 45 126 (v := ?va45_43) rfl (by rfl) (by kernel_rfl) (by kernel_rfl) (by kernel_rfl) (fun _ _ _ h => h) (Or.inl ⟨by rfl, ?_⟩) ((And.intro x_fr_a24 (And.intro x_f_a24 (And.intro c_ct_a24 c_el_a24)))) ?_
      rotate_left
      · intro wq hSq
        go_simp
        exact rfl
      try simp only [Act.put, List.setIfInBounds_toArray, List.set_cons_zero, List.set_cons_succ]
      refine takeH 46 127 (v := ?va46_44) rfl (by rfl) (by kernel_rfl) (by kernel_rfl) (by kernel_rfl) (fun _ _ _ h => h) (Or.inl ⟨by rfl, ?_⟩) ((And.intro x_fr_a24 (And.intro x_f_a24 (And.intro c_ct_a24 c_el_a24)))) ?_
      rotate_left
      · intro wq hSq
        go_simp
        exact rfl
      try simp only [Act.put, List.setIfInBounds_toArray, List.set_cons_zero, List.set_cons_succ]
      refine takeH 47 128 (v := ?va47_45) rfl (by rfl) (by kernel_rfl) (by kernel_rfl) (by kernel_rfl) (fun _ _ _ h => h) (Or.inl ⟨by rfl, ?_⟩) ((And.intro x_fr_a24 (And.intro x_f_a24 (And.intro c_ct_a24 c_el_a24)))) ?_
      rotate_left
      · intro wq hSq
        go_simp
        exact rfl
      try simp only [Act.put, List.setIfInBounds_toArray, List.set_cons_zero, List.set_cons_succ]
      refine takeH 48 129 (v := ?va48_46) rfl (by rfl) (by kernel_rfl) (by kernel_rfl) (by kernel_rfl) (fun _ _ _ h => h) (Or.inl ⟨by rfl, ?_⟩) ((And.intro x_fr_a24 (And.intro x_f_a24 (And.intro c_ct_a24 c_el_a24)))) ?_
      rotate_left
      · intro wq hSq
        have cq := hSq.2.2.1
        have zq := lt_of_cell cq
        go_simp
        exact rfl
      try simp only [Act.put, List.setIfInBounds_toArray, List.set_cons_zero, List.set_cons_succ]
      refine takeH 49 130 (v := ?va49_47) rfl (by rfl) (by kernel_rfl) (by kernel_rfl) (by kernel_rfl) (fun _ _ _ h => h) (Or.inl ⟨by rfl, ?_⟩) ((And.intro x_fr_a24 (And.intro x_f_a24 (And.intro c_ct_a24 c_el_a24)))) ?_
      rotate_left
      · intro wq hSq
        go_simp
        exact rfl
      try simp only [Act.put, List.setIfInBounds_toArray, List.set_cons_zero, List.set_cons_succ]
      refine takeH 50 131 (v := ?va50_48) rfl (by rfl) (by kernel_rfl) (by kernel_rfl) (by kernel_rfl) (fun _ _ _ h => h) (Or.inl ⟨by rfl, ?_⟩) ((And.intro x_fr_a24 (And.intro x_f_a24 (And.intro c_ct_a24 c_el_a24)))) ?_
      rotate_left
      · intro wq hSq
        go_simp
        exact rfl
      try simp only [Act.put, List.setIfInBounds_toArray, List.set_cons_zero, List.set_cons_succ]
      refine wpAnyH_done (by kernel_rfl) ?_ _
      have hBn := below_thru hBr Ba24
      clear c_el_a24 c_ct_a24 x_f_a24
      go_wp2_with fail
      go_roundw
      case rel => exact ⟨j + 1, by go_num, by omega, hBn, x_fr_a24⟩
      case measure => simp [intOf]; omega
    · obtain rfl : j = 6 := by omega
      clear hlt hj
      have hB4 := hBr; have hs4 := hB4.size; have x_fr4 := hWr; clear hBr hWr
      have SA : Hid ((Try.prog.info? 25).map (·.size) = some LV.length) := Lib.hid (by rw [← hLV]; exact sizeA9); have LA : Hid (zero9A.length = LV.length) := Lib.hid (by rw [← hLV]; rfl); have OA : Hid (LV.toArray.all (·.oneCell') = true) := Lib.hid (by rw [← hLV]; exact limsV_one)
      have LZ : Hid (LO = LV.set 8 (.int .i64 0)) := Lib.hid (by rw [← hLV, ← hLO]; exact limsO_c); have NV : Hid (LV.length = 9) := Lib.hid (by rw [← hLV]; rfl); have SLO : Hid ((Try.prog.info? 25).map (·.size) = some LO.length) := Lib.hid (by rw [← hLO]; exact sizeA9)
      go_wp2_with fail
      refine (LM _).mono ?_
      rintro e w5 ⟨rfl, hb⟩
      have hB5 : Below w.heap.size w w5 := below_thru hB4 hb
      have hs5 := hB5.size
      have x_fr5 : Box w5 (bF) (FR) := Box.below x_fr4 hb
      clear hB4 hs4 x_fr4
      clear hb
      have d_one_fr := (x_fr5).lt
      have d_one_0 := hs5
      go_upto_region 12 with (refine wpList_store_box (cs := LV) rfl _ _ _ rfl (Box.newc (l := zero9A) rfl rfl) rfl rfl SA.out LA.out OA.out ?_; intro W5_0 hW5_0)
      have hN : Below w5.heap.size w5 W5_0 := (hW5_0.below _ _ (by omega) ((Below.refl _ w5).alloc (Nat.le_refl _) _))
      have x_one6 : Box W5_0 (w5.heap.size) (LV) := hW5_0.box
      have hB6 : Below w.heap.size w W5_0 := below_thru hB5 hN
      have hs6 := hB6.size
      have x_fr6 : Box W5_0 (bF) (FR) := Box.below x_fr5 hN
      clear hB5 hs5 x_fr5
      clear hN hW5_0
      have lq_fr := (x_fr6).lt
      have lq_one := (x_one6).lt
      go_upto_region 13 with (first | (refine wpList_store_cell (k := 8) (ws := LO) (v := .int .i64 0) rfl _ _ _ rfl x_one6 rfl rfl rfl rfl size_i64n (by rw [NV.out]; decide) LZ.out ?_; intro S6_0 hS6_0))
      have x_fr7 : Box S6_0 (bF) (FR) := (hS6_0.past _ _ (by omega) x_fr6)
      have x_one7 := hS6_0.box
      have hB7 := (hS6_0.below _ _ (by omega) hB6); have hs7 := hB7.size
      clear x_fr6 x_one6 hB6 hs6 lq_fr lq_one
      clear hS6_0
      refine wp_region_held_drew (S := fun W => Box W (bF) (FR) ∧ Box W (w5.heap.size) (LO)) (by kernel_rfl) (And.intro (x_fr7).drew (x_one7).drew) (fun _ => ?_)
      refine F_drew (F := fun W => wpAnyH _ _ _ _ _ _ _ _ W) ?_
      intro Wb0 hbb0
      clear hs7
      have x_fr_b0 : Box Wb0 (bF) (FR) := Box.below x_fr7 hbb0
      have x_one_b0 : Box Wb0 (w5.heap.size) (LO) := Box.below x_one7 hbb0
      have Bb0 := below_thru hB7 hbb0
      clear x_fr7 x_one7 hB7 hbb0
      refine takeH 0 135 (v := .agg Vb0.toArray) rfl (by rfl) (by kernel_rfl) (by kernel_rfl) (by kernel_rfl) (fun _ _ _ h => h) (yieldsIf_build (by rfl) _ _ rfl (us := #[]) (by rfl) (Ab0)) ((And.intro x_fr_b0 x_one_b0)) ?_
      try simp only [Act.put, List.setIfInBounds_toArray, List.set_cons_zero, List.set_cons_succ]
      refine takeH 1 136 (v := .agg Vb1.toArray) rfl (by rfl) (by kernel_rfl) (by kernel_rfl) (by kernel_rfl) (fun _ _ _ h => h) (yieldsIf_build (by rfl) _ _ rfl (us := #[(0, .int .u8 6)]) (by rfl) (Ab1)) ((And.intro x_fr_b0 x_one_b0)) ?_
      try simp only [Act.put, List.setIfInBounds_toArray, List.set_cons_zero, List.set_cons_succ]
      refine takeH 2 137 (v := .agg Vb2.toArray) rfl (by rfl) (by kernel_rfl) (by kernel_rfl) (by kernel_rfl) (fun _ _ _ h => h) (yieldsIf_build (by rfl) _ _ rfl (us := #[(0, .int .u8 255)]) (by rfl) (Ab2)) ((And.intro x_fr_b0 x_one_b0)) ?_
      try simp only [Act.put, List.setIfInBounds_toArray, List.set_cons_zero, List.set_cons_succ]
      refine takeH 3 138 (v := .agg Vb3.toArray) rfl (by rfl) (by kernel_rfl) (by kernel_rfl) (by kernel_rfl) (fun _ _ _ h => h) (yieldsIf_build (by rfl) _ _ rfl (us := #[(0, .int .u8 2), (1, .int .u32 16)]) (by rfl) (Ab3)) ((And.intro x_fr_b0 x_one_b0)) ?_
      try simp only [Act.put, List.setIfInBounds_toArray, List.set_cons_zero, List.set_cons_succ]
      refine takeH 12 147 (v := .agg (LO).toArray) rfl (by rfl) (by kernel_rfl) (by kernel_rfl) (by kernel_rfl) (fun _ _ _ h => h) (yieldsIf_load_mid (by rfl) _ _ rfl _ _ rfl (LO) _ (fun wq hq => Box.range (hq.2)) Try.underlying25 rfl SLO.out) ((And.intro x_fr_b0 x_one_b0)) ?_
      try simp only [Act.put, List.setIfInBounds_toArray, List.set_cons_zero, List.set_cons_succ]
      refine takeH 13 148 (v := .agg Vb8.toArray) rfl (by rfl) (by kernel_rfl) (by kernel_rfl) (by kernel_rfl) (fun _ _ _ h => h) (yieldsIf_build (by rfl) _ _ rfl (us := #[(0, .int .u8 1), (3, .agg LO.toArray), (4, .int .u8 1), (5, .int .u8 1)]) (by rfl) (Ab8)) ((And.intro x_fr_b0 x_one_b0)) ?_
      try simp only [Act.put, List.setIfInBounds_toArray, List.set_cons_zero, List.set_cons_succ]
      refine takeH 14 149 (v := .agg Vb9.toArray) rfl (by rfl) (by kernel_rfl) (by kernel_rfl) (by kernel_rfl) (fun _ _ _ h => h) (yieldsIf_build (by rfl) _ _ rfl (us := #[(0, .int .u8 1), (4, .int .u8 1), (5, .int .u8 1)]) (by rfl) (Ab9)) ((And.intro x_fr_b0 x_one_b0)) ?_
      try simp only [Act.put, List.setIfInBounds_toArray, List.set_cons_zero, List.set_cons_succ]
      refine takeH 15 150 (v := .agg Vb10.toArray) rfl (by rfl) (by kernel_rfl) (by kernel_rfl) (by kernel_rfl) (fun _ _ _ h => h) (yieldsIf_build (by rfl) _ _ rfl (us := #[(0, .int .u8 2), (2, .int .u32 1)]) (by rfl) (Ab10)) ((And.intro x_fr_b0 x_one_b0)) ?_
      try simp only [Act.put, List.setIfInBounds_toArray, List.set_cons_zero, List.set_cons_succ]
      refine takeH 16 151 (v := .agg Vb11.toArray) rfl (by rfl) (by kernel_rfl) (by kernel_rfl) (by kernel_rfl) (fun _ _ _ h => h) (yieldsIf_build (by rfl) _ _ rfl (us := #[(0, .int .u8 2), (4, .int .u8 1)]) (by rfl) (Ab11)) ((And.intro x_fr_b0 x_one_b0)) ?_
      try simp only [Act.put, List.setIfInBounds_toArray, List.set_cons_zero, List.set_cons_succ]
      refine takeH 19 154 (v := .agg (LO).toArray) rfl (by rfl) (by kernel_rfl) (by kernel_rfl) (by kernel_rfl) (fun _ _ _ h => h) (yieldsIf_load_mid (by rfl) _ _ rfl _ _ rfl (LO) _ (fun wq hq => Box.range (hq.2)) Try.underlying25 rfl SLO.out) ((And.intro x_fr_b0 x_one_b0)) ?_
      try simp only [Act.put, List.setIfInBounds_toArray, List.set_cons_zero, List.set_cons_succ]
      refine takeH 20 155 (v := .agg Vb13.toArray) rfl (by rfl) (by kernel_rfl) (by kernel_rfl) (by kernel_rfl) (fun _ _ _ h => h) (yieldsIf_build (by rfl) _ _ rfl (us := #[(0, .int .u8 3), (3, .agg LO.toArray)]) (by rfl) (Ab13)) ((And.intro x_fr_b0 x_one_b0)) ?_
      try simp only [Act.put, List.setIfInBounds_toArray, List.set_cons_zero, List.set_cons_succ]
      refine takeH 23 158 (v := .agg Vb15.toArray) rfl (by rfl) (by kernel_rfl) (by kernel_rfl) (by kernel_rfl) (fun _ _ _ h => h) (yieldsIf_build (by rfl) _ _ rfl (us := #[(0, .int .u8 4), (2, .int .u32 1)]) (by rfl) (Ab15)) ((And.intro x_fr_b0 x_one_b0)) ?_
      try simp only [Act.put, List.setIfInBounds_toArray, List.set_cons_zero, List.set_cons_succ]
      refine takeH 26 161 (v := .agg Vb17.toArray) rfl (by rfl) (by kernel_rfl) (by kernel_rfl) (by kernel_rfl) (fun _ _ _ h => h) (yieldsIf_build (by rfl) _ _ rfl (us := #[(0, .int .u8 5), (5, .int .u8 1)]) (by rfl) (Ab17)) ((And.intro x_fr_b0 x_one_b0)) ?_
      try simp only [Act.put, List.setIfInBounds_toArray, List.set_cons_zero, List.set_cons_succ]
      refine wpAnyH_ready (rs := [4]) (by kernel_rfl) (by simp) (AllReadyH.cons rfl (fun K hK => ?_) AllReadyH.nil)
      go_simp
      refine (LM _).mono ?_
      rintro e Wb1 ⟨rfl, hbb1⟩
      have x_fr_b1 : Box Wb1 (bF) (FR) := Box.below x_fr_b0 hbb1
      have x_one_b1 : Box Wb1 (w5.heap.size) (LO) := Box.below x_one_b0 hbb1
      have Bb1 := below_thru Bb0 hbb1
      clear x_fr_b0 x_one_b0 Bb0 hbb1
      refine hK.out _ _ (And.intro x_fr_b1 x_one_b1) (fun _ => ?_); clear hK K
      refine takeH 5 140 (v := .agg Vb4.toArray) rfl (by rfl) (by kernel_rfl) (by kernel_rfl) (by kernel_rfl) (fun _ _ _ h => h) (yieldsIf_build (by rfl) _ _ rfl (us := #[(0, .int .u8 1), (3, .agg LV.toArray)]) (by rfl) (Ab4)) ((And.intro x_fr_b1 x_one_b1)) ?_
      try simp only [Act.put, List.setIfInBounds_toArray, List.set_cons_zero, List.set_cons_succ]
      refine wpAnyH_ready (rs := [6]) (by kernel_rfl) (by simp) (AllReadyH.cons rfl (fun K hK => ?_) AllReadyH.nil)
      go_simp
      refine (LM _).mono ?_
      rintro e Wb2 ⟨rfl, hbb2⟩
      have x_fr_b2 : Box Wb2 (bF) (FR) := Box.below x_fr_b1 hbb2
      have x_one_b2 : Box Wb2 (w5.heap.size) (LO) := Box.below x_one_b1 hbb2
      have Bb2 := below_thru Bb1 hbb2
      clear x_fr_b1 x_one_b1 Bb1 hbb2
      refine hK.out _ _ (And.intro x_fr_b2 x_one_b2) (fun _ => ?_); clear hK K
      refine takeH 7 142 (v := .agg Vb5.toArray) rfl (by rfl) (by kernel_rfl) (by kernel_rfl) (by kernel_rfl) (fun _ _ _ h => h) (yieldsIf_build (by rfl) _ _ rfl (us := #[(0, .int .u8 1), (3, .agg LV.toArray), (4, .int .u8 9), (5, .int .u8 1)]) (by rfl) (Ab5)) ((And.intro x_fr_b2 x_one_b2)) ?_
      try simp only [Act.put, List.setIfInBounds_toArray, List.set_cons_zero, List.set_cons_succ]
      refine wpAnyH_ready (rs := [8]) (by kernel_rfl) (by simp) (AllReadyH.cons rfl (fun K hK => ?_) AllReadyH.nil)
      go_simp
      refine (LM _).mono ?_
      rintro e Wb3 ⟨rfl, hbb3⟩
      have x_fr_b3 : Box Wb3 (bF) (FR) := Box.below x_fr_b2 hbb3
      have x_one_b3 : Box Wb3 (w5.heap.size) (LO) := Box.below x_one_b2 hbb3
      have Bb3 := below_thru Bb2 hbb3
      clear x_fr_b2 x_one_b2 Bb2 hbb3
      refine hK.out _ _ (And.intro x_fr_b3 x_one_b3) (fun _ => ?_); clear hK K
      refine takeH 9 144 (v := .agg Vb6.toArray) rfl (by rfl) (by kernel_rfl) (by kernel_rfl) (by kernel_rfl) (fun _ _ _ h => h) (yieldsIf_build (by rfl) _ _ rfl (us := #[(0, .int .u8 1), (3, .agg LV.toArray), (4, .int .u8 1), (5, .int .u8 9)]) (by rfl) (Ab6)) ((And.intro x_fr_b3 x_one_b3)) ?_
      try simp only [Act.put, List.setIfInBounds_toArray, List.set_cons_zero, List.set_cons_succ]
      refine wpAnyH_ready (rs := [10]) (by kernel_rfl) (by simp) (AllReadyH.cons rfl (fun K hK => ?_) AllReadyH.nil)
      go_simp
      refine (LM _).mono ?_
      rintro e Wb4 ⟨rfl, hbb4⟩
      have x_fr_b4 : Box Wb4 (bF) (FR) := Box.below x_fr_b3 hbb4
      have x_one_b4 : Box Wb4 (w5.heap.size) (LO) := Box.below x_one_b3 hbb4
      have Bb4 := below_thru Bb3 hbb4
      clear x_fr_b3 x_one_b3 Bb3 hbb4
      refine hK.out _ _ (And.intro x_fr_b4 x_one_b4) (fun _ => ?_); clear hK K
      refine takeH 11 146 (v := .agg Vb7.toArray) rfl (by rfl) (by kernel_rfl) (by kernel_rfl) (by kernel_rfl) (fun _ _ _ h => h) (yieldsIf_build (by rfl) _ _ rfl (us := #[(0, .int .u8 1), (3, .agg LV.toArray), (4, .int .u8 1), (5, .int .u8 1), (2, .int .u32 1)]) (by rfl) (Ab7)) ((And.intro x_fr_b4 x_one_b4)) ?_
      try simp only [Act.put, List.setIfInBounds_toArray, List.set_cons_zero, List.set_cons_succ]
      refine wpAnyH_ready (rs := [17]) (by kernel_rfl) (by simp) (AllReadyH.cons rfl (fun K hK => ?_) AllReadyH.nil)
      go_simp
      refine (LM _).mono ?_
      rintro e Wb5 ⟨rfl, hbb5⟩
      have x_fr_b5 : Box Wb5 (bF) (FR) := Box.below x_fr_b4 hbb5
      have x_one_b5 : Box Wb5 (w5.heap.size) (LO) := Box.below x_one_b4 hbb5
      have Bb5 := below_thru Bb4 hbb5
      clear x_fr_b4 x_one_b4 Bb4 hbb5
      refine hK.out _ _ (And.intro x_fr_b5 x_one_b5) (fun _ => ?_); clear hK K
      refine takeH 18 153 (v := .agg Vb12.toArray) rfl (by rfl) (by kernel_rfl) (by kernel_rfl) (by kernel_rfl) (fun _ _ _ h => h) (yieldsIf_build (by rfl) _ _ rfl (us := #[(0, .int .u8 2), (3, .agg LV.toArray)]) (by rfl) (Ab12)) ((And.intro x_fr_b5 x_one_b5)) ?_
      try simp only [Act.put, List.setIfInBounds_toArray, List.set_cons_zero, List.set_cons_succ]
      refine wpAnyH_ready (rs := [21]) (by kernel_rfl) (by simp) (AllReadyH.cons rfl (fun K hK => ?_) AllReadyH.nil)
      go_simp
      refine (LM _).mono ?_
      rintro e Wb6 ⟨rfl, hbb6⟩
      have x_fr_b6 : Box Wb6 (bF) (FR) := Box.below x_fr_b5 hbb6
      have x_one_b6 : Box Wb6 (w5.heap.size) (LO) := Box.below x_one_b5 hbb6
      have Bb6 := below_thru Bb5 hbb6
      clear x_fr_b5 x_one_b5 Bb5 hbb6
      refine hK.out _ _ (And.intro x_fr_b6 x_one_b6) (fun _ => ?_); clear hK K
      refine takeH 22 157 (v := .agg Vb14.toArray) rfl (by rfl) (by kernel_rfl) (by kernel_rfl) (by kernel_rfl) (fun _ _ _ h => h) (yieldsIf_build (by rfl) _ _ rfl (us := #[(0, .int .u8 3), (3, .agg LV.toArray), (5, .int .u8 1)]) (by rfl) (Ab14)) ((And.intro x_fr_b6 x_one_b6)) ?_
      try simp only [Act.put, List.setIfInBounds_toArray, List.set_cons_zero, List.set_cons_succ]
      refine wpAnyH_ready (rs := [24]) (by kernel_rfl) (by simp) (AllReadyH.cons rfl (fun K hK => ?_) AllReadyH.nil)
      go_simp
      refine (LM _).mono ?_
      rintro e Wb7 ⟨rfl, hbb7⟩
      have x_fr_b7 : Box Wb7 (bF) (FR) := Box.below x_fr_b6 hbb7
      have x_one_b7 : Box Wb7 (w5.heap.size) (LO) := Box.below x_one_b6 hbb7
      have Bb7 := below_thru Bb6 hbb7
      clear x_fr_b6 x_one_b6 Bb6 hbb7
      refine hK.out _ _ (And.intro x_fr_b7 x_one_b7) (fun _ => ?_); clear hK K
      refine takeH 25 160 (v := .agg Vb16.toArray) rfl (by rfl) (by kernel_rfl) (by kernel_rfl) (by kernel_rfl) (fun _ _ _ h => h) (yieldsIf_build (by rfl) _ _ rfl (us := #[(0, .int .u8 4), (3, .agg LV.toArray)]) (by rfl) (Ab16)) ((And.intro x_fr_b7 x_one_b7)) ?_
      try simp only [Act.put, List.setIfInBounds_toArray, List.set_cons_zero, List.set_cons_succ]
      refine wpAnyH_ready (rs := [27]) (by kernel_rfl) (by simp) (AllReadyH.cons rfl (fun K hK => ?_) AllReadyH.nil)
      go_simp
      refine (LM _).mono ?_
      rintro e Wb8 ⟨rfl, hbb8⟩
      have x_fr_b8 : Box Wb8 (bF) (FR) := Box.below x_fr_b7 hbb8
      have x_one_b8 : Box Wb8 (w5.heap.size) (LO) := Box.below x_one_b7 hbb8
      have Bb8 := below_thru Bb7 hbb8
      clear x_fr_b7 x_one_b7 Bb7 hbb8
      refine hK.out _ _ (And.intro x_fr_b8 x_one_b8) (fun _ => ?_); clear hK K
      refine takeH 28 163 (v := .agg Vb18.toArray) rfl (by rfl) (by kernel_rfl) (by kernel_rfl) (by kernel_rfl) (fun _ _ _ h => h) (yieldsIf_build (by rfl) _ _ rfl (us := #[(0, .int .u8 5), (3, .agg LV.toArray)]) (by rfl) (Ab18)) ((And.intro x_fr_b8 x_one_b8)) ?_
      try simp only [Act.put, List.setIfInBounds_toArray, List.set_cons_zero, List.set_cons_succ]
      refine wpAnyH_ready (rs := [29]) (by kernel_rfl) (by simp) (AllReadyH.cons rfl (fun K hK => ?_) AllReadyH.nil)
      rw [if_pos (by rfl)]
      refine wp_bsliceN 32 19 _ rfl (us := #[(0, .agg Vb0.toArray), (1, .agg Vb1.toArray), (2, .agg Vb2.toArray), (3, .agg Vb3.toArray), (4, .agg Vb4.toArray), (5, .agg Vb5.toArray), (6, .agg Vb6.toArray), (7, .agg Vb7.toArray), (8, .agg Vb8.toArray), (9, .agg Vb9.toArray), (10, .agg Vb10.toArray), (11, .agg Vb11.toArray), (12, .agg Vb12.toArray), (13, .agg Vb13.toArray), (14, .agg Vb14.toArray), (15, .agg Vb15.toArray), (16, .agg Vb16.toArray), (17, .agg Vb17.toArray), (18, .agg Vb18.toArray)]) (by rfl) (HBb.out _) ?_
      refine hK.out _ _ (And.intro (Box.alloc x_fr_b8 _) (Box.alloc x_one_b8 _)) (fun _ => ?_); clear hK K
      refine F_gen (F := fun W => wpAnyH _ _ _ _ _ _ _ _ W) (J := fun W => Box W (Wb8.heap.size) (flatR LC badC) ∧ Below Wb8.heap.size Wb8 W) (And.intro (Box.newc (by rw [← HFb.out]; simp only [List.flatten_cons, List.flatten_nil, List.append_nil]) rfl) ((Below.refl _ _).alloc (Nat.le_refl _) _)) ?_
      intro Wb9 ⟨na_bd_b9, hbb9⟩
      have x_fr_b9 : Box Wb9 (bF) (FR) := Box.below x_fr_b8 hbb9
      have x_one_b9 : Box Wb9 (w5.heap.size) (LO) := Box.below x_one_b8 hbb9
      have Bb9 := below_thru Bb8 hbb9
      clear x_fr_b8 x_one_b8 Bb8 hbb9
      refine takeH 30 12 (v := ?vb30_10) rfl (by rfl) (by kernel_rfl) (by kernel_rfl) (by kernel_rfl) (fun _ _ _ h => h) (Or.inl ⟨by rfl, ?_⟩) ((And.intro x_fr_b9 x_one_b9)) ?_
      rotate_left
      · intro wq hSq
        go_simp
        exact rfl
      try simp only [Act.put, List.setIfInBounds_toArray]
      refine wpAnyH_done (by kernel_rfl) ?_ _
      have hB8 := Bb9; have hs8 := hB8.size
      have x_fr8 := x_fr_b9
      have x_one8 := x_one_b9
      clear Bb9 x_fr_b9 x_one_b9
      obtain ⟨bB, hbB⟩ : ∃ b, Wb8.heap.size = b := ⟨_, rfl⟩; rw [hbB] at na_bd_b9 ⊢; clear hbB
      have x_bd8 : Box Wb9 (bB) (flatR LC badC) := na_bd_b9
      clear HBb HFb LM dA na_bd_b9 Ab0 Ab1 Ab2 Ab3 Ab4 Ab5 Ab6 Ab7 Ab8 Ab9 Ab10 Ab11 Ab12 Ab13 Ab14 Ab15 Ab16 Ab17 Ab18
      clear x_one8
      obtain ⟨BR, hBR⟩ : ∃ V, flatR LC badC = V := ⟨_, rfl⟩; rw [hBR] at x_bd8
      go_wp2_with fail
      go_loopw [13] (fun s13 wr => ∃ j : Nat, s13 = .int .i64 j ∧ j ≤ 19 ∧ Below w.heap.size w wr ∧ Box wr (bF) FR ∧ Box wr (bB) BR) (fun s13 _ => 19 - (intOf s13).toNat)
      case atStart => exact ⟨0, rfl, by omega, hB8, x_fr8, x_bd8⟩
      case round =>
        clear x_fr8 x_bd8 hB8 hs8
        obtain ⟨j, rfl, hj, hBr, hWr, hWb⟩ := hrel
        by_cases hlt : j < 19
        · obtain ⟨c, hc⟩ : ∃ c, badC[j]? = some c := ⟨_, List.getElem?_eq_getElem hlt⟩
          have hok := badC_no c (List.mem_of_getElem? hc)
          have DR := Lib.hid (cmd_at hc); rw [hBR] at DR
          have i0 : (0 : Int) ≤ (j : Int) := by omega
          have i1 : (j : Int) < 19 := by omega
          have SC := Lib.hid (size_cmd c); have LCc := fun W => lcmd_is c W
          have NO : ¬ (Frm.cmd c).Ok := fun q => hok ((Frm.cmd_iff c).1 q)
          have WF := fun W => wr_is (Frm.cmd c) (xs := []) (q := 8) (Or.inr ⟨rfl, NO, rfl⟩) W; have TF := fun W => ten_is (Frm.cmd c) (n := 0) (q := 8) (Or.inr ⟨rfl, NO, rfl⟩) W; have CK := fun W => chk_is (Frm.cmd c) (q := 8) (Lib.hid (Or.inr ⟨rfl, NO⟩)) W; have A1 := fun W => bef_is c (xs := []) (q := 8) (Or.inr ⟨rfl, hok, rfl⟩) W
          obtain ⟨V, hV⟩ : ∃ V, mcell (Frm.cmd c) = V := ⟨_, rfl⟩; rw [hV] at LCc WF TF CK
          obtain ⟨C, hC⟩ : ∃ V, ccell c = V := ⟨_, rfl⟩; rw [hC] at DR SC LCc A1
          clear hV hC hok hc NO
          obtain ⟨R, hR⟩ : ∃ R, List.drop ((j + 1) * 47) BR = R := ⟨_, rfl⟩; rw [hR] at DR; clear hR
          have hB0 := Below.refl wr.heap.size wr
          have hs0 := hB0.size
          have x_fr0 : Box wr (bF) (FR) := hWr
          have x_bd0 : Box wr (bB) (BR) := hWb
          clear hWr hWb
          go_wp2_with (refine wpList_load_rangew rfl _ _ rfl (Box.rangeMid x_bd0 (j * 47) (C) (R) DR.out) rfl Try.underlying31 rfl SC.out ?_)
          refine (LCc _).mono ?_
          rintro e w1 ⟨rfl, hb⟩
          have hB1 : Below wr.heap.size wr w1 := below_thru hB0 hb
          have hs1 := hB1.size
          have x_fr1 : Box w1 (bF) (FR) := Box.below x_fr0 hb
          have x_bd1 : Box w1 (bB) (BR) := Box.below x_bd0 hb
          clear hB0 hs0 x_fr0 x_bd0
          clear hb
          go_wp2_with fail
          refine (WF _).mono ?_
          rintro e w2 ⟨va, rfl, hoa, hb⟩
          clear WF hoa
          have hB2 : Below wr.heap.size wr w2 := below_thru hB1 hb
          have hs2 := hB2.size
          have x_fr2 : Box w2 (bF) (FR) := Box.below x_fr1 hb
          have x_bd2 : Box w2 (bB) (BR) := Box.below x_bd1 hb
          clear hB1 hs1 x_fr1 x_bd1
          clear hb
          go_wp2_with (refine wpList_load_rangew rfl _ _ rfl (Box.rangeMid x_bd2 (j * 47) (C) (R) DR.out) rfl Try.underlying31 rfl SC.out ?_)
          refine (A1 _).mono ?_
          rintro e w3 ⟨vb, rfl, hob, hb⟩
          clear A1 hob
          have hB3 : Below wr.heap.size wr w3 := below_thru hB2 hb
          have hs3 := hB3.size
          have x_fr3 : Box w3 (bF) (FR) := Box.below x_fr2 hb
          have x_bd3 : Box w3 (bB) (BR) := Box.below x_bd2 hb
          clear hB2 hs2 x_fr2 x_bd2
          clear hb
          go_wp2_with (refine wpList_load_rangew rfl _ _ rfl (Box.rangeMid x_bd3 (j * 47) (C) (R) DR.out) rfl Try.underlying31 rfl SC.out ?_)
          refine (LCc _).mono ?_
          rintro e w4 ⟨rfl, hb⟩
          have hB4 : Below wr.heap.size wr w4 := below_thru hB3 hb
          have hs4 := hB4.size
          have x_fr4 : Box w4 (bF) (FR) := Box.below x_fr3 hb
          have x_bd4 : Box w4 (bB) (BR) := Box.below x_bd3 hb
          clear hB3 hs3 x_fr3 x_bd3
          clear hb
          go_wp2_with fail
          refine (TF _).mono ?_
          rintro e w5 ⟨rfl, hb⟩
          clear TF
          have hB5 : Below wr.heap.size wr w5 := below_thru hB4 hb
          have hs5 := hB5.size
          have x_fr5 : Box w5 (bF) (FR) := Box.below x_fr4 hb
          have x_bd5 : Box w5 (bB) (BR) := Box.below x_bd4 hb
          clear hB4 hs4 x_fr4 x_bd4
          clear hb
          go_wp2_with (refine wpList_load_rangew rfl _ _ rfl (Box.rangeMid x_bd5 (j * 47) (C) (R) DR.out) rfl Try.underlying31 rfl SC.out ?_)
          refine (LCc _).mono ?_
          rintro e w6 ⟨rfl, hb⟩
          have hB6 : Below wr.heap.size wr w6 := below_thru hB5 hb
          have hs6 := hB6.size
          have x_fr6 : Box w6 (bF) (FR) := Box.below x_fr5 hb
          have x_bd6 : Box w6 (bB) (BR) := Box.below x_bd5 hb
          clear hB5 hs5 x_fr5 x_bd5
          clear hb
          go_wp2_with fail
          refine (CK _).mono ?_
          rintro e w7 ⟨rfl, hb⟩
          clear CK
          have hB7 : Below wr.heap.size wr w7 := below_thru hB6 hb
          have hs7 := hB7.size
          have x_fr7 : Box w7 (bF) (FR) := Box.below x_fr6 hb
          have x_bd7 : Box w7 (bB) (BR) := Box.below x_bd6 hb
          clear hB6 hs6 x_fr6 x_bd6
          clear hb
          have hBn := below_thru hBr hB7
          go_wp2_with fail
          go_roundw
          case rel => exact ⟨j + 1, by go_num, by omega, hBn, x_fr7, x_bd7⟩
          case measure => simp [intOf]; omega
        · obtain rfl : j = 19 := by omega
          clear hlt hj hWb
          have hB9 := hBr; have hs9 := hB9.size; have x_fr9 := hWr; clear hBr hWr
          have R1 := fun W => lreq_is 1 r1b W; have R15 := fun W => lreq_is 15 r15b W; have CD := fun W => lcmd_is fine1 W; have CKB := fun W => chk_is both9 (q := 8) (Lib.hid (Or.inr ⟨rfl, both9_no⟩)) W; have CKO := fun W => chk_is other9 (q := 8) (Lib.hid (Or.inr ⟨rfl, other9_no⟩)) W; have CKZ := fun W => chk_is Frm.zero (q := 8) (Lib.hid (Or.inr ⟨rfl, Frm.zero_no⟩)) W; have CKT := fun W => chk_is three9 (q := 8) (Lib.hid (Or.inr ⟨rfl, three9_no⟩)) W
          have W15 := fun W => wr_is (Frm.req (rq9 15 r15b)) (xs := 1 :: (rq9 15 r15b).bs) (q := 0) (Or.inl ⟨rfl, Frm.req_ok (by decide), (Frm.req_bs _).symm⟩) W; have T15 := fun W => ten_is (Frm.req (rq9 15 r15b)) (n := 15) (q := 0) (Or.inl ⟨rfl, Frm.req_ok (by decide), rfl⟩) W
          have BT := fun W => three9_b W; have BZ := fun W => zero9_b W
          have S1 := Lib.hid (size_frm (Frm.req (rq9 1 r1b))); have LL1 := Lib.hid (len_frm Frm.zero (Frm.req (rq9 1 r1b))); have N1 := Lib.hid (one_frm (Frm.req (rq9 1 r1b))); have M1 := Lib.hid (mcell_len (Frm.req (rq9 1 r1b)))
          have SD := Lib.hid (size_frm (Frm.cmd fine1)); have LLD := Lib.hid (len_frm Frm.zero (Frm.cmd fine1)); have ND := Lib.hid (one_frm (Frm.cmd fine1)); have MD := Lib.hid (mcell_len (Frm.cmd fine1))
          have SB := Lib.hid (size_frm (both9)); have LLB := Lib.hid (len_frm Frm.zero (both9)); have NB := Lib.hid (one_frm (both9)); have MB := Lib.hid (mcell_len (both9))
          have SO := Lib.hid (size_frm (other9)); have LLO := Lib.hid (len_frm Frm.zero (other9)); have NO := Lib.hid (one_frm (other9)); have MO := Lib.hid (mcell_len (other9))
          have SZ := Lib.hid (size_frm (Frm.zero)); have LLZ := Lib.hid (len_frm Frm.zero (Frm.zero)); have NZ := Lib.hid (one_frm (Frm.zero)); have MZ := Lib.hid (mcell_len (Frm.zero))
          have EB := Lib.hid both9_c; have EO := Lib.hid other9_c; have SC1 := Lib.hid (size_cmd fine1); have DR1 := Lib.hid (cmd_at (xs := fineC) (i := 1) (c := fine1) rfl); rw [hFR] at DR1; rw [ef1] at SC1 DR1 CD
          obtain ⟨RR, hRR⟩ : ∃ V, FR.drop ((1 + 1) * 47) = V := ⟨_, rfl⟩; rw [hRR] at DR1; clear hRR hFR ef1 hLV hLO LZ NV SLO SA LA OA hBR
          have Y0 : Hid ((2 :: (rq9 15 r15b).bs).length = 59) := Lib.hid (by rw [List.length_cons, Req.bs_len]); have Y9 : Hid ((1 :: (rq9 15 r15b).bs).length = 59) := Lib.hid (by rw [List.length_cons, Req.bs_len])
          have Y1 : Hid ((2 :: (rq9 15 r15b).bs).map (Value.int .u8) = ((1 :: (rq9 15 r15b).bs).map (Value.int .u8)).set 0 (.int .u8 2)) := Lib.hid rfl
          have hy2 := hy2_9
          have P2 := parse_no9 hy2 (Or.inr (by decide)) (Or.inl (by rw [Y0.out]; decide)); have P58 := parse_no9 (bs := (2 :: (rq9 15 r15b).bs).take 58) (fun x h => hy2 x (List.mem_of_mem_take h)) (Or.inl (by rw [List.length_take, Y0.out]; decide)) (Or.inl (by rw [List.length_take, Y0.out]; decide)); have P0 := parse_no9 (bs := []) (fun x h => by cases h) (Or.inl (by decide)) (Or.inl (by decide))
          have P88 := parse_no9 (bs := List.replicate 88 0) (fun x h => by rw [List.eq_of_mem_replicate h]; decide) (Or.inl (by decide)) (Or.inr (by decide)); have P200 := parse_no9 (bs := List.replicate 200 0) (fun x h => by rw [List.eq_of_mem_replicate h]; decide) (Or.inl (by decide)) (Or.inl (by decide))
          unfold Parses at P2 P58 P0 P88 P200
          have mk88 : ∀ W : World, (Instr.makeSlice 33 (.int .i64 88) (.int .i64 88)).run Try.prog W = .ok (.slice (some ⟨W.heap.size, 0, none⟩) 88 88) (W.alloc (.cells ((List.replicate 88 (0 : Int)).map (Value.int .u8)).toArray 5)) := fun W => make_bytes 88 (by omega) W; have i88 := fun (W : World) => (IsL.built (w := W) (k := .u8) (t := 5) (List.replicate 88 (0 : Int)) rfl rfl rfl rfl (by decide) : IsL _ .u8 (.slice (some ⟨W.heap.size, 0, none⟩) 88 88) _)
          have mk200 : ∀ W : World, (Instr.makeSlice 33 (.int .i64 200) (.int .i64 200)).run Try.prog W = .ok (.slice (some ⟨W.heap.size, 0, none⟩) 200 200) (W.alloc (.cells ((List.replicate 200 (0 : Int)).map (Value.int .u8)).toArray 5)) := fun W => make_bytes 200 (by omega) W; have i200 := fun (W : World) => (IsL.built (w := W) (k := .u8) (t := 5) (List.replicate 200 (0 : Int)) rfl rfl rfl rfl (by decide) : IsL _ .u8 (.slice (some ⟨W.heap.size, 0, none⟩) 200 200) _)
          obtain ⟨X2, hX2⟩ : ∃ X, 2 :: (rq9 15 r15b).bs = X := ⟨_, rfl⟩; rw [hX2] at Y0 Y1 P2 P58; obtain ⟨X1, hX1⟩ : ∃ X, 1 :: (rq9 15 r15b).bs = X := ⟨_, rfl⟩; rw [hX1] at Y9 Y1 W15; clear hX1 hX2 hy2
          have Y5 : Hid (X2.map (Value.int .u8) = (X2.take 58).map (Value.int .u8) ++ (X2.drop 58).map (Value.int .u8)) := Lib.hid (by rw [← List.map_append, List.take_append_drop]); have Y6 : Hid ((X2.take 58).length = 58) := Lib.hid (by rw [List.length_take, Y0.out]; rfl); have ML1 : Hid ((X1.map (Value.int .u8)).length = 59) := Lib.hid (by rw [List.length_map, Y9.out])
          obtain ⟨X3, hX3⟩ : ∃ X, X2.take 58 = X := ⟨_, rfl⟩; rw [hX3] at Y5 Y6 P58; obtain ⟨X4, hX4⟩ : ∃ X, (X2.drop 58).map (Value.int .u8) = X := ⟨_, rfl⟩; rw [hX4] at Y5; clear hX3 hX4
          obtain ⟨Z88, hZ88⟩ : ∃ X : List Int, List.replicate 88 0 = X := ⟨_, rfl⟩; rw [hZ88] at P88 mk88 i88; clear hZ88
          obtain ⟨Z200, hZ200⟩ : ∃ X : List Int, List.replicate 200 0 = X := ⟨_, rfl⟩; rw [hZ200] at P200 mk200 i200; clear hZ200
          obtain ⟨F1, hF1⟩ : ∃ V, mcell (Frm.req (rq9 1 r1b)) = V := ⟨_, rfl⟩; rw [hF1] at R1 S1 LL1 N1 M1 EB; clear hF1
          obtain ⟨FD, hFD⟩ : ∃ V, mcell (Frm.cmd fine1) = V := ⟨_, rfl⟩; rw [hFD] at CD SD LLD ND MD EO; clear hFD
          obtain ⟨FB, hFB⟩ : ∃ V, mcell (both9) = V := ⟨_, rfl⟩; rw [hFB] at CKB SB EB; clear hFB
          obtain ⟨FO, hFO⟩ : ∃ V, mcell (other9) = V := ⟨_, rfl⟩; rw [hFO] at CKO SO EO; clear hFO
          obtain ⟨FT, hFT⟩ : ∃ V, mcell (three9) = V := ⟨_, rfl⟩; rw [hFT] at CKT BT; clear hFT
          obtain ⟨F15, hF15⟩ : ∃ V, mcell (Frm.req (rq9 15 r15b)) = V := ⟨_, rfl⟩; rw [hF15] at R15 W15 T15; clear hF15
          obtain ⟨ZF, hZF⟩ : ∃ V, mcell Frm.zero = V := ⟨_, rfl⟩; have LZZ : Hid ((mcell Frm.zero).length = ZF.length) := Lib.hid (by rw [hZF]); rw [hZF] at P2 P58 P0 P88 P200 SZ NZ CKZ BZ; clear hZF
          go_wp2_with fail
          refine (R1 _).mono ?_
          rintro e w10 ⟨rfl, hb⟩
          clear R1
          have hB10 : Below w.heap.size w w10 := below_thru hB9 hb
          have hs10 := hB10.size
          have x_fr10 : Box w10 (bF) (FR) := Box.below x_fr9 hb
          clear hB9 hs9 x_fr9
          clear hb
          have d_bo_fr := (x_fr10).lt
          have d_bo_0 := hs10
          go_upto_region 23 with (refine wpList_store_box (cs := F1) rfl _ _ _ rfl (Box.newc (l := mcell Frm.zero) rfl rfl) rfl rfl S1.out LL1.out N1.out ?_; intro W10_0 hW10_0)
          have hN : Below w10.heap.size w10 W10_0 := (hW10_0.below _ _ (by omega) ((Below.refl _ w10).alloc (Nat.le_refl _) _))
          have x_bo11 : Box W10_0 (w10.heap.size) (F1) := hW10_0.box
          have hB11 : Below w.heap.size w W10_0 := below_thru hB10 hN
          have hs11 := hB11.size
          have x_fr11 : Box W10_0 (bF) (FR) := Box.below x_fr10 hN
          clear hB10 hs10 x_fr10
          clear hN hW10_0
          have lq_fr := (x_fr11).lt
          have lq_bo := (x_bo11).lt
          go_upto_region 24 with (first | (refine wpList_store_cell (k := 39) (ws := FB) (v := .int .u8 2) rfl _ _ _ rfl x_bo11 rfl rfl rfl rfl size_u8n (by rw [M1.out]; decide) EB.out ?_; intro S11_0 hS11_0))
          have x_fr12 : Box S11_0 (bF) (FR) := (hS11_0.past _ _ (by omega) x_fr11)
          have x_bo12 := hS11_0.box
          have hB12 := (hS11_0.below _ _ (by omega) hB11); have hs12 := hB12.size
          clear x_fr11 x_bo11 hB11 hs11 lq_fr lq_bo
          clear hS11_0
          go_wp2_with (refine wpList_load_rangew rfl _ _ rfl (Box.rangeMid x_fr12 47 (Vf1) (RR) DR1.out) rfl Try.underlying31 rfl SC1.out ?_)
          refine (CD _).mono ?_
          rintro e w13 ⟨rfl, hb⟩
          clear CD
          have hB13 : Below w.heap.size w w13 := below_thru hB12 hb
          have hs13 := hB13.size
          have x_fr13 : Box w13 (bF) (FR) := Box.below x_fr12 hb
          have x_bo13 : Box w13 (w10.heap.size) (FB) := Box.below x_bo12 hb
          clear hB12 hs12 x_fr12 x_bo12
          clear hb
          clear x_fr13
          have d_ot_bo := (x_bo13).lt
          have d_ot_0 := hs13
          go_upto_region 25 with (refine wpList_store_box (cs := FD) rfl _ _ _ rfl (Box.newc (l := mcell Frm.zero) rfl rfl) rfl rfl SD.out LLD.out ND.out ?_; intro W13_0 hW13_0)
          have hN : Below w13.heap.size w13 W13_0 := (hW13_0.below _ _ (by omega) ((Below.refl _ w13).alloc (Nat.le_refl _) _))
          have x_ot14 : Box W13_0 (w13.heap.size) (FD) := hW13_0.box
          have hB14 : Below w.heap.size w W13_0 := below_thru hB13 hN
          have hs14 := hB14.size
          have x_bo14 : Box W13_0 (w10.heap.size) (FB) := Box.below x_bo13 hN
          clear hB13 hs13 x_bo13
          clear hN hW13_0
          have lq_bo := (x_bo14).lt
          have lq_ot := (x_ot14).lt
          go_upto_region 26 with (first | (refine wpList_store_cell (k := 38) (ws := FO) (v := .int .u32 1) rfl _ _ _ rfl x_ot14 rfl rfl rfl rfl size_u32n (by rw [MD.out]; decide) EO.out ?_; intro S14_0 hS14_0))
          have x_bo15 : Box S14_0 (w10.heap.size) (FB) := (hS14_0.past _ _ (by omega) x_bo14)
          have x_ot15 := hS14_0.box
          have hB15 := (hS14_0.below _ _ (by omega) hB14); have hs15 := hB15.size
          clear x_bo14 x_ot14 hB14 hs14 lq_bo lq_ot
          clear hS14_0
          go_wp2_with (refine wpList_load_box9 rfl _ _ rfl x_bo15 rfl Try.underlying43 rfl SB.out ?_)
          refine (CKB _).mono ?_
          rintro e w16 ⟨rfl, hb⟩
          clear CKB
          have hB16 : Below w.heap.size w w16 := below_thru hB15 hb
          have hs16 := hB16.size
          have x_bo16 : Box w16 (w10.heap.size) (FB) := Box.below x_bo15 hb
          have x_ot16 : Box w16 (w13.heap.size) (FO) := Box.below x_ot15 hb
          clear hB15 hs15 x_bo15 x_ot15
          clear hb
          clear x_bo16
          go_wp2_with (refine wpList_load_box9 rfl _ _ rfl x_ot16 rfl Try.underlying43 rfl SO.out ?_)
          refine (CKO _).mono ?_
          rintro e w17 ⟨rfl, hb⟩
          clear CKO
          have hB17 : Below w.heap.size w w17 := below_thru hB16 hb
          have hs17 := hB17.size
          have x_ot17 : Box w17 (w13.heap.size) (FO) := Box.below x_ot16 hb
          clear hB16 hs16 x_ot16
          clear hb
          clear x_ot17
          go_wp2_with (refine wpList_build9 rfl 43 _ rfl (us := #[]) (by rfl) (BZ _) ?_)
          refine (CKZ _).mono ?_
          rintro e w18 ⟨rfl, hb⟩
          clear CKZ
          have hB18 : Below w.heap.size w w18 := below_thru hB17 hb
          have hs18 := hB18.size
          clear hB17 hs17
          clear hb
          go_wp2_with (refine wpList_build9 rfl 43 _ rfl (us := #[(0, .int .u8 3)]) (by rfl) (BT _) ?_)
          refine (CKT _).mono ?_
          rintro e w19 ⟨rfl, hb⟩
          clear CKT
          have hB19 : Below w.heap.size w w19 := below_thru hB18 hb
          have hs19 := hB19.size
          clear hB18 hs18
          clear hb
          go_wp2_with fail
          refine (R15 _).mono ?_
          rintro e w20 ⟨rfl, hb⟩
          have hB20 : Below w.heap.size w w20 := below_thru hB19 hb
          have hs20 := hB20.size
          clear hB19 hs19
          clear hb
          have hz9 := hs20
          go_wp2_with fail
          refine (W15 _).mono ?_
          rintro e w21 ⟨va, rfl, hoa, hb⟩
          clear W15
          have hB21 : Below w.heap.size w w21 := below_thru hB20 hb
          have hs21 := hB21.size
          clear hB20 hs20
          clear hb
          obtain ⟨gb, cb, rfl, hgb, lo_b, hi_b, hbx⟩ := own_box hoa (by rw [Y9.out]; decide); rw [Y9.out] at lo_b ⊢; have low_b : w.heap.size ≤ gb := by omega
          clear hoa hgb hz9
          have x_b21 : Box w21 (gb) (X1.map (Value.int .u8)) := hbx
          clear hbx
          go_wp2_with fail
          refine (R15 _).mono ?_
          rintro e w22 ⟨rfl, hb⟩
          clear R15
          have hB22 : Below w.heap.size w w22 := below_thru hB21 hb
          have hs22 := hB22.size
          have x_b22 : Box w22 (gb) (X1.map (Value.int .u8)) := Box.below x_b21 hb
          clear hB21 hs21 x_b21
          clear hb
          go_wp2_with fail
          refine (T15 _).mono ?_
          rintro e w23 ⟨rfl, hb⟩
          clear T15
          have hB23 : Below w.heap.size w w23 := below_thru hB22 hb
          have hs23 := hB23.size
          have x_b23 : Box w23 (gb) (X1.map (Value.int .u8)) := Box.below x_b22 hb
          clear hB22 hs22 x_b22
          clear hb
          go_upto_region 31 with fail
          have lq_b := (x_b23).lt
          go_upto_region 32 with (first | (refine wpList_store_cell (k := 0) (ws := X2.map (Value.int .u8)) (v := .int .u8 2) rfl _ _ _ rfl x_b23 rfl rfl rfl rfl size_u8n (by rw [ML1.out]; decide) Y1.out ?_; intro S23_0 hS23_0))
          have x_b24 := hS23_0.box
          have hB24 := (hS23_0.below _ _ (by omega) hB23); have hs24 := hB24.size
          clear x_b23 hB23 hs23 lq_b
          clear hS23_0
          go_wp2_with fail
          refine (P2 _ _ (IsL.range 59 cb Y0.out x_b24.range (by omega) (by omega))).mono ?_
          rintro e w25 ⟨rfl, hb⟩
          clear P2
          have hB25 : Below w.heap.size w w25 := below_thru hB24 hb
          have hs25 := hB25.size
          have x_b25 : Box w25 (gb) (X2.map (Value.int .u8)) := Box.below x_b24 hb
          clear hB24 hs24 x_b24
          clear hb
          have d_h0_b := (x_b25).lt
          have d_h0_0 := hs25
          go_upto_region 33 with (refine wpList_store_box (cs := ZF) rfl _ _ _ rfl (Box.newc (l := mcell Frm.zero) rfl rfl) rfl rfl SZ.out LZZ.out NZ.out ?_; intro W25_0 hW25_0)
          have hN : Below w25.heap.size w25 W25_0 := (hW25_0.below _ _ (by omega) ((Below.refl _ w25).alloc (Nat.le_refl _) _))
          have x_h026 : Box W25_0 (w25.heap.size) (ZF) := hW25_0.box
          have hB26 : Below w.heap.size w W25_0 := below_thru hB25 hN
          have hs26 := hB26.size
          have x_b26 : Box W25_0 (gb) (X2.map (Value.int .u8)) := Box.below x_b25 hN
          clear hB25 hs25 x_b25
          clear hN hW25_0
          clear x_h026
          have Yx := x_b26; rw [Y5.out] at Yx
          go_wp2_with fail
          refine (P58 _ _ (IsL.range 58 cb Y6.out Yx.left (by omega) (by omega))).mono ?_
          rintro e w27 ⟨rfl, hb⟩
          clear P58 Yx
          have hB27 : Below w.heap.size w w27 := below_thru hB26 hb
          have hs27 := hB27.size
          have x_b27 : Box w27 (gb) (X2.map (Value.int .u8)) := Box.below x_b26 hb
          clear hB26 hs26 x_b26
          clear hb
          clear x_b27
          have d_h1_0 := hs27
          go_upto_region 34 with (refine wpList_store_box (cs := ZF) rfl _ _ _ rfl (Box.newc (l := mcell Frm.zero) rfl rfl) rfl rfl SZ.out LZZ.out NZ.out ?_; intro W27_0 hW27_0)
          have hN : Below w27.heap.size w27 W27_0 := (hW27_0.below _ _ (by omega) ((Below.refl _ w27).alloc (Nat.le_refl _) _))
          have x_h128 : Box W27_0 (w27.heap.size) (ZF) := hW27_0.box
          have hB28 : Below w.heap.size w W27_0 := below_thru hB27 hN
          have hs28 := hB28.size
          clear hB27 hs27
          clear hN hW27_0
          clear x_h128
          go_wp2_with fail
          refine (P0 _ _ IsL.none).mono ?_
          rintro e w29 ⟨rfl, hb⟩
          clear P0
          have hB29 : Below w.heap.size w w29 := below_thru hB28 hb
          have hs29 := hB29.size
          clear hB28 hs28
          clear hb
          have d_h2_0 := hs29
          go_upto_region 35 with (refine wpList_store_box (cs := ZF) rfl _ _ _ rfl (Box.newc (l := mcell Frm.zero) rfl rfl) rfl rfl SZ.out LZZ.out NZ.out ?_; intro W29_0 hW29_0)
          have hN : Below w29.heap.size w29 W29_0 := (hW29_0.below _ _ (by omega) ((Below.refl _ w29).alloc (Nat.le_refl _) _))
          have x_h230 : Box W29_0 (w29.heap.size) (ZF) := hW29_0.box
          have hB30 : Below w.heap.size w W29_0 := below_thru hB29 hN
          have hs30 := hB30.size
          clear hB29 hs29
          clear hN hW29_0
          clear x_h230
          have hbm := ((Below.refl W29_0.heap.size W29_0).alloc (Nat.le_refl _) (.cells (Z88.map (Value.int .u8)).toArray 5))
          go_wp2_with fail
          refine (P88 _ _ (i88 _)).mono ?_
          rintro e w31 ⟨rfl, hb0⟩
          have hb := below_thru hbm hb0; clear hbm hb0 P88 i88 mk88
          have hB31 : Below w.heap.size w w31 := below_thru hB30 hb
          have hs31 := hB31.size
          clear hB30 hs30
          clear hb
          have d_h3_0 := hs31
          go_upto_region 36 with (refine wpList_store_box (cs := ZF) rfl _ _ _ rfl (Box.newc (l := mcell Frm.zero) rfl rfl) rfl rfl SZ.out LZZ.out NZ.out ?_; intro W31_0 hW31_0)
          have hN : Below w31.heap.size w31 W31_0 := (hW31_0.below _ _ (by omega) ((Below.refl _ w31).alloc (Nat.le_refl _) _))
          have x_h332 : Box W31_0 (w31.heap.size) (ZF) := hW31_0.box
          have hB32 : Below w.heap.size w W31_0 := below_thru hB31 hN
          have hs32 := hB32.size
          clear hB31 hs31
          clear hN hW31_0
          clear x_h332
          have hbm := ((Below.refl W31_0.heap.size W31_0).alloc (Nat.le_refl _) (.cells (Z200.map (Value.int .u8)).toArray 5))
          go_wp2_with fail
          refine (P200 _ _ (i200 _)).mono ?_
          rintro e w33 ⟨rfl, hb0⟩
          have hb := below_thru hbm hb0; clear hbm hb0 P200 i200 mk200
          have hB33 : Below w.heap.size w w33 := below_thru hB32 hb
          have hs33 := hB33.size
          clear hB32 hs32
          clear hb
          have d_h4_0 := hs33
          go_upto_region 37 with (refine wpList_store_box (cs := ZF) rfl _ _ _ rfl (Box.newc (l := mcell Frm.zero) rfl rfl) rfl rfl SZ.out LZZ.out NZ.out ?_; intro W33_0 hW33_0)
          have hN : Below w33.heap.size w33 W33_0 := (hW33_0.below _ _ (by omega) ((Below.refl _ w33).alloc (Nat.le_refl _) _))
          have x_h434 : Box W33_0 (w33.heap.size) (ZF) := hW33_0.box
          have hB34 : Below w.heap.size w W33_0 := below_thru hB33 hN
          have hs34 := hB34.size
          clear hB33 hs33
          clear hN hW33_0
          clear x_h434
          go_wp2_with fail
          refine (alive9_is _).mono ?_
          rintro e w35 ⟨rfl, hb⟩
          have hB35 : Below w.heap.size w w35 := below_thru hB34 hb
          have hs35 := hB35.size
          clear hB34 hs34
          clear hb
          go_wp2_with fail
          go_returns
          exact ⟨rfl, hB35⟩

end Go.Proofs.Ytkpdlbcmnfphmaa
