/-
  IdealNames, walked.
-/
import Derived.Test.YtpccahdbienjeaaNmM12
import Derived.Test.YtpccahdbienjeaaIdAlive
import Derived.Test.YtpccahdbienjeaaRIdF0
namespace Go.Proofs.Ytpccahdbienjeaa
open Go.RowKit

set_option maxRecDepth 100000 in
set_option maxHeartbeats 6400000 in
theorem names12_is (w : World) : Calls Try.prog 3 #[] w fun e w' => e = .returned (.bool true) ∧ Below w.heap.size w w' := by
  have HT := Lib.hid (tks_len 99)
  have PG := fun (W : World) (u : Value) (h : IsD W u (tks 99) []) => pcmd_is gone (by rw [tks_len]; decide) put_g W h
  have PS := fun (W : World) (u : Value) (h : IsD W u (tks 99) [gone]) => pcmd_is gone (by rw [tks_len]; decide) put_same W h
  have PH := fun (W : World) (u : Value) (h : IsD W u (tks 99) [gone]) => ptok_is tkH (by rw [tks_len]; decide) put_h W h
  have PR := fun (W : World) (u : Value) (h : IsD W u (tks 99) [gone]) => pcmd_is rotd (by rw [tks_len]; decide) put_r W h
  have PO := fun (W : World) (u : Value) (h : IsD W u (tks 99) [gone]) => pcmd_is oth (by rw [tks_len]; decide) put_o W h
  have PTT := fun (W : World) (u : Value) (h : IsD W u (tks 99) [gone]) => ptok_is tkT (by rw [tks_len]; decide) put_t W h
  have PZ := fun (W : World) (u : Value) (h : IsD W u (tks 99) [gone]) => pcmd_is Cmd.zero (by rw [tks_len]; decide) put_z W h
  have AZ := fun (W : World) (u : Value) (h : IsD W u (tks 99) [gone]) => pacp_is Frm.zero (by rw [tks_len]; decide) acp_z W h
  have AO := fun (W : World) (u : Value) (h : IsD W u (tks 99) [gone]) => pacp_is (Frm.cmd oth) (by rw [tks_len]; decide) acp_o W h
  have TW := fun (W : World) (u : Value) (h : IsD W u (tks 99) [gone]) => rtwin_is W h (by rw [tks_len]; decide)
  have PM := fun (W : World) (u : Value) (h : IsD W u (tks 99 ++ [tkN]) [gone]) => ptok_is tkT (by rw [List.length_append, tks_len]; decide) put_m W h
  have A2 := fun (W : World) (u : Value) (h : IsD W u [tkA1, tkA2] []) => pacp_is Frm.zero (by decide) acp_2 W h
  have K0 := fun (W : World) (u : Value) (h : IsD W u (tks 99) [gone]) => pchk_is W h (by rw [tks_len]; decide) chk_g
  have K1 := fun (W : World) (u : Value) (h : IsD W u (tks 99 ++ [tkN]) [gone]) => pchk_is W h (by rw [List.length_append, tks_len]; decide) chk_m
  have K2 := fun (W : World) (u : Value) (h : IsD W u [tkA1, tkA2] []) => pchk_is W h (by decide) chk_2
  have K3 := fun (W : World) (u : Value) (h : IsD W u [] [gone, gone]) => pchk_is W h (by decide) chk_a
  have K4 := fun (W : World) (u : Value) (h : IsD W u [tkA1, tkA1, tkT] []) => pchk_is W h (by decide) chk_b
  have K5 := fun (W : World) (u : Value) (h : IsD W u [] [Cmd.zero]) => pchk_is W h (by decide) chk_w
  have SM := fun (W : World) (u v : Value) (h1 : IsD W u (tks 99) [gone]) (h2 : IsD W v (tks 99) [gone]) => rsame12_is (b := true) W h1 h2 ⟨fun _ => ⟨rfl, rfl⟩, fun _ => rfl⟩
  have LO := fun W => lcmd12_is oth W; have LG := fun W => lcmd12_is gone W; have AG := fun (W : World) (u : Value) (h : IsD W u (tks 99) [gone]) => lacc12_is (Frm.cmd gone) (by rw [tks_len]; decide) (b := true) ⟨fun _ => acc_g, fun _ => rfl⟩ W h; have AL := fun W => alive12_is W
  have BH : ∀ W, (Instr.build 34 #[(1, .int .u32 100)]).run Try.prog W = .ok (.agg tkH.v.toArray) W := fun W => bld_tk 100 (by decide) W; have BN : ∀ W, (Instr.build 34 #[(1, .int .u32 99)]).run Try.prog W = .ok (.agg tkN.v.toArray) W := fun W => bld_tk 99 (by decide) W; have B1 : ∀ W, (Instr.build 34 #[(1, .int .u32 1)]).run Try.prog W = .ok (.agg tkA1.v.toArray) W := fun W => bld_tk 1 (by decide) W
  have BTT := fun W => bld_tT W; have BD1 := fun W => bld_d1 W; have BT2 := fun W => bld_t2 W; have BG := fun W => bld_g W; have BR := fun W => bld_r W; have BZ := fun W => bld_z W; have BF := fun W => bld_f W; have BIT := fun a n c W => bld_it a n c W; have BIC := fun a n c W => bld_ic a n c W
  have SG := Lib.hid (size_cmd gone); have LGN := Lib.hid (len_cmd Cmd.zero gone); have OG := Lib.hid (one_cmd gone); have SO := Lib.hid (size_cmd oth); have HOC := Lib.hid oth_cells; have NG : Hid (46 < (ccell gone).length) := Lib.hid (by rw [ccell_len]; decide); have SU8 : Hid ((Try.prog.info? 5).map (·.size) = some 1) := Lib.hid (by kernel_rfl)
  obtain ⟨tiT, hinT, zT0, zT1, zT2⟩ := info_parts info_tk12; obtain ⟨tiC, hinC, zC0, zC1, zC2⟩ := info_parts info_cm12
  have Q1 := fun W => run_bsliceN (P := Try.prog) (n := 1) W 22 34 tiT _ 36 Try.underlying22 hinT zT0 zT1 rfl [tkN.v] (by simp [Tk.v_len]) (by decide) (by simp) #[(0, .agg (tkN.v).toArray)] rfl rfl (by decide)
  have EQ1 : Hid ([tkN.v].flatten = flatR LT [tkN]) := Lib.hid (by unfold flatR; rfl)
  obtain ⟨FQ1, hFQ1⟩ : ∃ X, [tkN.v].flatten = X := ⟨_, rfl⟩; rw [hFQ1] at Q1 EQ1; clear hFQ1; replace Q1 := Lib.hid Q1
  have Q2 := fun W => run_bsliceN (P := Try.prog) (n := 2) W 22 34 tiT _ 36 Try.underlying22 hinT zT0 zT1 rfl [tkA1.v, tkA2.v] (by simp [Tk.v_len]) (by decide) (by simp) #[(0, .agg (tkA1.v).toArray), (1, .agg (tkA2.v).toArray)] rfl rfl (by decide)
  have EQ2 : Hid ([tkA1.v, tkA2.v].flatten = flatR LT [tkA1, tkA2]) := Lib.hid (by unfold flatR; rfl)
  obtain ⟨FQ2, hFQ2⟩ : ∃ X, [tkA1.v, tkA2.v].flatten = X := ⟨_, rfl⟩; rw [hFQ2] at Q2 EQ2; clear hFQ2; replace Q2 := Lib.hid Q2
  have Q3 := fun W => run_bsliceN (P := Try.prog) (n := 2) W 23 39 tiC _ 47 Try.underlying23 hinC zC0 zC1 rfl [ccell gone, ccell gone] (by simp [ccell_len]) (by decide) (by simp) #[(0, .agg (ccell gone).toArray), (1, .agg (ccell gone).toArray)] rfl rfl (by decide)
  have EQ3 : Hid ([ccell gone, ccell gone].flatten = flatR LC [gone, gone]) := Lib.hid (by unfold flatR; rfl)
  obtain ⟨FQ3, hFQ3⟩ : ∃ X, [ccell gone, ccell gone].flatten = X := ⟨_, rfl⟩; rw [hFQ3] at Q3 EQ3; clear hFQ3; replace Q3 := Lib.hid Q3
  have Q4 := fun W => run_bsliceN (P := Try.prog) (n := 3) W 22 34 tiT _ 36 Try.underlying22 hinT zT0 zT1 rfl [tkA1.v, tkA1.v, tkT.v] (by simp [Tk.v_len]) (by decide) (by simp) #[(0, .agg (tkA1.v).toArray), (1, .agg (tkA1.v).toArray), (2, .agg (tkT.v).toArray)] rfl rfl (by decide)
  have EQ4 : Hid ([tkA1.v, tkA1.v, tkT.v].flatten = flatR LT [tkA1, tkA1, tkT]) := Lib.hid (by unfold flatR; rfl)
  obtain ⟨FQ4, hFQ4⟩ : ∃ X, [tkA1.v, tkA1.v, tkT.v].flatten = X := ⟨_, rfl⟩; rw [hFQ4] at Q4 EQ4; clear hFQ4; replace Q4 := Lib.hid Q4
  have Q5 := fun W => run_bsliceN (P := Try.prog) (n := 1) W 23 39 tiC _ 47 Try.underlying23 hinC zC0 zC1 rfl [ccell Cmd.zero] (by simp [ccell_len]) (by decide) (by simp) #[(0, .agg (ccell Cmd.zero).toArray)] rfl rfl (by decide)
  have EQ5 : Hid ([ccell Cmd.zero].flatten = flatR LC [Cmd.zero]) := Lib.hid (by unfold flatR; rfl)
  obtain ⟨FQ5, hFQ5⟩ : ∃ X, [ccell Cmd.zero].flatten = X := ⟨_, rfl⟩; rw [hFQ5] at Q5 EQ5; clear hFQ5; replace Q5 := Lib.hid Q5
  obtain ⟨VH, hVH⟩ : ∃ X, tkH.v = X := ⟨_, rfl⟩
  rw [hVH] at PH BH
  clear hVH
  obtain ⟨VT, hVT⟩ : ∃ X, tkT.v = X := ⟨_, rfl⟩
  rw [hVT] at PTT PM BTT Q4
  clear hVT
  obtain ⟨VN, hVN⟩ : ∃ X, tkN.v = X := ⟨_, rfl⟩
  rw [hVN] at BN Q1
  clear hVN
  obtain ⟨V1, hV1⟩ : ∃ X, tkA1.v = X := ⟨_, rfl⟩
  rw [hV1] at B1 Q2 Q4
  clear hV1
  obtain ⟨V2, hV2⟩ : ∃ X, tkA2.v = X := ⟨_, rfl⟩
  rw [hV2] at BT2 Q2
  clear hV2
  obtain ⟨DG, hDG⟩ : ∃ X, ((zeroD.set 0 1).map (Value.int .u8)) = X := ⟨_, rfl⟩
  rw [hDG] at BD1 BT2
  clear hDG
  obtain ⟨CG, hCG⟩ : ∃ X, ccell gone = X := ⟨_, rfl⟩
  rw [hCG] at PG PS LG BG SG LGN OG HOC NG Q3
  clear hCG
  obtain ⟨CO, hCO⟩ : ∃ X, ccell oth = X := ⟨_, rfl⟩
  rw [hCO] at PO LO SO HOC
  clear hCO
  obtain ⟨CR, hCR⟩ : ∃ X, ccell rotd = X := ⟨_, rfl⟩
  rw [hCR] at PR BR
  clear hCR
  obtain ⟨FO, hFO⟩ : ∃ X, mcell (Frm.cmd oth) = X := ⟨_, rfl⟩
  rw [hFO] at AO LO
  clear hFO
  obtain ⟨FGN, hFGN⟩ : ∃ X, mcell (Frm.cmd gone) = X := ⟨_, rfl⟩
  rw [hFGN] at AG LG
  clear hFGN
  obtain ⟨FZ, hFZ⟩ : ∃ X, mcell Frm.zero = X := ⟨_, rfl⟩
  rw [hFZ] at AZ A2 BF
  clear hFZ
  obtain ⟨CZ, hCZ⟩ : ∃ X, ccell Cmd.zero = X := ⟨_, rfl⟩; rw [hCZ] at PZ BZ Q5
  go_enter Try.func3, Try.ntmps3
  go_upto_region 2 with fail
  refine F_gen (F := fun W => Code.wp _ _ _ _ W) (J := fun W => Box W (w.heap.size) (id0) ∧ Below w.heap.size w W) (And.intro (Box.newc rfl rfl) (by go_grown)) ?_
  intro w0 ⟨e_full, hB0⟩
  have hs0 := hB0.size
  have x_full0 := e_full; clear e_full
  go_wp2_with fail
  go_loopw [2] (fun p2 wr => ∃ (k : Nat) (a1 a2 : Option Addr) (c1 c2 : Nat), k ≤ 99 ∧ p2 = .int .i64 k ∧ Hid (wr.ownsRow (w.heap.size + 1) 34 36 (.slice a1 k c1) k (flatR LT (tks k))) ∧ Hid (wr.ownsRow (w.heap.size + 1) 39 47 (.slice a2 0 c2) 0 (flatR LC [])) ∧ Box wr w.heap.size [.slice a1 k c1, .slice a2 0 c2] ∧ Below w.heap.size w wr) (fun p2 _ => 99 - (intOf p2).toNat)
  case atStart => exact ⟨0, none, none, 0, 0, by decide, rfl, Lib.hid ownR_none, Lib.hid ownR_none, x_full0, hB0⟩
  case round =>
    clear x_full0 hB0 hs0
    obtain ⟨k, a1, a2, c1, c2, hk, rfl, O_ra60, O_rb60, x_full60, hB60⟩ := hrel
    have hs60 := hB60.size
    by_cases hlt : k < 99
    case pos =>
      have PK := fun (W : World) (v : Value) (h : IsD W v (tks k) []) => ptok_is (tkn k) (by rw [tks_len]; simp; omega) (put_k hlt) W h
      have BK := fun W => bld_tk (k : Int) (by omega) W; rw [tkq_k (by omega)] at BK
      have HW : IntKind.u32.wrap (k : Int) = (k : Int) := by rw [IntKind.wrap_u32]; omega
      obtain ⟨VK, hVK⟩ : ∃ X, (tkn k).v = X := ⟨_, rfl⟩; rw [hVK] at PK BK; clear hVK
      have ID : IsD wr (.agg #[.slice a1 k c1, .slice a2 0 c2]) (tks k) [] := ⟨_, _, rfl, IsR.own O_ra60.out rfl (tks_len k).symm, IsR.own O_rb60.out rfl rfl⟩
      have lz := x_full60.lt
      go_wp2_with (first | (refine wpList_load_box9 rfl _ _ rfl x_full60 rfl Try.underlying25 rfl (size_id12 _ _) ?_) | (refine wpList_build9 rfl 34 _ rfl (us := #[(1, .int .u32 (k : Int))]) (by rfl) (BK _) ?_))
      refine (PK _ _ ID).mono ?_
      rintro e w61 ⟨x1, x2, rfl, o1, o2, hb⟩
      clear PK BK ID HW
      have o1 := ownR_len (ownR_base o1 (show w.heap.size + 1 ≤ _ by omega)) (tks_len (k + 1)); have o2 := ownR_base o2 (show w.heap.size + 1 ≤ _ by omega); obtain ⟨p1, n1, rfl⟩ := own_slR o1; obtain ⟨p2, n2, rfl⟩ := own_slR o2
      clear O_ra60
      clear O_rb60
      have hB61 : Below w.heap.size w w61 := below_thru hB60 hb
      have hs61 := hB61.size
      have x_full61 : Box w61 (w.heap.size) ([.slice a1 k c1, .slice a2 0 c2]) := Box.below x_full60 hb
      clear hB60 hs60 x_full60
      clear hb lz
      have O_qa61 : Hid (w61.ownsRow (w.heap.size + 1) 34 36 (.slice p1 (k + 1) n1) (k + 1) (flatR LT (tks (k + 1)))) := Lib.hid (o1)
      have O_qb61 : Hid (w61.ownsRow (w.heap.size + 1) 39 47 (.slice p2 ([] : List Cmd).length n2) (([] : List Cmd).length) (flatR LC [])) := Lib.hid (o2)
      clear o1 o2
      have d_next_full := (x_full61).lt
      have d_next_0 := hs61
      go_upto_region 6 with (refine wpList_store_box (cs := [.slice p1 (k + 1) n1, .slice p2 0 n2]) rfl _ _ _ rfl (Box.newc (l := id0) rfl rfl) rfl rfl (size_id12 _ _) rfl (one_id12 _ _ _ _ _ _) ?_; intro W61_0 hW61_0)
      have hN : Below w61.heap.size w61 W61_0 := (hW61_0.below _ _ (by omega) ((Below.refl _ w61).alloc (Nat.le_refl _) _))
      have x_next62 : Box W61_0 (w61.heap.size) ([.slice p1 (k + 1) n1, .slice p2 0 n2]) := hW61_0.box
      have O_qa62 : Hid (W61_0.ownsRow (w.heap.size + 1) 34 36 (.slice p1 (k + 1) n1) (k + 1) (flatR LT (tks (k + 1)))) := Lib.hid (ownR_below O_qa61.out hN)
      have O_qb62 : Hid (W61_0.ownsRow (w.heap.size + 1) 39 47 (.slice p2 ([] : List Cmd).length n2) (([] : List Cmd).length) (flatR LC [])) := Lib.hid (ownR_below O_qb61.out hN)
      clear O_qa61 O_qb61
      have hB62 : Below w.heap.size w W61_0 := below_thru hB61 hN
      have hs62 := hB62.size
      have x_full62 : Box W61_0 (w.heap.size) ([.slice a1 k c1, .slice a2 0 c2]) := Box.below x_full61 hN
      clear hB61 hs61 x_full61
      clear hN hW61_0
      have lf := (x_full62).lt; have ln := (x_next62).lt
      go_upto_region 4 with (first | (refine wpList_load_box9 rfl _ _ rfl x_next62 rfl Try.underlying25 rfl (size_id12 _ _) ?_) | (refine wpList_store_box (cs := [.slice p1 (k + 1) n1, .slice p2 0 n2]) rfl _ _ _ rfl x_full62 rfl rfl (size_id12 _ _) rfl (one_id12 _ _ _ _ _ _) ?_; intro W98 hW98))
      have O1 := Lib.hid (ownR_stored hW98 O_qa62.out (by omega)); have O2 := Lib.hid (ownR_stored hW98 O_qb62.out (by omega)); have hB98 := hW98.below _ _ (Nat.le_refl _) hB62; have xf98 := hW98.box
      clear hW98 O_qa62 O_qb62 x_full62 x_next62 lf ln
      go_wp2_with fail
      go_roundw
      case rel => exact ⟨k + 1, p1, p2, n1, n2, by omega, by go_num, O1, O2, xf98, hB98⟩
      case measure => simp [intOf]; omega
    case neg =>
      obtain rfl : k = 99 := by omega
      have hn : decide ((99 : Int) < 99) = false := rfl
      have I0 : Hid (IsD wr (.agg #[.slice a1 99 c1, .slice a2 0 c2]) (tks 99) []) := Lib.hid ⟨_, _, rfl, IsR.own O_ra60.out rfl (tks_len 99).symm, IsR.own O_rb60.out rfl rfl⟩; clear O_ra60 O_rb60 hlt hk
      go_upto_region 9 with fail
      have K_wr_60 : Below wr.heap.size wr wr := Below.refl _ _
      have d_gone_full := (x_full60).lt
      have d_gone_0 := hs60
      go_upto_region 10 with (first
        | (refine wpList_build9 rfl 39 _ rfl (us := #[(0, .int .u8 2), (1, .int .u32 3)]) (by rfl) (BG _) ?_)
        | (refine wpList_store_box (cs := CG) rfl _ _ _ rfl (Box.newc (l := ccell Cmd.zero) rfl rfl) rfl rfl SG.out LGN.out OG.out ?_; intro W60_0 hW60_0))
      have hN : Below wr.heap.size wr W60_0 := (hW60_0.below _ _ (by omega) ((Below.refl _ wr).alloc (Nat.le_refl _) _))
      have x_gone61 : Box W60_0 (wr.heap.size) (CG) := hW60_0.box
      have K_wr_61 : Below wr.heap.size wr W60_0 := below_thru K_wr_60 hN
      clear K_wr_60
      have hB61 : Below w.heap.size w W60_0 := below_thru hB60 hN
      have hs61 := hB61.size
      have x_full61 : Box W60_0 (w.heap.size) ([.slice a1 99 c1, .slice a2 0 c2]) := Box.below x_full60 hN
      clear hB60 hs60 x_full60
      clear hN hW60_0
      have lz := (x_full61).lt; have lz2 := hs61
      go_wp2_with (first | (refine wpList_load_box9 rfl _ _ rfl x_full61 rfl Try.underlying25 rfl (size_id12 _ _) ?_) | (refine wpList_load_box9 rfl _ _ rfl x_gone61 rfl Try.underlying39 rfl SG.out ?_))
      refine (PG _ _ (I0.out.below K_wr_61)).mono ?_
      rintro e w62 ⟨x1, x2, rfl, o1, o2, hb⟩
      have o1 := ownR_base o1 (show w.heap.size + 1 ≤ _ by omega); have o2 := ownR_base o2 (show w.heap.size + 1 ≤ _ by omega); obtain ⟨p1, n1, rfl⟩ := own_slR o1; obtain ⟨p2, n2, rfl⟩ := own_slR o2
      clear K_wr_61 I0 lz lz2
      have hB62 : Below w.heap.size w w62 := below_thru hB61 hb
      have hs62 := hB62.size
      have x_full62 : Box w62 (w.heap.size) ([.slice a1 99 c1, .slice a2 0 c2]) := Box.below x_full61 hb
      have x_gone62 : Box w62 (wr.heap.size) (CG) := Box.below x_gone61 hb
      clear hB61 hs61 x_full61 x_gone61
      clear hb
      have lf := (x_full62).lt; have lg := (x_gone62).lt
      go_upto_region 11 with (refine wpList_store_box (cs := [.slice p1 (tks 99).length n1, .slice p2 [gone].length n2]) rfl _ _ _ rfl x_full62 rfl rfl (size_id12 _ _) rfl (one_id12 _ _ _ _ _ _) ?_; intro w71 hW71)
      have IF : Hid (IsD w71 (.agg #[.slice p1 (tks 99).length n1, .slice p2 [gone].length n2]) (tks 99) [gone]) := Lib.hid ⟨_, _, rfl, IsR.own (ownR_stored hW71 o1 (by omega)) rfl rfl, IsR.own (ownR_stored hW71 o2 (by omega)) rfl rfl⟩
      have x_gone71 : Box w71 (wr.heap.size) CG := hW71.past _ _ (by omega) x_gone62; have x_full71 : Box w71 w.heap.size [.slice p1 (tks 99).length n1, .slice p2 [gone].length n2] := hW71.box; have hB71 := hW71.below _ _ (Nat.le_refl _) hB62; have hs71 := hB71.size
      clear o1 o2 hW71 lf lg x_full62 x_gone62 hB62 hs62
      have K_w71_71 : Below w71.heap.size w71 w71 := Below.refl _ _
      go_wp2_with (first | (refine wpList_load_box9 rfl _ _ rfl x_full71 rfl Try.underlying25 rfl (size_id12 _ _) ?_) | (refine wpList_load_box9 rfl _ _ rfl x_gone71 rfl Try.underlying39 rfl SG.out ?_))
      refine (PS _ _ (IF.out.below K_w71_71)).mono ?_
      rintro e w72 ⟨x1s, x2s, rfl, o1s, o2s, hb⟩
      have Is : Hid (IsD w72 (.agg #[x1s, x2s]) (tks 99) [gone]) := Lib.hid ⟨_, _, rfl, IsR.own o1s rfl rfl, IsR.own o2s rfl rfl⟩
      obtain ⟨p1s, n1s, rfl⟩ := own_slR o1s; obtain ⟨p2s, n2s, rfl⟩ := own_slR o2s; clear o1s o2s
      have K_w71_72 : Below w71.heap.size w71 w72 := below_thru K_w71_71 hb
      clear K_w71_71
      have hB72 : Below w.heap.size w w72 := below_thru hB71 hb
      have hs72 := hB72.size
      have x_full72 : Box w72 (w.heap.size) ([.slice p1 (tks 99).length n1, .slice p2 [gone].length n2]) := Box.below x_full71 hb
      have x_gone72 : Box w72 (wr.heap.size) (CG) := Box.below x_gone71 hb
      clear hB71 hs71 x_full71 x_gone71
      clear hb
      have K_w72_72 : Below w72.heap.size w72 w72 := Below.refl _ _
      have d_same_full := (x_full72).lt
      have d_same_gone := (x_gone72).lt
      have d_same_0 := hs72
      go_upto_region 12 with (refine wpList_store_box (cs := [.slice p1s ((tks 99)).length n1s, .slice p2s ([gone]).length n2s]) rfl _ _ _ rfl (Box.newc (l := id0) rfl rfl) rfl rfl (size_id12 _ _) rfl (one_id12 _ _ _ _ _ _) ?_; intro W72_0 hW72_0)
      have hN : Below w72.heap.size w72 W72_0 := (hW72_0.below _ _ (by omega) ((Below.refl _ w72).alloc (Nat.le_refl _) _))
      have x_same73 : Box W72_0 (w72.heap.size) ([.slice p1s ((tks 99)).length n1s, .slice p2s ([gone]).length n2s]) := hW72_0.box
      have K_w71_73 : Below w71.heap.size w71 W72_0 := below_thru K_w71_72 hN
      have K_w72_73 : Below w72.heap.size w72 W72_0 := below_thru K_w72_72 hN
      clear K_w71_72 K_w72_72
      have hB73 : Below w.heap.size w W72_0 := below_thru hB72 hN
      have hs73 := hB73.size
      have x_full73 : Box W72_0 (w.heap.size) ([.slice p1 (tks 99).length n1, .slice p2 [gone].length n2]) := Box.below x_full72 hN
      have x_gone73 : Box W72_0 (wr.heap.size) (CG) := Box.below x_gone72 hN
      clear hB72 hs72 x_full72 x_gone72
      clear hN hW72_0
      go_wp2_with (first | (refine wpList_load_box9 rfl _ _ rfl x_full73 rfl Try.underlying25 rfl (size_id12 _ _) ?_) | (refine wpList_build9 rfl 34 _ rfl (us := #[(1, .int .u32 100)]) (by rfl) (BH _) ?_))
      refine (PH _ _ (IF.out.below K_w71_73)).mono ?_
      rintro e w74 ⟨x1h, x2h, rfl, o1h, o2h, hb⟩
      obtain ⟨p1h, n1h, rfl⟩ := own_slR o1h; obtain ⟨p2h, n2h, rfl⟩ := own_slR o2h; clear o1h o2h
      have K_w71_74 : Below w71.heap.size w71 w74 := below_thru K_w71_73 hb
      have K_w72_74 : Below w72.heap.size w72 w74 := below_thru K_w72_73 hb
      clear K_w71_73 K_w72_73
      have hB74 : Below w.heap.size w w74 := below_thru hB73 hb
      have hs74 := hB74.size
      have x_full74 : Box w74 (w.heap.size) ([.slice p1 (tks 99).length n1, .slice p2 [gone].length n2]) := Box.below x_full73 hb
      have x_gone74 : Box w74 (wr.heap.size) (CG) := Box.below x_gone73 hb
      have x_same74 : Box w74 (w72.heap.size) ([.slice p1s ((tks 99)).length n1s, .slice p2s ([gone]).length n2s]) := Box.below x_same73 hb
      clear hB73 hs73 x_full73 x_gone73 x_same73
      clear hb
      have d_zh_full := (x_full74).lt
      have d_zh_gone := (x_gone74).lt
      have d_zh_same := (x_same74).lt
      have d_zh_0 := hs74
      go_upto_region 13 with (refine wpList_store_box (cs := [.slice p1h (([] : List Tk)).length n1h, .slice p2h (([] : List Cmd)).length n2h]) rfl _ _ _ rfl (Box.newc (l := id0) rfl rfl) rfl rfl (size_id12 _ _) rfl (one_id12 _ _ _ _ _ _) ?_; intro W74_0 hW74_0)
      have hN : Below w74.heap.size w74 W74_0 := (hW74_0.below _ _ (by omega) ((Below.refl _ w74).alloc (Nat.le_refl _) _))
      have x_zh75 : Box W74_0 (w74.heap.size) ([.slice p1h (([] : List Tk)).length n1h, .slice p2h (([] : List Cmd)).length n2h]) := hW74_0.box
      have K_w71_75 : Below w71.heap.size w71 W74_0 := below_thru K_w71_74 hN
      have K_w72_75 : Below w72.heap.size w72 W74_0 := below_thru K_w72_74 hN
      clear K_w71_74 K_w72_74
      have hB75 : Below w.heap.size w W74_0 := below_thru hB74 hN
      have hs75 := hB75.size
      have x_full75 : Box W74_0 (w.heap.size) ([.slice p1 (tks 99).length n1, .slice p2 [gone].length n2]) := Box.below x_full74 hN
      have x_gone75 : Box W74_0 (wr.heap.size) (CG) := Box.below x_gone74 hN
      have x_same75 : Box W74_0 (w72.heap.size) ([.slice p1s ((tks 99)).length n1s, .slice p2s ([gone]).length n2s]) := Box.below x_same74 hN
      clear hB74 hs74 x_full74 x_gone74 x_same74
      clear hN hW74_0
      clear x_zh75
      go_wp2_with (first | (refine wpList_load_box9 rfl _ _ rfl x_full75 rfl Try.underlying25 rfl (size_id12 _ _) ?_) | (refine wpList_build9 rfl 39 _ rfl (us := #[(0, .int .u8 4)]) (by rfl) (BR _) ?_))
      refine (PR _ _ (IF.out.below K_w71_75)).mono ?_
      rintro e w76 ⟨x1r, x2r, rfl, o1r, o2r, hb⟩
      obtain ⟨p1r, n1r, rfl⟩ := own_slR o1r; obtain ⟨p2r, n2r, rfl⟩ := own_slR o2r; clear o1r o2r
      have K_w71_76 : Below w71.heap.size w71 w76 := below_thru K_w71_75 hb
      have K_w72_76 : Below w72.heap.size w72 w76 := below_thru K_w72_75 hb
      clear K_w71_75 K_w72_75
      have hB76 : Below w.heap.size w w76 := below_thru hB75 hb
      have hs76 := hB76.size
      have x_full76 : Box w76 (w.heap.size) ([.slice p1 (tks 99).length n1, .slice p2 [gone].length n2]) := Box.below x_full75 hb
      have x_gone76 : Box w76 (wr.heap.size) (CG) := Box.below x_gone75 hb
      have x_same76 : Box w76 (w72.heap.size) ([.slice p1s ((tks 99)).length n1s, .slice p2s ([gone]).length n2s]) := Box.below x_same75 hb
      clear hB75 hs75 x_full75 x_gone75 x_same75
      clear hb
      have d_zr_full := (x_full76).lt
      have d_zr_gone := (x_gone76).lt
      have d_zr_same := (x_same76).lt
      have d_zr_0 := hs76
      go_upto_region 14 with (refine wpList_store_box (cs := [.slice p1r (([] : List Tk)).length n1r, .slice p2r (([] : List Cmd)).length n2r]) rfl _ _ _ rfl (Box.newc (l := id0) rfl rfl) rfl rfl (size_id12 _ _) rfl (one_id12 _ _ _ _ _ _) ?_; intro W76_0 hW76_0)
      have hN : Below w76.heap.size w76 W76_0 := (hW76_0.below _ _ (by omega) ((Below.refl _ w76).alloc (Nat.le_refl _) _))
      have x_zr77 : Box W76_0 (w76.heap.size) ([.slice p1r (([] : List Tk)).length n1r, .slice p2r (([] : List Cmd)).length n2r]) := hW76_0.box
      have K_w71_77 : Below w71.heap.size w71 W76_0 := below_thru K_w71_76 hN
      have K_w72_77 : Below w72.heap.size w72 W76_0 := below_thru K_w72_76 hN
      clear K_w71_76 K_w72_76
      have hB77 : Below w.heap.size w W76_0 := below_thru hB76 hN
      have hs77 := hB77.size
      have x_full77 : Box W76_0 (w.heap.size) ([.slice p1 (tks 99).length n1, .slice p2 [gone].length n2]) := Box.below x_full76 hN
      have x_gone77 : Box W76_0 (wr.heap.size) (CG) := Box.below x_gone76 hN
      have x_same77 : Box W76_0 (w72.heap.size) ([.slice p1s ((tks 99)).length n1s, .slice p2s ([gone]).length n2s]) := Box.below x_same76 hN
      clear hB76 hs76 x_full76 x_gone76 x_same76
      clear hN hW76_0
      clear x_zr77
      have lk_w71 := Below.size K_w71_77
      have lk_w72 := Below.size K_w72_77
      have d_oth_full := (x_full77).lt
      have d_oth_gone := (x_gone77).lt
      have d_oth_same := (x_same77).lt
      have d_oth_0 := hs77
      go_upto_region 15 with (first
        | (refine wpList_load_box9 rfl _ _ rfl x_gone77 rfl Try.underlying39 rfl SG.out ?_)
        | (refine wpList_store_box (cs := CG) rfl _ _ _ rfl (Box.newc (l := ccell Cmd.zero) rfl rfl) rfl rfl SG.out LGN.out OG.out ?_; intro W77_0 hW77_0))
      have hN : Below W76_0.heap.size W76_0 W77_0 := (hW77_0.below _ _ (by omega) ((Below.refl _ W76_0).alloc (Nat.le_refl _) _))
      have x_oth78 : Box W77_0 (W76_0.heap.size) (CG) := hW77_0.box
      have K_w71_78 : Below w71.heap.size w71 W77_0 := below_thru K_w71_77 hN
      have K_w72_78 : Below w72.heap.size w72 W77_0 := below_thru K_w72_77 hN
      clear K_w71_77 K_w72_77
      have hB78 : Below w.heap.size w W77_0 := below_thru hB77 hN
      have hs78 := hB78.size
      have x_full78 : Box W77_0 (w.heap.size) ([.slice p1 (tks 99).length n1, .slice p2 [gone].length n2]) := Box.below x_full77 hN
      have x_gone78 : Box W77_0 (wr.heap.size) (CG) := Box.below x_gone77 hN
      have x_same78 : Box W77_0 (w72.heap.size) ([.slice p1s ((tks 99)).length n1s, .slice p2s ([gone]).length n2s]) := Box.below x_same77 hN
      clear hB77 hs77 x_full77 x_gone77 x_same77
      clear hN hW77_0
      have lq_full := (x_full78).lt
      have lq_gone := (x_gone78).lt
      have lq_same := (x_same78).lt
      have lq_oth := (x_oth78).lt
      go_upto_region 16 with (refine wpList_store_cell (k := 46) (ws := CO) (v := .int .u8 1) rfl _ _ _ rfl x_oth78 rfl rfl rfl rfl SU8.out NG.out HOC.out.symm ?_; intro w90 hS90)
      have x_full90 : Box w90 (w.heap.size) ([.slice p1 (tks 99).length n1, .slice p2 [gone].length n2]) := hS90.past _ _ (by omega) x_full78
      have x_gone90 : Box w90 (wr.heap.size) (CG) := hS90.past _ _ (by omega) x_gone78
      have x_same90 : Box w90 (w72.heap.size) ([.slice p1s ((tks 99)).length n1s, .slice p2s ([gone]).length n2s]) := hS90.past _ _ (by omega) x_same78
      have x_oth90 : Box w90 (W76_0.heap.size) (CO) := hS90.box
      have K_w71_90 : Below w71.heap.size w71 w90 := hS90.below _ _ (by omega) K_w71_78
      have K_w72_90 : Below w72.heap.size w72 w90 := hS90.below _ _ (by omega) K_w72_78
      have hB90 := hS90.below _ _ (by omega) hB78; have hs90 := hB90.size
      clear hS90 x_full78 x_gone78 x_same78 x_oth78 K_w71_78 K_w72_78 hB78 lq_full lq_gone lq_same lq_oth hs78 lk_w71 lk_w72
      go_wp2_with (first | (refine wpList_load_box9 rfl _ _ rfl x_full90 rfl Try.underlying25 rfl (size_id12 _ _) ?_) | (refine wpList_load_box9 rfl _ _ rfl x_oth90 rfl Try.underlying39 rfl SO.out ?_))
      refine (PO _ _ (IF.out.below K_w71_90)).mono ?_
      rintro e w91 ⟨x1o, x2o, rfl, o1o, o2o, hb⟩
      obtain ⟨p1o, n1o, rfl⟩ := own_slR o1o; obtain ⟨p2o, n2o, rfl⟩ := own_slR o2o; clear o1o o2o
      have K_w71_91 : Below w71.heap.size w71 w91 := below_thru K_w71_90 hb
      have K_w72_91 : Below w72.heap.size w72 w91 := below_thru K_w72_90 hb
      clear K_w71_90 K_w72_90
      have hB91 : Below w.heap.size w w91 := below_thru hB90 hb
      have hs91 := hB91.size
      have x_full91 : Box w91 (w.heap.size) ([.slice p1 (tks 99).length n1, .slice p2 [gone].length n2]) := Box.below x_full90 hb
      have x_gone91 : Box w91 (wr.heap.size) (CG) := Box.below x_gone90 hb
      have x_same91 : Box w91 (w72.heap.size) ([.slice p1s ((tks 99)).length n1s, .slice p2s ([gone]).length n2s]) := Box.below x_same90 hb
      have x_oth91 : Box w91 (W76_0.heap.size) (CO) := Box.below x_oth90 hb
      clear hB90 hs90 x_full90 x_gone90 x_same90 x_oth90
      clear hb
      have d_zo_full := (x_full91).lt
      have d_zo_gone := (x_gone91).lt
      have d_zo_same := (x_same91).lt
      have d_zo_oth := (x_oth91).lt
      have d_zo_0 := hs91
      go_upto_region 17 with (refine wpList_store_box (cs := [.slice p1o (([] : List Tk)).length n1o, .slice p2o (([] : List Cmd)).length n2o]) rfl _ _ _ rfl (Box.newc (l := id0) rfl rfl) rfl rfl (size_id12 _ _) rfl (one_id12 _ _ _ _ _ _) ?_; intro W91_0 hW91_0)
      have hN : Below w91.heap.size w91 W91_0 := (hW91_0.below _ _ (by omega) ((Below.refl _ w91).alloc (Nat.le_refl _) _))
      have x_zo92 : Box W91_0 (w91.heap.size) ([.slice p1o (([] : List Tk)).length n1o, .slice p2o (([] : List Cmd)).length n2o]) := hW91_0.box
      have K_w71_92 : Below w71.heap.size w71 W91_0 := below_thru K_w71_91 hN
      have K_w72_92 : Below w72.heap.size w72 W91_0 := below_thru K_w72_91 hN
      clear K_w71_91 K_w72_91
      have hB92 : Below w.heap.size w W91_0 := below_thru hB91 hN
      have hs92 := hB92.size
      have x_full92 : Box W91_0 (w.heap.size) ([.slice p1 (tks 99).length n1, .slice p2 [gone].length n2]) := Box.below x_full91 hN
      have x_gone92 : Box W91_0 (wr.heap.size) (CG) := Box.below x_gone91 hN
      have x_same92 : Box W91_0 (w72.heap.size) ([.slice p1s ((tks 99)).length n1s, .slice p2s ([gone]).length n2s]) := Box.below x_same91 hN
      have x_oth92 : Box W91_0 (W76_0.heap.size) (CO) := Box.below x_oth91 hN
      clear hB91 hs91 x_full91 x_gone91 x_same91 x_oth91
      clear hN hW91_0
      clear x_zo92
      go_wp2_with (first | (refine wpList_load_box9 rfl _ _ rfl x_full92 rfl Try.underlying25 rfl (size_id12 _ _) ?_) | (refine wpList_build9 rfl 34 _ rfl (us := #[(0, .int .u32 16)]) (by rfl) (BTT _) ?_))
      refine (PTT _ _ (IF.out.below K_w71_92)).mono ?_
      rintro e w93 ⟨x1t, x2t, rfl, o1t, o2t, hb⟩
      obtain ⟨p1t, n1t, rfl⟩ := own_slR o1t; obtain ⟨p2t, n2t, rfl⟩ := own_slR o2t; clear o1t o2t
      have K_w71_93 : Below w71.heap.size w71 w93 := below_thru K_w71_92 hb
      have K_w72_93 : Below w72.heap.size w72 w93 := below_thru K_w72_92 hb
      clear K_w71_92 K_w72_92
      have hB93 : Below w.heap.size w w93 := below_thru hB92 hb
      have hs93 := hB93.size
      have x_full93 : Box w93 (w.heap.size) ([.slice p1 (tks 99).length n1, .slice p2 [gone].length n2]) := Box.below x_full92 hb
      have x_gone93 : Box w93 (wr.heap.size) (CG) := Box.below x_gone92 hb
      have x_same93 : Box w93 (w72.heap.size) ([.slice p1s ((tks 99)).length n1s, .slice p2s ([gone]).length n2s]) := Box.below x_same92 hb
      have x_oth93 : Box w93 (W76_0.heap.size) (CO) := Box.below x_oth92 hb
      clear hB92 hs92 x_full92 x_gone92 x_same92 x_oth92
      clear hb
      have d_zt_full := (x_full93).lt
      have d_zt_gone := (x_gone93).lt
      have d_zt_same := (x_same93).lt
      have d_zt_oth := (x_oth93).lt
      have d_zt_0 := hs93
      go_upto_region 18 with (refine wpList_store_box (cs := [.slice p1t (([] : List Tk)).length n1t, .slice p2t (([] : List Cmd)).length n2t]) rfl _ _ _ rfl (Box.newc (l := id0) rfl rfl) rfl rfl (size_id12 _ _) rfl (one_id12 _ _ _ _ _ _) ?_; intro W93_0 hW93_0)
      have hN : Below w93.heap.size w93 W93_0 := (hW93_0.below _ _ (by omega) ((Below.refl _ w93).alloc (Nat.le_refl _) _))
      have x_zt94 : Box W93_0 (w93.heap.size) ([.slice p1t (([] : List Tk)).length n1t, .slice p2t (([] : List Cmd)).length n2t]) := hW93_0.box
      have K_w71_94 : Below w71.heap.size w71 W93_0 := below_thru K_w71_93 hN
      have K_w72_94 : Below w72.heap.size w72 W93_0 := below_thru K_w72_93 hN
      clear K_w71_93 K_w72_93
      have hB94 : Below w.heap.size w W93_0 := below_thru hB93 hN
      have hs94 := hB94.size
      have x_full94 : Box W93_0 (w.heap.size) ([.slice p1 (tks 99).length n1, .slice p2 [gone].length n2]) := Box.below x_full93 hN
      have x_gone94 : Box W93_0 (wr.heap.size) (CG) := Box.below x_gone93 hN
      have x_same94 : Box W93_0 (w72.heap.size) ([.slice p1s ((tks 99)).length n1s, .slice p2s ([gone]).length n2s]) := Box.below x_same93 hN
      have x_oth94 : Box W93_0 (W76_0.heap.size) (CO) := Box.below x_oth93 hN
      clear hB93 hs93 x_full93 x_gone93 x_same93 x_oth93
      clear hN hW93_0
      clear x_zt94
      go_wp2_with (first | (refine wpList_load_box9 rfl _ _ rfl x_full94 rfl Try.underlying25 rfl (size_id12 _ _) ?_) | (refine wpList_build9 rfl 39 _ rfl (us := #[]) (by rfl) (BZ _) ?_))
      refine (PZ _ _ (IF.out.below K_w71_94)).mono ?_
      rintro e w95 ⟨x1z, x2z, rfl, o1z, o2z, hb⟩
      obtain ⟨p1z, n1z, rfl⟩ := own_slR o1z; obtain ⟨p2z, n2z, rfl⟩ := own_slR o2z; clear o1z o2z
      have K_w71_95 : Below w71.heap.size w71 w95 := below_thru K_w71_94 hb
      have K_w72_95 : Below w72.heap.size w72 w95 := below_thru K_w72_94 hb
      clear K_w71_94 K_w72_94
      have hB95 : Below w.heap.size w w95 := below_thru hB94 hb
      have hs95 := hB95.size
      have x_full95 : Box w95 (w.heap.size) ([.slice p1 (tks 99).length n1, .slice p2 [gone].length n2]) := Box.below x_full94 hb
      have x_gone95 : Box w95 (wr.heap.size) (CG) := Box.below x_gone94 hb
      have x_same95 : Box w95 (w72.heap.size) ([.slice p1s ((tks 99)).length n1s, .slice p2s ([gone]).length n2s]) := Box.below x_same94 hb
      have x_oth95 : Box w95 (W76_0.heap.size) (CO) := Box.below x_oth94 hb
      clear hB94 hs94 x_full94 x_gone94 x_same94 x_oth94
      clear hb
      have d_zz_full := (x_full95).lt
      have d_zz_gone := (x_gone95).lt
      have d_zz_same := (x_same95).lt
      have d_zz_oth := (x_oth95).lt
      have d_zz_0 := hs95
      go_upto_region 19 with (refine wpList_store_box (cs := [.slice p1z (([] : List Tk)).length n1z, .slice p2z (([] : List Cmd)).length n2z]) rfl _ _ _ rfl (Box.newc (l := id0) rfl rfl) rfl rfl (size_id12 _ _) rfl (one_id12 _ _ _ _ _ _) ?_; intro W95_0 hW95_0)
      have hN : Below w95.heap.size w95 W95_0 := (hW95_0.below _ _ (by omega) ((Below.refl _ w95).alloc (Nat.le_refl _) _))
      have x_zz96 : Box W95_0 (w95.heap.size) ([.slice p1z (([] : List Tk)).length n1z, .slice p2z (([] : List Cmd)).length n2z]) := hW95_0.box
      have K_w71_96 : Below w71.heap.size w71 W95_0 := below_thru K_w71_95 hN
      have K_w72_96 : Below w72.heap.size w72 W95_0 := below_thru K_w72_95 hN
      clear K_w71_95 K_w72_95
      have hB96 : Below w.heap.size w W95_0 := below_thru hB95 hN
      have hs96 := hB96.size
      have x_full96 : Box W95_0 (w.heap.size) ([.slice p1 (tks 99).length n1, .slice p2 [gone].length n2]) := Box.below x_full95 hN
      have x_gone96 : Box W95_0 (wr.heap.size) (CG) := Box.below x_gone95 hN
      have x_same96 : Box W95_0 (w72.heap.size) ([.slice p1s ((tks 99)).length n1s, .slice p2s ([gone]).length n2s]) := Box.below x_same95 hN
      have x_oth96 : Box W95_0 (W76_0.heap.size) (CO) := Box.below x_oth95 hN
      clear hB95 hs95 x_full95 x_gone95 x_same95 x_oth95
      clear hN hW95_0
      clear x_zz96
      go_wp2_with (first
        | (refine wpList_load_box9 rfl _ _ rfl x_full96 rfl Try.underlying25 rfl (size_id12 _ _) ?_)
        | (refine wpList_build9 rfl 47 _ rfl (us := #[]) (by rfl) (BF _) ?_))
      refine (AZ _ _ (IF.out.below K_w71_96)).mono ?_
      rintro e w97 ⟨rfl, hb⟩
      have K_w71_97 : Below w71.heap.size w71 w97 := below_thru K_w71_96 hb
      have K_w72_97 : Below w72.heap.size w72 w97 := below_thru K_w72_96 hb
      clear K_w71_96 K_w72_96
      have hB97 : Below w.heap.size w w97 := below_thru hB96 hb
      have hs97 := hB97.size
      have x_full97 : Box w97 (w.heap.size) ([.slice p1 (tks 99).length n1, .slice p2 [gone].length n2]) := Box.below x_full96 hb
      have x_gone97 : Box w97 (wr.heap.size) (CG) := Box.below x_gone96 hb
      have x_same97 : Box w97 (w72.heap.size) ([.slice p1s ((tks 99)).length n1s, .slice p2s ([gone]).length n2s]) := Box.below x_same96 hb
      have x_oth97 : Box w97 (W76_0.heap.size) (CO) := Box.below x_oth96 hb
      clear hB96 hs96 x_full96 x_gone96 x_same96 x_oth96
      clear hb
      go_upto_region 20 with fail
      refine wp_region_held_drew (S := fun W => Box W (w.heap.size) ([.slice p1 (tks 99).length n1, .slice p2 [gone].length n2]) ∧ Box W (wr.heap.size) (CG) ∧ Box W (w72.heap.size) ([.slice p1s ((tks 99)).length n1s, .slice p2s ([gone]).length n2s]) ∧ Box W (W76_0.heap.size) (CO)) (by kernel_rfl) (And.intro (x_full97).drew (And.intro (x_gone97).drew (And.intro (x_same97).drew (x_oth97).drew))) (fun _ => ?_)
      refine F_drew (F := fun W => wpAnyH _ _ _ _ _ _ _ _ W) ?_
      intro We0 hbe0
      clear hs97
      have x_full_e0 : Box We0 (w.heap.size) ([.slice p1 (tks 99).length n1, .slice p2 [gone].length n2]) := Box.below x_full97 hbe0
      have x_gone_e0 : Box We0 (wr.heap.size) (CG) := Box.below x_gone97 hbe0
      have x_same_e0 : Box We0 (w72.heap.size) ([.slice p1s ((tks 99)).length n1s, .slice p2s ([gone]).length n2s]) := Box.below x_same97 hbe0
      have x_oth_e0 : Box We0 (W76_0.heap.size) (CO) := Box.below x_oth97 hbe0
      have Be0 := below_thru hB97 hbe0
      have K_w71_e0 := below_thru K_w71_97 hbe0
      have K_w72_e0 := below_thru K_w72_97 hbe0
      clear x_full97 x_gone97 x_same97 x_oth97 hB97 K_w71_97 K_w72_97 hbe0
      refine takeH 0 102 (v := .agg ([.slice p1 (tks 99).length n1, .slice p2 [gone].length n2]).toArray) rfl (by rfl) (by kernel_rfl) (by kernel_rfl) (by kernel_rfl) (fun _ _ _ h => h) (yieldsIf_load_mid (by rfl) _ _ rfl _ _ rfl ([.slice p1 (tks 99).length n1, .slice p2 [gone].length n2]) _ (fun wq hq => Box.range (hq.1)) Try.underlying25 rfl (size_id12 _ _)) ((And.intro x_full_e0 (And.intro x_gone_e0 (And.intro x_same_e0 x_oth_e0)))) ?_
      try simp only [Act.put, List.setIfInBounds_toArray, List.set_cons_zero, List.set_cons_succ]
      refine takeH 1 103 (v := .agg (CO).toArray) rfl (by rfl) (by kernel_rfl) (by kernel_rfl) (by kernel_rfl) (fun _ _ _ h => h) (yieldsIf_load_mid (by rfl) _ _ rfl _ _ rfl (CO) _ (fun wq hq => Box.range (hq.2.2.2)) Try.underlying39 rfl SO.out) ((And.intro x_full_e0 (And.intro x_gone_e0 (And.intro x_same_e0 x_oth_e0)))) ?_
      try simp only [Act.put, List.setIfInBounds_toArray, List.set_cons_zero, List.set_cons_succ]
      refine wpAnyH_ready (rs := [2]) (by kernel_rfl) (by simp) (AllReadyH.cons rfl (fun K hK => ?_) AllReadyH.nil)
      go_simp
      refine (LO _).mono ?_
      rintro e We1 ⟨rfl, hbe1⟩
      have x_full_e1 : Box We1 (w.heap.size) ([.slice p1 (tks 99).length n1, .slice p2 [gone].length n2]) := Box.below x_full_e0 hbe1
      have x_gone_e1 : Box We1 (wr.heap.size) (CG) := Box.below x_gone_e0 hbe1
      have x_same_e1 : Box We1 (w72.heap.size) ([.slice p1s ((tks 99)).length n1s, .slice p2s ([gone]).length n2s]) := Box.below x_same_e0 hbe1
      have x_oth_e1 : Box We1 (W76_0.heap.size) (CO) := Box.below x_oth_e0 hbe1
      have Be1 := below_thru Be0 hbe1
      have K_w71_e1 := below_thru K_w71_e0 hbe1
      have K_w72_e1 := below_thru K_w72_e0 hbe1
      clear x_full_e0 x_gone_e0 x_same_e0 x_oth_e0 Be0 K_w71_e0 K_w72_e0 hbe1
      refine hK.out _ _ (And.intro x_full_e1 (And.intro x_gone_e1 (And.intro x_same_e1 x_oth_e1))) (fun _ => ?_); clear hK K
      refine wpAnyH_ready (rs := [3]) (by kernel_rfl) (by simp) (AllReadyH.cons rfl (fun K hK => ?_) AllReadyH.nil)
      go_simp
      refine (AO _ _ (IF.out.below K_w71_e1)).mono ?_
      rintro e We2 ⟨rfl, hbe2⟩
      have x_full_e2 : Box We2 (w.heap.size) ([.slice p1 (tks 99).length n1, .slice p2 [gone].length n2]) := Box.below x_full_e1 hbe2
      have x_gone_e2 : Box We2 (wr.heap.size) (CG) := Box.below x_gone_e1 hbe2
      have x_same_e2 : Box We2 (w72.heap.size) ([.slice p1s ((tks 99)).length n1s, .slice p2s ([gone]).length n2s]) := Box.below x_same_e1 hbe2
      have x_oth_e2 : Box We2 (W76_0.heap.size) (CO) := Box.below x_oth_e1 hbe2
      have Be2 := below_thru Be1 hbe2
      have K_w71_e2 := below_thru K_w71_e1 hbe2
      have K_w72_e2 := below_thru K_w72_e1 hbe2
      clear x_full_e1 x_gone_e1 x_same_e1 x_oth_e1 Be1 K_w71_e1 K_w72_e1 hbe2
      refine hK.out _ _ (And.intro x_full_e2 (And.intro x_gone_e2 (And.intro x_same_e2 x_oth_e2))) (fun _ => ?_); clear hK K
      refine takeH 4 101 (v := ?ve4_3) rfl (by rfl) (by kernel_rfl) (by kernel_rfl) (by kernel_rfl) (fun _ _ _ h => h) (Or.inl ⟨by rfl, ?_⟩) ((And.intro x_full_e2 (And.intro x_gone_e2 (And.intro x_same_e2 x_oth_e2)))) ?_
      rotate_left
      · intro wq hSq
        go_simp
        exact rfl
      try simp only [Act.put, List.setIfInBounds_toArray, List.set_cons_zero, List.set_cons_succ]
      refine takeH 5 106 (v := ?ve5_4) rfl (by rfl) (by kernel_rfl) (by kernel_rfl) (by kernel_rfl) (fun _ _ _ h => h) (Or.inl ⟨by rfl, ?_⟩) ((And.intro x_full_e2 (And.intro x_gone_e2 (And.intro x_same_e2 x_oth_e2)))) ?_
      rotate_left
      · intro wq hSq
        go_simp
        exact rfl
      try simp only [Act.put, List.setIfInBounds_toArray, List.set_cons_zero, List.set_cons_succ]
      refine takeH 6 107 (v := ?ve6_5) rfl (by rfl) (by kernel_rfl) (by kernel_rfl) (by kernel_rfl) (fun _ _ _ h => h) (Or.inl ⟨by rfl, ?_⟩) ((And.intro x_full_e2 (And.intro x_gone_e2 (And.intro x_same_e2 x_oth_e2)))) ?_
      rotate_left
      · intro wq hSq
        go_simp
        exact rfl
      try simp only [Act.put, List.setIfInBounds_toArray, List.set_cons_zero, List.set_cons_succ]
      refine takeH 7 22 (v := ?ve7_6) rfl (by rfl) (by kernel_rfl) (by kernel_rfl) (by kernel_rfl) (fun _ _ _ h => h) (Or.inl ⟨by rfl, ?_⟩) ((And.intro x_full_e2 (And.intro x_gone_e2 (And.intro x_same_e2 x_oth_e2)))) ?_
      rotate_left
      · intro wq hSq
        go_simp
        exact rfl
      try simp only [Act.put, List.setIfInBounds_toArray, List.set_cons_zero, List.set_cons_succ]
      refine takeH 8 23 (v := ?ve8_7) rfl (by rfl) (by kernel_rfl) (by kernel_rfl) (by kernel_rfl) (fun _ _ _ h => h) (Or.inl ⟨by rfl, ?_⟩) ((And.intro x_full_e2 (And.intro x_gone_e2 (And.intro x_same_e2 x_oth_e2)))) ?_
      rotate_left
      · intro wq hSq
        go_simp
        exact rfl
      try simp only [Act.put, List.setIfInBounds_toArray, List.set_cons_zero, List.set_cons_succ]
      refine wpAnyH_done (by kernel_rfl) ?_ _
      have hB98 := Be2; have hs98 := hB98.size
      have x_full98 := x_full_e2
      have x_gone98 := x_gone_e2
      have x_same98 := x_same_e2
      have x_oth98 := x_oth_e2
      have K_w71_98 := K_w71_e2
      have K_w72_98 := K_w72_e2
      clear Be2 x_full_e2 x_gone_e2 x_same_e2 x_oth_e2 K_w71_e2 K_w72_e2
      clear x_oth98
      go_wp2_with (refine wpList_load_box9 rfl _ _ rfl x_full98 rfl Try.underlying25 rfl (size_id12 _ _) ?_)
      refine (TW _ _ (IF.out.below K_w71_98)).mono ?_
      rintro e w99 ⟨xm1, xm2, rfl, om1, om2, hb⟩
      obtain ⟨pm1, nm1, rfl⟩ := own_slR om1; obtain ⟨pm2, nm2, rfl⟩ := own_slR om2
      have tl : (tks 99).length = 99 := tks_len 99
      have lo_full := (x_full98).lt
      have lo_gone := (x_gone98).lt
      have lo_same := (x_same98).lt
      have lk_w71 := Below.size K_w71_98
      have lk_w72 := Below.size K_w72_98
      have lsz := hs98
      have lq0 := Below.size hb
      have K_w71_99 : Below w71.heap.size w71 w99 := below_thru K_w71_98 hb
      have K_w72_99 : Below w72.heap.size w72 w99 := below_thru K_w72_98 hb
      clear K_w71_98 K_w72_98
      have hB99 : Below w.heap.size w w99 := below_thru hB98 hb
      have hs99 := hB99.size
      have x_full99 : Box w99 (w.heap.size) ([.slice p1 (tks 99).length n1, .slice p2 [gone].length n2]) := Box.below x_full98 hb
      have x_gone99 : Box w99 (wr.heap.size) (CG) := Box.below x_gone98 hb
      have x_same99 : Box w99 (w72.heap.size) ([.slice p1s ((tks 99)).length n1s, .slice p2s ([gone]).length n2s]) := Box.below x_same98 hb
      clear hB98 hs98 x_full98 x_gone98 x_same98
      clear hb
      have O_ra99 : Hid (w99.ownsRow (We2.heap.size) 34 36 (.slice pm1 (tks 99).length nm1) ((tks 99).length) (flatR LT (tks 99))) := Lib.hid (om1)
      have O_rb99 : Hid (w99.ownsRow (We2.heap.size) 39 47 (.slice pm2 [gone].length nm2) ([gone].length) (flatR LC [gone])) := Lib.hid (om2)
      clear om1 om2
      have d_many_full := (x_full99).lt
      have d_many_gone := (x_gone99).lt
      have d_many_same := (x_same99).lt
      have d_many_0 := hs99
      go_upto_region 22 with (refine wpList_store_boxT12 (cs := [.slice pm1 (tks 99).length nm1, .slice pm2 [gone].length nm2]) rfl _ _ _ rfl (Box.newc (l := id0) rfl rfl) rfl rfl (size_id12 _ _) rfl (one_id12 _ _ _ _ _ _) ?_; intro W99_0 hW99_0 tW99_0)
      have hN : Below w99.heap.size w99 W99_0 := (hW99_0.below _ _ (by omega) ((Below.refl _ w99).alloc (Nat.le_refl _) _))
      have x_many100 : Box W99_0 (w99.heap.size) ([.slice pm1 (tks 99).length nm1, .slice pm2 [gone].length nm2]) := hW99_0.box
      have O_ra100 : Hid (W99_0.ownsRow (We2.heap.size) 34 36 (.slice pm1 (tks 99).length nm1) ((tks 99).length) (flatR LT (tks 99))) := Lib.hid (ownR_below O_ra99.out hN)
      have O_rb100 : Hid (W99_0.ownsRow (We2.heap.size) 39 47 (.slice pm2 [gone].length nm2) ([gone].length) (flatR LC [gone])) := Lib.hid (ownR_below O_rb99.out hN)
      have K_w71_100 : Below w71.heap.size w71 W99_0 := below_thru K_w71_99 hN
      have K_w72_100 : Below w72.heap.size w72 W99_0 := below_thru K_w72_99 hN
      clear O_ra99 O_rb99 K_w71_99 K_w72_99
      have hB100 : Below w.heap.size w W99_0 := below_thru hB99 hN
      have hs100 := hB100.size
      have x_full100 : Box W99_0 (w.heap.size) ([.slice p1 (tks 99).length n1, .slice p2 [gone].length n2]) := Box.below x_full99 hN
      have x_gone100 : Box W99_0 (wr.heap.size) (CG) := Box.below x_gone99 hN
      have x_same100 : Box W99_0 (w72.heap.size) ([.slice p1s ((tks 99)).length n1s, .slice p2s ([gone]).length n2s]) := Box.below x_same99 hN
      clear hB99 hs99 x_full99 x_gone99 x_same99
      clear hN hW99_0
      have Y_many100 : Ty W99_0 (w99.heap.size) 25 := tW99_0 _ (Ty.newc rfl); clear tW99_0
      have lmo : We2.heap.size ≤ w99.heap.size := by have := lq0; omega
      obtain ⟨bo, hbo⟩ : ∃ b, w99.heap.size = b := ⟨_, rfl⟩; rw [hbo] at lmo x_many100 Y_many100 ⊢; clear hbo lq0
      have cc := (x_many100).c 0 _ rfl
      have zc := (x_many100).lt
      have HIR : IsR LT (W99_0.alloc (.cells FQ1.toArray 34)) (.slice (some ⟨W99_0.heap.size, 0, none⟩) 1 1) [tkN] := IsR.ofBox (Box.newc rfl rfl) EQ1.out rfl (by decide)
      have OM : (W99_0.alloc (.cells FQ1.toArray 34)).ownsRow (We2.heap.size) 34 36 (.slice pm1 (tks 99).length nm1) ((tks 99).length) (flatR LT (tks 99)) := ownR_below O_ra100.out ((Below.refl _ _).alloc (Nat.le_refl _) _)
      have OX : (W99_0.alloc (.cells FQ1.toArray 34)).ownsRow (We2.heap.size) 39 47 (.slice pm2 [gone].length nm2) ([gone].length) (flatR LC [gone]) := ownR_below O_rb100.out ((Below.refl _ _).alloc (Nat.le_refl _) _)
      have XO := Box.alloc x_many100 (.cells FQ1.toArray 34); have YO := Ty.alloc Y_many100 (.cells FQ1.toArray 34)
      have lqm := (x_many100).lt; have zb : We2.heap.size ≤ (W99_0.alloc (.cells FQ1.toArray 34)).heap.size := by simp; omega
      go_upto_region 23 with (first | (refine wpList_build9 rfl 34 _ rfl (us := #[(1, .int .u32 99)]) (by rfl) (BN _) ?_) | (refine wpList_bsliceN rfl 22 1 _ rfl (us := #[(0, .agg VN.toArray)]) (by rfl) (Q1.out _) ?_) | (at_builtin; refine wpList_append_rows rfl LT _ _ 22 rfl (We2.heap.size) 34 tiT (.agg zT12.toArray) 36 56 rfl Try.underlying22 hinT zT0 zT1 zT2 rfl _ (tks 99).length _ rfl OM _ [tkN] rfl HIR (by rw [tl]; unfold maxLen; decide) (by rw [tl]; decide) zb ?_; intro v40 w40 own4 gr4; obtain ⟨p4, n4, rfl⟩ := own_slR own4; have XP := Box.grownT XO YO OM (by decide) gr4) | (refine wpList_store_cell (k := 0) (ws := [.slice p4 ((tks 99).length + 1) n4, .slice pm2 [gone].length nm2]) (v := .slice p4 ((tks 99).length + 1) n4) rfl _ _ _ rfl XP.1 rfl rfl rfl rfl size_sT (show 0 < 2 by decide) rfl ?_; intro w150 hS5))
      have hKB := (Below.refl (We2.heap.size) _).grown gr4 zb (ownR_block OM)
      have x_full150 : Box w150 (w.heap.size) ([.slice p1 (tks 99).length n1, .slice p2 [gone].length n2]) := hS5.past _ _ (by omega) (Box.keep12 (x_full100.alloc _) hKB (by omega))
      have x_gone150 : Box w150 (wr.heap.size) (CG) := hS5.past _ _ (by omega) (Box.keep12 (x_gone100.alloc _) hKB (by omega))
      have x_same150 : Box w150 (w72.heap.size) ([.slice p1s ((tks 99)).length n1s, .slice p2s ([gone]).length n2s]) := hS5.past _ _ (by omega) (Box.keep12 (x_same100.alloc _) hKB (by omega))
      have x_many150 : Box w150 bo [.slice p4 ((tks 99).length + 1) n4, .slice pm2 [gone].length nm2] := hS5.box
      have K_w71_150 : Below w71.heap.size w71 w150 := hS5.below _ _ (by omega) ((Below.alloc K_w71_100 (Below.size K_w71_100) _).trans (hKB.mono (by omega)))
      have K_w72_150 : Below w72.heap.size w72 w150 := hS5.below _ _ (by omega) ((Below.alloc K_w72_100 (Below.size K_w72_100) _).trans (hKB.mono (by omega)))
      have hB150 : Below w.heap.size w w150 := hS5.below _ _ (by omega) ((hB100.alloc hs100 _).trans (hKB.mono (by omega))); have hs150 := hB150.size
      have O_m := ownR_storedT hS5 XP.2 own4 (by decide); have O_x := ownR_storedT hS5 XP.2 (ownR_apart OX OM (by decide) gr4) (by decide)
      rw [show flatR LT (tks 99) ++ flatR LT [tkN] = flatR LT (tks 99 ++ [tkN]) from (flatR_app LT _ _).symm] at O_m
      have IM : Hid (IsD w150 (.agg #[.slice p4 ((tks 99).length + 1) n4, .slice pm2 [gone].length nm2]) (tks 99 ++ [tkN]) [gone]) := Lib.hid ⟨_, _, rfl, IsR.own O_m rfl (by simp), IsR.own O_x rfl rfl⟩
      clear hS5 XP own4 gr4 hKB zb XO YO OX OM HIR O_m O_x lmo lqm lsz x_full100 x_gone100 x_same100 x_many100 hB100 hs100 lo_full lo_gone lo_same lk_w71 lk_w72 Y_many100 O_ra100 O_rb100 cc zc K_w71_100 K_w72_100
      have K_w150_150 : Below w150.heap.size w150 w150 := Below.refl _ _
      have lz_full := (x_full150).lt
      have lz_gone := (x_gone150).lt
      have lz_same := (x_same150).lt
      have lz_many := (x_many150).lt
      go_upto_region 24 with (first | (refine wpList_build9 rfl 34 _ rfl (us := #[(1, .int .u32 1)]) (by rfl) (B1 _) ?_) | (refine wpList_build9 rfl 32 _ rfl (us := #[(0, .int .u8 1)]) (by rfl) (BD1 _) ?_) | (refine wpList_build9 rfl 34 _ rfl (us := #[(1, .int .u32 1), (4, .agg DG.toArray)]) (by rfl) (BT2 _) ?_) | (refine wpList_bsliceN rfl 22 2 _ rfl (us := #[(0, .agg V1.toArray), (1, .agg V2.toArray)]) (by rfl) (Q2.out _) ?_) | (refine wpList_build9 rfl 25 _ rfl (us := #[(0, .slice (some ⟨w150.heap.size, 0, none⟩) 2 2)]) (by rfl) (BIT _ _ _ _) ?_) | (refine wpList_store_box (cs := [.slice (some ⟨w150.heap.size, 0, none⟩) 2 2, .slice none 0 0]) rfl _ _ _ rfl (Box.newc (l := id0) rfl (by simp)) rfl rfl (size_id12 _ _) rfl (one_id12 _ _ _ _ _ _) ?_; intro w151 hW151))
      have hL : Below (w150.alloc (.cells FQ2.toArray 34)).heap.size (w150.alloc (.cells FQ2.toArray 34)) w151 := hW151.below _ _ (by simp) ((Below.refl _ _).alloc (Nat.le_refl _) _)
      have hN : Below w150.heap.size w150 w151 := ((Below.refl _ _).alloc (Nat.le_refl _) _).trans (hL.mono (by simp))
      have I_twice : Hid (IsD w151 (.agg #[.slice (some ⟨w150.heap.size, 0, none⟩) 2 2, .slice none 0 0]) [tkA1, tkA2] []) := Lib.hid (IsD.below (w := (w150.alloc (.cells FQ2.toArray 34))) ⟨_, _, rfl, (IsR.ofBox (Box.newc rfl rfl) EQ2.out rfl (by decide) : IsR LT (w150.alloc (.cells FQ2.toArray 34)) (.slice (some ⟨w150.heap.size, 0, none⟩) 2 2) [tkA1, tkA2]), IsR.none⟩ hL)
      have x_twice151 : Box w151 (w150.heap.size + 1) [.slice (some ⟨w150.heap.size, 0, none⟩) 2 2, .slice none 0 0] := by have := hW151.box; simpa using this
      have K_w71_151 : Below w71.heap.size w71 w151 := below_thru K_w71_150 hN
      have K_w72_151 : Below w72.heap.size w72 w151 := below_thru K_w72_150 hN
      have K_w150_151 : Below w150.heap.size w150 w151 := below_thru K_w150_150 hN
      clear K_w71_150 K_w72_150 K_w150_150
      have hB151 : Below w.heap.size w w151 := below_thru hB150 hN
      have hs151 := hB151.size
      have x_full151 : Box w151 (w.heap.size) ([.slice p1 (tks 99).length n1, .slice p2 [gone].length n2]) := Box.below x_full150 hN
      have x_gone151 : Box w151 (wr.heap.size) (CG) := Box.below x_gone150 hN
      have x_same151 : Box w151 (w72.heap.size) ([.slice p1s ((tks 99)).length n1s, .slice p2s ([gone]).length n2s]) := Box.below x_same150 hN
      have x_many151 : Box w151 (bo) ([.slice p4 ((tks 99).length + 1) n4, .slice pm2 [gone].length nm2]) := Box.below x_many150 hN
      clear hB150 hs150 x_full150 x_gone150 x_same150 x_many150
      clear hN hL hW151 lz_full lz_gone lz_same lz_many
      have K_w151_151 : Below w151.heap.size w151 w151 := Below.refl _ _
      have lz_full := (x_full151).lt
      have lz_gone := (x_gone151).lt
      have lz_same := (x_same151).lt
      have lz_many := (x_many151).lt
      have lz_twice := (x_twice151).lt
      go_upto_region 25 with (first | (refine wpList_load_box9 rfl _ _ rfl x_gone151 rfl Try.underlying39 rfl SG.out ?_) | (refine wpList_bsliceN rfl 23 2 _ rfl (us := #[(0, .agg CG.toArray), (1, .agg CG.toArray)]) (by rfl) (Q3.out _) ?_) | (refine wpList_build9 rfl 25 _ rfl (us := #[(1, .slice (some ⟨w151.heap.size, 0, none⟩) 2 2)]) (by rfl) (BIC _ _ _ _) ?_) | (refine wpList_store_box (cs := [.slice none 0 0, .slice (some ⟨w151.heap.size, 0, none⟩) 2 2]) rfl _ _ _ rfl (Box.newc (l := id0) rfl (by simp)) rfl rfl (size_id12 _ _) rfl (one_id12 _ _ _ _ _ _) ?_; intro w152 hW152))
      have hL : Below (w151.alloc (.cells FQ3.toArray 39)).heap.size (w151.alloc (.cells FQ3.toArray 39)) w152 := hW152.below _ _ (by simp) ((Below.refl _ _).alloc (Nat.le_refl _) _)
      have hN : Below w151.heap.size w151 w152 := ((Below.refl _ _).alloc (Nat.le_refl _) _).trans (hL.mono (by simp))
      have I_again : Hid (IsD w152 (.agg #[.slice none 0 0, .slice (some ⟨w151.heap.size, 0, none⟩) 2 2]) [] [gone, gone]) := Lib.hid (IsD.below (w := (w151.alloc (.cells FQ3.toArray 39))) ⟨_, _, rfl, IsR.none, (IsR.ofBox (Box.newc rfl rfl) EQ3.out rfl (by decide) : IsR LC (w151.alloc (.cells FQ3.toArray 39)) (.slice (some ⟨w151.heap.size, 0, none⟩) 2 2) [gone, gone])⟩ hL)
      have x_again152 : Box w152 (w151.heap.size + 1) [.slice none 0 0, .slice (some ⟨w151.heap.size, 0, none⟩) 2 2] := by have := hW152.box; simpa using this
      have K_w71_152 : Below w71.heap.size w71 w152 := below_thru K_w71_151 hN
      have K_w72_152 : Below w72.heap.size w72 w152 := below_thru K_w72_151 hN
      have K_w150_152 : Below w150.heap.size w150 w152 := below_thru K_w150_151 hN
      have K_w151_152 : Below w151.heap.size w151 w152 := below_thru K_w151_151 hN
      clear K_w71_151 K_w72_151 K_w150_151 K_w151_151
      have hB152 : Below w.heap.size w w152 := below_thru hB151 hN
      have hs152 := hB152.size
      have x_full152 : Box w152 (w.heap.size) ([.slice p1 (tks 99).length n1, .slice p2 [gone].length n2]) := Box.below x_full151 hN
      have x_gone152 : Box w152 (wr.heap.size) (CG) := Box.below x_gone151 hN
      have x_same152 : Box w152 (w72.heap.size) ([.slice p1s ((tks 99)).length n1s, .slice p2s ([gone]).length n2s]) := Box.below x_same151 hN
      have x_many152 : Box w152 (bo) ([.slice p4 ((tks 99).length + 1) n4, .slice pm2 [gone].length nm2]) := Box.below x_many151 hN
      have x_twice152 : Box w152 (w150.heap.size + 1) ([.slice (some ⟨w150.heap.size, 0, none⟩) 2 2, .slice none 0 0]) := Box.below x_twice151 hN
      clear hB151 hs151 x_full151 x_gone151 x_same151 x_many151 x_twice151
      clear hN hL hW152 lz_full lz_gone lz_same lz_many lz_twice
      have K_w152_152 : Below w152.heap.size w152 w152 := Below.refl _ _
      have lz_full := (x_full152).lt
      have lz_gone := (x_gone152).lt
      have lz_same := (x_same152).lt
      have lz_many := (x_many152).lt
      have lz_twice := (x_twice152).lt
      have lz_again := (x_again152).lt
      go_upto_region 26 with (first | (refine wpList_build9 rfl 34 _ rfl (us := #[(1, .int .u32 1)]) (by rfl) (B1 _) ?_) | (refine wpList_build9 rfl 34 _ rfl (us := #[(0, .int .u32 16)]) (by rfl) (BTT _) ?_) | (refine wpList_bsliceN rfl 22 3 _ rfl (us := #[(0, .agg V1.toArray), (1, .agg V1.toArray), (2, .agg VT.toArray)]) (by rfl) (Q4.out _) ?_) | (refine wpList_build9 rfl 25 _ rfl (us := #[(0, .slice (some ⟨w152.heap.size, 0, none⟩) 3 3)]) (by rfl) (BIT _ _ _ _) ?_) | (refine wpList_store_box (cs := [.slice (some ⟨w152.heap.size, 0, none⟩) 3 3, .slice none 0 0]) rfl _ _ _ rfl (Box.newc (l := id0) rfl (by simp)) rfl rfl (size_id12 _ _) rfl (one_id12 _ _ _ _ _ _) ?_; intro w153 hW153))
      have hL : Below (w152.alloc (.cells FQ4.toArray 34)).heap.size (w152.alloc (.cells FQ4.toArray 34)) w153 := hW153.below _ _ (by simp) ((Below.refl _ _).alloc (Nat.le_refl _) _)
      have hN : Below w152.heap.size w152 w153 := ((Below.refl _ _).alloc (Nat.le_refl _) _).trans (hL.mono (by simp))
      have I_bad : Hid (IsD w153 (.agg #[.slice (some ⟨w152.heap.size, 0, none⟩) 3 3, .slice none 0 0]) [tkA1, tkA1, tkT] []) := Lib.hid (IsD.below (w := (w152.alloc (.cells FQ4.toArray 34))) ⟨_, _, rfl, (IsR.ofBox (Box.newc rfl rfl) EQ4.out rfl (by decide) : IsR LT (w152.alloc (.cells FQ4.toArray 34)) (.slice (some ⟨w152.heap.size, 0, none⟩) 3 3) [tkA1, tkA1, tkT]), IsR.none⟩ hL)
      have x_bad153 : Box w153 (w152.heap.size + 1) [.slice (some ⟨w152.heap.size, 0, none⟩) 3 3, .slice none 0 0] := by have := hW153.box; simpa using this
      have K_w71_153 : Below w71.heap.size w71 w153 := below_thru K_w71_152 hN
      have K_w72_153 : Below w72.heap.size w72 w153 := below_thru K_w72_152 hN
      have K_w150_153 : Below w150.heap.size w150 w153 := below_thru K_w150_152 hN
      have K_w151_153 : Below w151.heap.size w151 w153 := below_thru K_w151_152 hN
      have K_w152_153 : Below w152.heap.size w152 w153 := below_thru K_w152_152 hN
      clear K_w71_152 K_w72_152 K_w150_152 K_w151_152 K_w152_152
      have hB153 : Below w.heap.size w w153 := below_thru hB152 hN
      have hs153 := hB153.size
      have x_full153 : Box w153 (w.heap.size) ([.slice p1 (tks 99).length n1, .slice p2 [gone].length n2]) := Box.below x_full152 hN
      have x_gone153 : Box w153 (wr.heap.size) (CG) := Box.below x_gone152 hN
      have x_same153 : Box w153 (w72.heap.size) ([.slice p1s ((tks 99)).length n1s, .slice p2s ([gone]).length n2s]) := Box.below x_same152 hN
      have x_many153 : Box w153 (bo) ([.slice p4 ((tks 99).length + 1) n4, .slice pm2 [gone].length nm2]) := Box.below x_many152 hN
      have x_twice153 : Box w153 (w150.heap.size + 1) ([.slice (some ⟨w150.heap.size, 0, none⟩) 2 2, .slice none 0 0]) := Box.below x_twice152 hN
      have x_again153 : Box w153 (w151.heap.size + 1) ([.slice none 0 0, .slice (some ⟨w151.heap.size, 0, none⟩) 2 2]) := Box.below x_again152 hN
      clear hB152 hs152 x_full152 x_gone152 x_same152 x_many152 x_twice152 x_again152
      clear hN hL hW153 lz_full lz_gone lz_same lz_many lz_twice lz_again
      have K_w153_153 : Below w153.heap.size w153 w153 := Below.refl _ _
      have lz_full := (x_full153).lt
      have lz_gone := (x_gone153).lt
      have lz_same := (x_same153).lt
      have lz_many := (x_many153).lt
      have lz_twice := (x_twice153).lt
      have lz_again := (x_again153).lt
      have lz_bad := (x_bad153).lt
      go_upto_region 27 with (first | (refine wpList_build9 rfl 39 _ rfl (us := #[]) (by rfl) (BZ _) ?_) | (refine wpList_bsliceN rfl 23 1 _ rfl (us := #[(0, .agg CZ.toArray)]) (by rfl) (Q5.out _) ?_) | (refine wpList_build9 rfl 25 _ rfl (us := #[(1, .slice (some ⟨w153.heap.size, 0, none⟩) 1 1)]) (by rfl) (BIC _ _ _ _) ?_) | (refine wpList_store_box (cs := [.slice none 0 0, .slice (some ⟨w153.heap.size, 0, none⟩) 1 1]) rfl _ _ _ rfl (Box.newc (l := id0) rfl (by simp)) rfl rfl (size_id12 _ _) rfl (one_id12 _ _ _ _ _ _) ?_; intro w154 hW154))
      have hL : Below (w153.alloc (.cells FQ5.toArray 39)).heap.size (w153.alloc (.cells FQ5.toArray 39)) w154 := hW154.below _ _ (by simp) ((Below.refl _ _).alloc (Nat.le_refl _) _)
      have hN : Below w153.heap.size w153 w154 := ((Below.refl _ _).alloc (Nat.le_refl _) _).trans (hL.mono (by simp))
      have I_worse : Hid (IsD w154 (.agg #[.slice none 0 0, .slice (some ⟨w153.heap.size, 0, none⟩) 1 1]) [] [Cmd.zero]) := Lib.hid (IsD.below (w := (w153.alloc (.cells FQ5.toArray 39))) ⟨_, _, rfl, IsR.none, (IsR.ofBox (Box.newc rfl rfl) EQ5.out rfl (by decide) : IsR LC (w153.alloc (.cells FQ5.toArray 39)) (.slice (some ⟨w153.heap.size, 0, none⟩) 1 1) [Cmd.zero])⟩ hL)
      have x_worse154 : Box w154 (w153.heap.size + 1) [.slice none 0 0, .slice (some ⟨w153.heap.size, 0, none⟩) 1 1] := by have := hW154.box; simpa using this
      have K_w71_154 : Below w71.heap.size w71 w154 := below_thru K_w71_153 hN
      have K_w72_154 : Below w72.heap.size w72 w154 := below_thru K_w72_153 hN
      have K_w150_154 : Below w150.heap.size w150 w154 := below_thru K_w150_153 hN
      have K_w151_154 : Below w151.heap.size w151 w154 := below_thru K_w151_153 hN
      have K_w152_154 : Below w152.heap.size w152 w154 := below_thru K_w152_153 hN
      have K_w153_154 : Below w153.heap.size w153 w154 := below_thru K_w153_153 hN
      clear K_w71_153 K_w72_153 K_w150_153 K_w151_153 K_w152_153 K_w153_153
      have hB154 : Below w.heap.size w w154 := below_thru hB153 hN
      have hs154 := hB154.size
      have x_full154 : Box w154 (w.heap.size) ([.slice p1 (tks 99).length n1, .slice p2 [gone].length n2]) := Box.below x_full153 hN
      have x_gone154 : Box w154 (wr.heap.size) (CG) := Box.below x_gone153 hN
      have x_same154 : Box w154 (w72.heap.size) ([.slice p1s ((tks 99)).length n1s, .slice p2s ([gone]).length n2s]) := Box.below x_same153 hN
      have x_many154 : Box w154 (bo) ([.slice p4 ((tks 99).length + 1) n4, .slice pm2 [gone].length nm2]) := Box.below x_many153 hN
      have x_twice154 : Box w154 (w150.heap.size + 1) ([.slice (some ⟨w150.heap.size, 0, none⟩) 2 2, .slice none 0 0]) := Box.below x_twice153 hN
      have x_again154 : Box w154 (w151.heap.size + 1) ([.slice none 0 0, .slice (some ⟨w151.heap.size, 0, none⟩) 2 2]) := Box.below x_again153 hN
      have x_bad154 : Box w154 (w152.heap.size + 1) ([.slice (some ⟨w152.heap.size, 0, none⟩) 3 3, .slice none 0 0]) := Box.below x_bad153 hN
      clear hB153 hs153 x_full153 x_gone153 x_same153 x_many153 x_twice153 x_again153 x_bad153
      clear hN hL hW154 lz_full lz_gone lz_same lz_many lz_twice lz_again lz_bad
      have K_w154_154 : Below w154.heap.size w154 w154 := Below.refl _ _
      go_wp2_with (first | (refine wpList_load_box9 rfl _ _ rfl x_many154 rfl Try.underlying25 rfl (size_id12 _ _) ?_) | (refine wpList_build9 rfl 34 _ rfl (us := #[(0, .int .u32 16)]) (by rfl) (BTT _) ?_))
      refine (PM _ _ (IM.out.below K_w150_154)).mono ?_
      rintro e w155 ⟨x1m, x2m, rfl, o1m, o2m, hb⟩
      obtain ⟨p1m, n1m, rfl⟩ := own_slR o1m; obtain ⟨p2m, n2m, rfl⟩ := own_slR o2m; clear o1m o2m
      have K_w71_155 : Below w71.heap.size w71 w155 := below_thru K_w71_154 hb
      have K_w72_155 : Below w72.heap.size w72 w155 := below_thru K_w72_154 hb
      have K_w150_155 : Below w150.heap.size w150 w155 := below_thru K_w150_154 hb
      have K_w151_155 : Below w151.heap.size w151 w155 := below_thru K_w151_154 hb
      have K_w152_155 : Below w152.heap.size w152 w155 := below_thru K_w152_154 hb
      have K_w153_155 : Below w153.heap.size w153 w155 := below_thru K_w153_154 hb
      have K_w154_155 : Below w154.heap.size w154 w155 := below_thru K_w154_154 hb
      clear K_w71_154 K_w72_154 K_w150_154 K_w151_154 K_w152_154 K_w153_154 K_w154_154
      have hB155 : Below w.heap.size w w155 := below_thru hB154 hb
      have hs155 := hB155.size
      have x_full155 : Box w155 (w.heap.size) ([.slice p1 (tks 99).length n1, .slice p2 [gone].length n2]) := Box.below x_full154 hb
      have x_gone155 : Box w155 (wr.heap.size) (CG) := Box.below x_gone154 hb
      have x_same155 : Box w155 (w72.heap.size) ([.slice p1s ((tks 99)).length n1s, .slice p2s ([gone]).length n2s]) := Box.below x_same154 hb
      have x_many155 : Box w155 (bo) ([.slice p4 ((tks 99).length + 1) n4, .slice pm2 [gone].length nm2]) := Box.below x_many154 hb
      have x_twice155 : Box w155 (w150.heap.size + 1) ([.slice (some ⟨w150.heap.size, 0, none⟩) 2 2, .slice none 0 0]) := Box.below x_twice154 hb
      have x_again155 : Box w155 (w151.heap.size + 1) ([.slice none 0 0, .slice (some ⟨w151.heap.size, 0, none⟩) 2 2]) := Box.below x_again154 hb
      have x_bad155 : Box w155 (w152.heap.size + 1) ([.slice (some ⟨w152.heap.size, 0, none⟩) 3 3, .slice none 0 0]) := Box.below x_bad154 hb
      have x_worse155 : Box w155 (w153.heap.size + 1) ([.slice none 0 0, .slice (some ⟨w153.heap.size, 0, none⟩) 1 1]) := Box.below x_worse154 hb
      clear hB154 hs154 x_full154 x_gone154 x_same154 x_many154 x_twice154 x_again154 x_bad154 x_worse154
      clear hb
      have d_zm_full := (x_full155).lt
      have d_zm_gone := (x_gone155).lt
      have d_zm_same := (x_same155).lt
      have d_zm_many := (x_many155).lt
      have d_zm_twice := (x_twice155).lt
      have d_zm_again := (x_again155).lt
      have d_zm_bad := (x_bad155).lt
      have d_zm_worse := (x_worse155).lt
      have d_zm_0 := hs155
      go_upto_region 28 with (refine wpList_store_box (cs := [.slice p1m (([] : List Tk)).length n1m, .slice p2m (([] : List Cmd)).length n2m]) rfl _ _ _ rfl (Box.newc (l := id0) rfl rfl) rfl rfl (size_id12 _ _) rfl (one_id12 _ _ _ _ _ _) ?_; intro W155_0 hW155_0)
      have hN : Below w155.heap.size w155 W155_0 := (hW155_0.below _ _ (by omega) ((Below.refl _ w155).alloc (Nat.le_refl _) _))
      have x_zm156 : Box W155_0 (w155.heap.size) ([.slice p1m (([] : List Tk)).length n1m, .slice p2m (([] : List Cmd)).length n2m]) := hW155_0.box
      have K_w71_156 : Below w71.heap.size w71 W155_0 := below_thru K_w71_155 hN
      have K_w72_156 : Below w72.heap.size w72 W155_0 := below_thru K_w72_155 hN
      have K_w150_156 : Below w150.heap.size w150 W155_0 := below_thru K_w150_155 hN
      have K_w151_156 : Below w151.heap.size w151 W155_0 := below_thru K_w151_155 hN
      have K_w152_156 : Below w152.heap.size w152 W155_0 := below_thru K_w152_155 hN
      have K_w153_156 : Below w153.heap.size w153 W155_0 := below_thru K_w153_155 hN
      have K_w154_156 : Below w154.heap.size w154 W155_0 := below_thru K_w154_155 hN
      clear K_w71_155 K_w72_155 K_w150_155 K_w151_155 K_w152_155 K_w153_155 K_w154_155
      have hB156 : Below w.heap.size w W155_0 := below_thru hB155 hN
      have hs156 := hB156.size
      have x_full156 : Box W155_0 (w.heap.size) ([.slice p1 (tks 99).length n1, .slice p2 [gone].length n2]) := Box.below x_full155 hN
      have x_gone156 : Box W155_0 (wr.heap.size) (CG) := Box.below x_gone155 hN
      have x_same156 : Box W155_0 (w72.heap.size) ([.slice p1s ((tks 99)).length n1s, .slice p2s ([gone]).length n2s]) := Box.below x_same155 hN
      have x_many156 : Box W155_0 (bo) ([.slice p4 ((tks 99).length + 1) n4, .slice pm2 [gone].length nm2]) := Box.below x_many155 hN
      have x_twice156 : Box W155_0 (w150.heap.size + 1) ([.slice (some ⟨w150.heap.size, 0, none⟩) 2 2, .slice none 0 0]) := Box.below x_twice155 hN
      have x_again156 : Box W155_0 (w151.heap.size + 1) ([.slice none 0 0, .slice (some ⟨w151.heap.size, 0, none⟩) 2 2]) := Box.below x_again155 hN
      have x_bad156 : Box W155_0 (w152.heap.size + 1) ([.slice (some ⟨w152.heap.size, 0, none⟩) 3 3, .slice none 0 0]) := Box.below x_bad155 hN
      have x_worse156 : Box W155_0 (w153.heap.size + 1) ([.slice none 0 0, .slice (some ⟨w153.heap.size, 0, none⟩) 1 1]) := Box.below x_worse155 hN
      clear hB155 hs155 x_full155 x_gone155 x_same155 x_many155 x_twice155 x_again155 x_bad155 x_worse155
      clear hN hW155_0
      clear x_zm156
      go_wp2_with (first
        | (refine wpList_load_box9 rfl _ _ rfl x_twice156 rfl Try.underlying25 rfl (size_id12 _ _) ?_)
        | (refine wpList_build9 rfl 47 _ rfl (us := #[]) (by rfl) (BF _) ?_))
      refine (A2 _ _ (I_twice.out.below K_w151_156)).mono ?_
      rintro e w157 ⟨rfl, hb⟩
      have K_w71_157 : Below w71.heap.size w71 w157 := below_thru K_w71_156 hb
      have K_w72_157 : Below w72.heap.size w72 w157 := below_thru K_w72_156 hb
      have K_w150_157 : Below w150.heap.size w150 w157 := below_thru K_w150_156 hb
      have K_w151_157 : Below w151.heap.size w151 w157 := below_thru K_w151_156 hb
      have K_w152_157 : Below w152.heap.size w152 w157 := below_thru K_w152_156 hb
      have K_w153_157 : Below w153.heap.size w153 w157 := below_thru K_w153_156 hb
      have K_w154_157 : Below w154.heap.size w154 w157 := below_thru K_w154_156 hb
      clear K_w71_156 K_w72_156 K_w150_156 K_w151_156 K_w152_156 K_w153_156 K_w154_156
      have hB157 : Below w.heap.size w w157 := below_thru hB156 hb
      have hs157 := hB157.size
      have x_full157 : Box w157 (w.heap.size) ([.slice p1 (tks 99).length n1, .slice p2 [gone].length n2]) := Box.below x_full156 hb
      have x_gone157 : Box w157 (wr.heap.size) (CG) := Box.below x_gone156 hb
      have x_same157 : Box w157 (w72.heap.size) ([.slice p1s ((tks 99)).length n1s, .slice p2s ([gone]).length n2s]) := Box.below x_same156 hb
      have x_many157 : Box w157 (bo) ([.slice p4 ((tks 99).length + 1) n4, .slice pm2 [gone].length nm2]) := Box.below x_many156 hb
      have x_twice157 : Box w157 (w150.heap.size + 1) ([.slice (some ⟨w150.heap.size, 0, none⟩) 2 2, .slice none 0 0]) := Box.below x_twice156 hb
      have x_again157 : Box w157 (w151.heap.size + 1) ([.slice none 0 0, .slice (some ⟨w151.heap.size, 0, none⟩) 2 2]) := Box.below x_again156 hb
      have x_bad157 : Box w157 (w152.heap.size + 1) ([.slice (some ⟨w152.heap.size, 0, none⟩) 3 3, .slice none 0 0]) := Box.below x_bad156 hb
      have x_worse157 : Box w157 (w153.heap.size + 1) ([.slice none 0 0, .slice (some ⟨w153.heap.size, 0, none⟩) 1 1]) := Box.below x_worse156 hb
      clear hB156 hs156 x_full156 x_gone156 x_same156 x_many156 x_twice156 x_again156 x_bad156 x_worse156
      clear hb
      go_wp2_with (refine wpList_load_box9 rfl _ _ rfl x_full157 rfl Try.underlying25 rfl (size_id12 _ _) ?_)
      refine (K0 _ _ (IF.out.below K_w71_157)).mono ?_
      rintro e w158 ⟨rfl, hb⟩
      have K_w71_158 : Below w71.heap.size w71 w158 := below_thru K_w71_157 hb
      have K_w72_158 : Below w72.heap.size w72 w158 := below_thru K_w72_157 hb
      have K_w150_158 : Below w150.heap.size w150 w158 := below_thru K_w150_157 hb
      have K_w151_158 : Below w151.heap.size w151 w158 := below_thru K_w151_157 hb
      have K_w152_158 : Below w152.heap.size w152 w158 := below_thru K_w152_157 hb
      have K_w153_158 : Below w153.heap.size w153 w158 := below_thru K_w153_157 hb
      have K_w154_158 : Below w154.heap.size w154 w158 := below_thru K_w154_157 hb
      clear K_w71_157 K_w72_157 K_w150_157 K_w151_157 K_w152_157 K_w153_157 K_w154_157
      have hB158 : Below w.heap.size w w158 := below_thru hB157 hb
      have hs158 := hB158.size
      have x_full158 : Box w158 (w.heap.size) ([.slice p1 (tks 99).length n1, .slice p2 [gone].length n2]) := Box.below x_full157 hb
      have x_gone158 : Box w158 (wr.heap.size) (CG) := Box.below x_gone157 hb
      have x_same158 : Box w158 (w72.heap.size) ([.slice p1s ((tks 99)).length n1s, .slice p2s ([gone]).length n2s]) := Box.below x_same157 hb
      have x_many158 : Box w158 (bo) ([.slice p4 ((tks 99).length + 1) n4, .slice pm2 [gone].length nm2]) := Box.below x_many157 hb
      have x_twice158 : Box w158 (w150.heap.size + 1) ([.slice (some ⟨w150.heap.size, 0, none⟩) 2 2, .slice none 0 0]) := Box.below x_twice157 hb
      have x_again158 : Box w158 (w151.heap.size + 1) ([.slice none 0 0, .slice (some ⟨w151.heap.size, 0, none⟩) 2 2]) := Box.below x_again157 hb
      have x_bad158 : Box w158 (w152.heap.size + 1) ([.slice (some ⟨w152.heap.size, 0, none⟩) 3 3, .slice none 0 0]) := Box.below x_bad157 hb
      have x_worse158 : Box w158 (w153.heap.size + 1) ([.slice none 0 0, .slice (some ⟨w153.heap.size, 0, none⟩) 1 1]) := Box.below x_worse157 hb
      clear hB157 hs157 x_full157 x_gone157 x_same157 x_many157 x_twice157 x_again157 x_bad157 x_worse157
      clear hb
      go_wp2_with (refine wpList_load_box9 rfl _ _ rfl x_many158 rfl Try.underlying25 rfl (size_id12 _ _) ?_)
      refine (K1 _ _ (IM.out.below K_w150_158)).mono ?_
      rintro e w159 ⟨rfl, hb⟩
      have K_w71_159 : Below w71.heap.size w71 w159 := below_thru K_w71_158 hb
      have K_w72_159 : Below w72.heap.size w72 w159 := below_thru K_w72_158 hb
      have K_w150_159 : Below w150.heap.size w150 w159 := below_thru K_w150_158 hb
      have K_w151_159 : Below w151.heap.size w151 w159 := below_thru K_w151_158 hb
      have K_w152_159 : Below w152.heap.size w152 w159 := below_thru K_w152_158 hb
      have K_w153_159 : Below w153.heap.size w153 w159 := below_thru K_w153_158 hb
      have K_w154_159 : Below w154.heap.size w154 w159 := below_thru K_w154_158 hb
      clear K_w71_158 K_w72_158 K_w150_158 K_w151_158 K_w152_158 K_w153_158 K_w154_158
      have hB159 : Below w.heap.size w w159 := below_thru hB158 hb
      have hs159 := hB159.size
      have x_full159 : Box w159 (w.heap.size) ([.slice p1 (tks 99).length n1, .slice p2 [gone].length n2]) := Box.below x_full158 hb
      have x_gone159 : Box w159 (wr.heap.size) (CG) := Box.below x_gone158 hb
      have x_same159 : Box w159 (w72.heap.size) ([.slice p1s ((tks 99)).length n1s, .slice p2s ([gone]).length n2s]) := Box.below x_same158 hb
      have x_many159 : Box w159 (bo) ([.slice p4 ((tks 99).length + 1) n4, .slice pm2 [gone].length nm2]) := Box.below x_many158 hb
      have x_twice159 : Box w159 (w150.heap.size + 1) ([.slice (some ⟨w150.heap.size, 0, none⟩) 2 2, .slice none 0 0]) := Box.below x_twice158 hb
      have x_again159 : Box w159 (w151.heap.size + 1) ([.slice none 0 0, .slice (some ⟨w151.heap.size, 0, none⟩) 2 2]) := Box.below x_again158 hb
      have x_bad159 : Box w159 (w152.heap.size + 1) ([.slice (some ⟨w152.heap.size, 0, none⟩) 3 3, .slice none 0 0]) := Box.below x_bad158 hb
      have x_worse159 : Box w159 (w153.heap.size + 1) ([.slice none 0 0, .slice (some ⟨w153.heap.size, 0, none⟩) 1 1]) := Box.below x_worse158 hb
      clear hB158 hs158 x_full158 x_gone158 x_same158 x_many158 x_twice158 x_again158 x_bad158 x_worse158
      clear hb
      go_wp2_with (refine wpList_load_box9 rfl _ _ rfl x_twice159 rfl Try.underlying25 rfl (size_id12 _ _) ?_)
      refine (K2 _ _ (I_twice.out.below K_w151_159)).mono ?_
      rintro e w160 ⟨rfl, hb⟩
      have K_w71_160 : Below w71.heap.size w71 w160 := below_thru K_w71_159 hb
      have K_w72_160 : Below w72.heap.size w72 w160 := below_thru K_w72_159 hb
      have K_w150_160 : Below w150.heap.size w150 w160 := below_thru K_w150_159 hb
      have K_w151_160 : Below w151.heap.size w151 w160 := below_thru K_w151_159 hb
      have K_w152_160 : Below w152.heap.size w152 w160 := below_thru K_w152_159 hb
      have K_w153_160 : Below w153.heap.size w153 w160 := below_thru K_w153_159 hb
      have K_w154_160 : Below w154.heap.size w154 w160 := below_thru K_w154_159 hb
      clear K_w71_159 K_w72_159 K_w150_159 K_w151_159 K_w152_159 K_w153_159 K_w154_159
      have hB160 : Below w.heap.size w w160 := below_thru hB159 hb
      have hs160 := hB160.size
      have x_full160 : Box w160 (w.heap.size) ([.slice p1 (tks 99).length n1, .slice p2 [gone].length n2]) := Box.below x_full159 hb
      have x_gone160 : Box w160 (wr.heap.size) (CG) := Box.below x_gone159 hb
      have x_same160 : Box w160 (w72.heap.size) ([.slice p1s ((tks 99)).length n1s, .slice p2s ([gone]).length n2s]) := Box.below x_same159 hb
      have x_many160 : Box w160 (bo) ([.slice p4 ((tks 99).length + 1) n4, .slice pm2 [gone].length nm2]) := Box.below x_many159 hb
      have x_twice160 : Box w160 (w150.heap.size + 1) ([.slice (some ⟨w150.heap.size, 0, none⟩) 2 2, .slice none 0 0]) := Box.below x_twice159 hb
      have x_again160 : Box w160 (w151.heap.size + 1) ([.slice none 0 0, .slice (some ⟨w151.heap.size, 0, none⟩) 2 2]) := Box.below x_again159 hb
      have x_bad160 : Box w160 (w152.heap.size + 1) ([.slice (some ⟨w152.heap.size, 0, none⟩) 3 3, .slice none 0 0]) := Box.below x_bad159 hb
      have x_worse160 : Box w160 (w153.heap.size + 1) ([.slice none 0 0, .slice (some ⟨w153.heap.size, 0, none⟩) 1 1]) := Box.below x_worse159 hb
      clear hB159 hs159 x_full159 x_gone159 x_same159 x_many159 x_twice159 x_again159 x_bad159 x_worse159
      clear hb
      go_wp2_with (refine wpList_load_box9 rfl _ _ rfl x_again160 rfl Try.underlying25 rfl (size_id12 _ _) ?_)
      refine (K3 _ _ (I_again.out.below K_w152_160)).mono ?_
      rintro e w161 ⟨rfl, hb⟩
      have K_w71_161 : Below w71.heap.size w71 w161 := below_thru K_w71_160 hb
      have K_w72_161 : Below w72.heap.size w72 w161 := below_thru K_w72_160 hb
      have K_w150_161 : Below w150.heap.size w150 w161 := below_thru K_w150_160 hb
      have K_w151_161 : Below w151.heap.size w151 w161 := below_thru K_w151_160 hb
      have K_w152_161 : Below w152.heap.size w152 w161 := below_thru K_w152_160 hb
      have K_w153_161 : Below w153.heap.size w153 w161 := below_thru K_w153_160 hb
      have K_w154_161 : Below w154.heap.size w154 w161 := below_thru K_w154_160 hb
      clear K_w71_160 K_w72_160 K_w150_160 K_w151_160 K_w152_160 K_w153_160 K_w154_160
      have hB161 : Below w.heap.size w w161 := below_thru hB160 hb
      have hs161 := hB161.size
      have x_full161 : Box w161 (w.heap.size) ([.slice p1 (tks 99).length n1, .slice p2 [gone].length n2]) := Box.below x_full160 hb
      have x_gone161 : Box w161 (wr.heap.size) (CG) := Box.below x_gone160 hb
      have x_same161 : Box w161 (w72.heap.size) ([.slice p1s ((tks 99)).length n1s, .slice p2s ([gone]).length n2s]) := Box.below x_same160 hb
      have x_many161 : Box w161 (bo) ([.slice p4 ((tks 99).length + 1) n4, .slice pm2 [gone].length nm2]) := Box.below x_many160 hb
      have x_twice161 : Box w161 (w150.heap.size + 1) ([.slice (some ⟨w150.heap.size, 0, none⟩) 2 2, .slice none 0 0]) := Box.below x_twice160 hb
      have x_again161 : Box w161 (w151.heap.size + 1) ([.slice none 0 0, .slice (some ⟨w151.heap.size, 0, none⟩) 2 2]) := Box.below x_again160 hb
      have x_bad161 : Box w161 (w152.heap.size + 1) ([.slice (some ⟨w152.heap.size, 0, none⟩) 3 3, .slice none 0 0]) := Box.below x_bad160 hb
      have x_worse161 : Box w161 (w153.heap.size + 1) ([.slice none 0 0, .slice (some ⟨w153.heap.size, 0, none⟩) 1 1]) := Box.below x_worse160 hb
      clear hB160 hs160 x_full160 x_gone160 x_same160 x_many160 x_twice160 x_again160 x_bad160 x_worse160
      clear hb
      go_wp2_with (refine wpList_load_box9 rfl _ _ rfl x_bad161 rfl Try.underlying25 rfl (size_id12 _ _) ?_)
      refine (K4 _ _ (I_bad.out.below K_w153_161)).mono ?_
      rintro e w162 ⟨rfl, hb⟩
      have K_w71_162 : Below w71.heap.size w71 w162 := below_thru K_w71_161 hb
      have K_w72_162 : Below w72.heap.size w72 w162 := below_thru K_w72_161 hb
      have K_w150_162 : Below w150.heap.size w150 w162 := below_thru K_w150_161 hb
      have K_w151_162 : Below w151.heap.size w151 w162 := below_thru K_w151_161 hb
      have K_w152_162 : Below w152.heap.size w152 w162 := below_thru K_w152_161 hb
      have K_w153_162 : Below w153.heap.size w153 w162 := below_thru K_w153_161 hb
      have K_w154_162 : Below w154.heap.size w154 w162 := below_thru K_w154_161 hb
      clear K_w71_161 K_w72_161 K_w150_161 K_w151_161 K_w152_161 K_w153_161 K_w154_161
      have hB162 : Below w.heap.size w w162 := below_thru hB161 hb
      have hs162 := hB162.size
      have x_full162 : Box w162 (w.heap.size) ([.slice p1 (tks 99).length n1, .slice p2 [gone].length n2]) := Box.below x_full161 hb
      have x_gone162 : Box w162 (wr.heap.size) (CG) := Box.below x_gone161 hb
      have x_same162 : Box w162 (w72.heap.size) ([.slice p1s ((tks 99)).length n1s, .slice p2s ([gone]).length n2s]) := Box.below x_same161 hb
      have x_many162 : Box w162 (bo) ([.slice p4 ((tks 99).length + 1) n4, .slice pm2 [gone].length nm2]) := Box.below x_many161 hb
      have x_twice162 : Box w162 (w150.heap.size + 1) ([.slice (some ⟨w150.heap.size, 0, none⟩) 2 2, .slice none 0 0]) := Box.below x_twice161 hb
      have x_again162 : Box w162 (w151.heap.size + 1) ([.slice none 0 0, .slice (some ⟨w151.heap.size, 0, none⟩) 2 2]) := Box.below x_again161 hb
      have x_bad162 : Box w162 (w152.heap.size + 1) ([.slice (some ⟨w152.heap.size, 0, none⟩) 3 3, .slice none 0 0]) := Box.below x_bad161 hb
      have x_worse162 : Box w162 (w153.heap.size + 1) ([.slice none 0 0, .slice (some ⟨w153.heap.size, 0, none⟩) 1 1]) := Box.below x_worse161 hb
      clear hB161 hs161 x_full161 x_gone161 x_same161 x_many161 x_twice161 x_again161 x_bad161 x_worse161
      clear hb
      go_wp2_with (refine wpList_load_box9 rfl _ _ rfl x_worse162 rfl Try.underlying25 rfl (size_id12 _ _) ?_)
      refine (K5 _ _ (I_worse.out.below K_w154_162)).mono ?_
      rintro e w163 ⟨rfl, hb⟩
      have K_w71_163 : Below w71.heap.size w71 w163 := below_thru K_w71_162 hb
      have K_w72_163 : Below w72.heap.size w72 w163 := below_thru K_w72_162 hb
      have K_w150_163 : Below w150.heap.size w150 w163 := below_thru K_w150_162 hb
      have K_w151_163 : Below w151.heap.size w151 w163 := below_thru K_w151_162 hb
      have K_w152_163 : Below w152.heap.size w152 w163 := below_thru K_w152_162 hb
      have K_w153_163 : Below w153.heap.size w153 w163 := below_thru K_w153_162 hb
      have K_w154_163 : Below w154.heap.size w154 w163 := below_thru K_w154_162 hb
      clear K_w71_162 K_w72_162 K_w150_162 K_w151_162 K_w152_162 K_w153_162 K_w154_162
      have hB163 : Below w.heap.size w w163 := below_thru hB162 hb
      have hs163 := hB163.size
      have x_full163 : Box w163 (w.heap.size) ([.slice p1 (tks 99).length n1, .slice p2 [gone].length n2]) := Box.below x_full162 hb
      have x_gone163 : Box w163 (wr.heap.size) (CG) := Box.below x_gone162 hb
      have x_same163 : Box w163 (w72.heap.size) ([.slice p1s ((tks 99)).length n1s, .slice p2s ([gone]).length n2s]) := Box.below x_same162 hb
      have x_many163 : Box w163 (bo) ([.slice p4 ((tks 99).length + 1) n4, .slice pm2 [gone].length nm2]) := Box.below x_many162 hb
      have x_twice163 : Box w163 (w150.heap.size + 1) ([.slice (some ⟨w150.heap.size, 0, none⟩) 2 2, .slice none 0 0]) := Box.below x_twice162 hb
      have x_again163 : Box w163 (w151.heap.size + 1) ([.slice none 0 0, .slice (some ⟨w151.heap.size, 0, none⟩) 2 2]) := Box.below x_again162 hb
      have x_bad163 : Box w163 (w152.heap.size + 1) ([.slice (some ⟨w152.heap.size, 0, none⟩) 3 3, .slice none 0 0]) := Box.below x_bad162 hb
      have x_worse163 : Box w163 (w153.heap.size + 1) ([.slice none 0 0, .slice (some ⟨w153.heap.size, 0, none⟩) 1 1]) := Box.below x_worse162 hb
      clear hB162 hs162 x_full162 x_gone162 x_same162 x_many162 x_twice162 x_again162 x_bad162 x_worse162
      clear hb
      clear x_many163
      clear x_twice163
      clear x_again163
      clear x_bad163
      clear x_worse163
      go_upto_region 30 with fail
      refine wp_region_held_drew (S := fun W => Box W (w.heap.size) ([.slice p1 (tks 99).length n1, .slice p2 [gone].length n2]) ∧ Box W (wr.heap.size) (CG) ∧ Box W (w72.heap.size) ([.slice p1s ((tks 99)).length n1s, .slice p2s ([gone]).length n2s])) (by kernel_rfl) (And.intro (x_full163).drew (And.intro (x_gone163).drew (x_same163).drew)) (fun _ => ?_)
      refine F_drew (F := fun W => wpAnyH _ _ _ _ _ _ _ _ W) ?_
      intro Wf0 hbf0
      clear hs163
      have x_full_f0 : Box Wf0 (w.heap.size) ([.slice p1 (tks 99).length n1, .slice p2 [gone].length n2]) := Box.below x_full163 hbf0
      have x_gone_f0 : Box Wf0 (wr.heap.size) (CG) := Box.below x_gone163 hbf0
      have x_same_f0 : Box Wf0 (w72.heap.size) ([.slice p1s ((tks 99)).length n1s, .slice p2s ([gone]).length n2s]) := Box.below x_same163 hbf0
      have Bf0 := below_thru hB163 hbf0
      have K_w71_f0 := below_thru K_w71_163 hbf0
      have K_w72_f0 := below_thru K_w72_163 hbf0
      have K_w150_f0 := below_thru K_w150_163 hbf0
      have K_w151_f0 := below_thru K_w151_163 hbf0
      have K_w152_f0 := below_thru K_w152_163 hbf0
      have K_w153_f0 := below_thru K_w153_163 hbf0
      have K_w154_f0 := below_thru K_w154_163 hbf0
      clear x_full163 x_gone163 x_same163 hB163 K_w71_163 K_w72_163 K_w150_163 K_w151_163 K_w152_163 K_w153_163 K_w154_163 hbf0
      refine takeH 0 181 (v := ?vf0_1) rfl (by rfl) (by kernel_rfl) (by kernel_rfl) (by kernel_rfl) (fun _ _ _ h => h) (Or.inl ⟨by rfl, ?_⟩) ((And.intro x_full_f0 (And.intro x_gone_f0 x_same_f0))) ?_
      rotate_left
      · intro wq hSq
        go_simp
        exact rfl
      try simp only [Act.put, List.setIfInBounds_toArray, List.set_cons_zero, List.set_cons_succ]
      refine takeH 1 182 (v := ?vf1_2) rfl (by rfl) (by kernel_rfl) (by kernel_rfl) (by kernel_rfl) (fun _ _ _ h => h) (Or.inl ⟨by rfl, ?_⟩) ((And.intro x_full_f0 (And.intro x_gone_f0 x_same_f0))) ?_
      rotate_left
      · intro wq hSq
        go_simp
        exact rfl
      try simp only [Act.put, List.setIfInBounds_toArray, List.set_cons_zero, List.set_cons_succ]
      refine takeH 2 183 (v := ?vf2_3) rfl (by rfl) (by kernel_rfl) (by kernel_rfl) (by kernel_rfl) (fun _ _ _ h => h) (Or.inl ⟨by rfl, ?_⟩) ((And.intro x_full_f0 (And.intro x_gone_f0 x_same_f0))) ?_
      rotate_left
      · intro wq hSq
        go_simp
        exact rfl
      try simp only [Act.put, List.setIfInBounds_toArray, List.set_cons_zero, List.set_cons_succ]
      refine takeH 3 184 (v := ?vf3_4) rfl (by rfl) (by kernel_rfl) (by kernel_rfl) (by kernel_rfl) (fun _ _ _ h => h) (Or.inl ⟨by rfl, ?_⟩) ((And.intro x_full_f0 (And.intro x_gone_f0 x_same_f0))) ?_
      rotate_left
      · intro wq hSq
        go_simp
        exact rfl
      try simp only [Act.put, List.setIfInBounds_toArray, List.set_cons_zero, List.set_cons_succ]
      refine takeH 4 185 (v := ?vf4_5) rfl (by rfl) (by kernel_rfl) (by kernel_rfl) (by kernel_rfl) (fun _ _ _ h => h) (Or.inl ⟨by rfl, ?_⟩) ((And.intro x_full_f0 (And.intro x_gone_f0 x_same_f0))) ?_
      rotate_left
      · intro wq hSq
        go_simp
        exact rfl
      try simp only [Act.put, List.setIfInBounds_toArray, List.set_cons_zero, List.set_cons_succ]
      refine takeH 5 186 (v := ?vf5_6) rfl (by rfl) (by kernel_rfl) (by kernel_rfl) (by kernel_rfl) (fun _ _ _ h => h) (Or.inl ⟨by rfl, ?_⟩) ((And.intro x_full_f0 (And.intro x_gone_f0 x_same_f0))) ?_
      rotate_left
      · intro wq hSq
        go_simp
        exact rfl
      try simp only [Act.put, List.setIfInBounds_toArray, List.set_cons_zero, List.set_cons_succ]
      refine takeH 6 187 (v := ?vf6_7) rfl (by rfl) (by kernel_rfl) (by kernel_rfl) (by kernel_rfl) (fun _ _ _ h => h) (Or.inl ⟨by rfl, ?_⟩) ((And.intro x_full_f0 (And.intro x_gone_f0 x_same_f0))) ?_
      rotate_left
      · intro wq hSq
        go_simp
        exact rfl
      try simp only [Act.put, List.setIfInBounds_toArray, List.set_cons_zero, List.set_cons_succ]
      refine takeH 7 188 (v := ?vf7_8) rfl (by rfl) (by kernel_rfl) (by kernel_rfl) (by kernel_rfl) (fun _ _ _ h => h) (Or.inl ⟨by rfl, ?_⟩) ((And.intro x_full_f0 (And.intro x_gone_f0 x_same_f0))) ?_
      rotate_left
      · intro wq hSq
        go_simp
        exact rfl
      try simp only [Act.put, List.setIfInBounds_toArray, List.set_cons_zero, List.set_cons_succ]
      refine takeH 8 189 (v := ?vf8_9) rfl (by rfl) (by kernel_rfl) (by kernel_rfl) (by kernel_rfl) (fun _ _ _ h => h) (Or.inl ⟨by rfl, ?_⟩) ((And.intro x_full_f0 (And.intro x_gone_f0 x_same_f0))) ?_
      rotate_left
      · intro wq hSq
        go_simp
        exact rfl
      try simp only [Act.put, List.setIfInBounds_toArray, List.set_cons_zero, List.set_cons_succ]
      refine takeH 9 190 (v := ?vf9_10) rfl (by rfl) (by kernel_rfl) (by kernel_rfl) (by kernel_rfl) (fun _ _ _ h => h) (Or.inl ⟨by rfl, ?_⟩) ((And.intro x_full_f0 (And.intro x_gone_f0 x_same_f0))) ?_
      rotate_left
      · intro wq hSq
        go_simp
        exact rfl
      try simp only [Act.put, List.setIfInBounds_toArray, List.set_cons_zero, List.set_cons_succ]
      refine takeH 10 191 (v := ?vf10_11) rfl (by rfl) (by kernel_rfl) (by kernel_rfl) (by kernel_rfl) (fun _ _ _ h => h) (Or.inl ⟨by rfl, ?_⟩) ((And.intro x_full_f0 (And.intro x_gone_f0 x_same_f0))) ?_
      rotate_left
      · intro wq hSq
        go_simp
        exact rfl
      try simp only [Act.put, List.setIfInBounds_toArray, List.set_cons_zero, List.set_cons_succ]
      refine takeH 11 192 (v := ?vf11_12) rfl (by rfl) (by kernel_rfl) (by kernel_rfl) (by kernel_rfl) (fun _ _ _ h => h) (Or.inl ⟨by rfl, ?_⟩) ((And.intro x_full_f0 (And.intro x_gone_f0 x_same_f0))) ?_
      rotate_left
      · intro wq hSq
        go_simp
        exact rfl
      try simp only [Act.put, List.setIfInBounds_toArray, List.set_cons_zero, List.set_cons_succ]
      refine takeH 12 193 (v := .agg ([.slice p1s ((tks 99)).length n1s, .slice p2s ([gone]).length n2s]).toArray) rfl (by rfl) (by kernel_rfl) (by kernel_rfl) (by kernel_rfl) (fun _ _ _ h => h) (yieldsIf_load_mid (by rfl) _ _ rfl _ _ rfl ([.slice p1s ((tks 99)).length n1s, .slice p2s ([gone]).length n2s]) _ (fun wq hq => Box.range (hq.2.2)) Try.underlying25 rfl (size_id12 _ _)) ((And.intro x_full_f0 (And.intro x_gone_f0 x_same_f0))) ?_
      try simp only [Act.put, List.setIfInBounds_toArray, List.set_cons_zero, List.set_cons_succ]
      refine takeH 13 194 (v := .agg ([.slice p1 (tks 99).length n1, .slice p2 [gone].length n2]).toArray) rfl (by rfl) (by kernel_rfl) (by kernel_rfl) (by kernel_rfl) (fun _ _ _ h => h) (yieldsIf_load_mid (by rfl) _ _ rfl _ _ rfl ([.slice p1 (tks 99).length n1, .slice p2 [gone].length n2]) _ (fun wq hq => Box.range (hq.1)) Try.underlying25 rfl (size_id12 _ _)) ((And.intro x_full_f0 (And.intro x_gone_f0 x_same_f0))) ?_
      try simp only [Act.put, List.setIfInBounds_toArray, List.set_cons_zero, List.set_cons_succ]
      refine wpAnyH_ready (rs := [14]) (by kernel_rfl) (by simp) (AllReadyH.cons rfl (fun K hK => ?_) AllReadyH.nil)
      go_simp
      refine (SM _ _ _ (Is.out.below K_w72_f0) (IF.out.below K_w71_f0)).mono ?_
      rintro e Wf13 ⟨rfl, hbf13⟩
      have x_full_f13 : Box Wf13 (w.heap.size) ([.slice p1 (tks 99).length n1, .slice p2 [gone].length n2]) := Box.below x_full_f0 hbf13
      have x_gone_f13 : Box Wf13 (wr.heap.size) (CG) := Box.below x_gone_f0 hbf13
      have x_same_f13 : Box Wf13 (w72.heap.size) ([.slice p1s ((tks 99)).length n1s, .slice p2s ([gone]).length n2s]) := Box.below x_same_f0 hbf13
      have Bf13 := below_thru Bf0 hbf13
      have K_w71_f13 := below_thru K_w71_f0 hbf13
      have K_w72_f13 := below_thru K_w72_f0 hbf13
      have K_w150_f13 := below_thru K_w150_f0 hbf13
      have K_w151_f13 := below_thru K_w151_f0 hbf13
      have K_w152_f13 := below_thru K_w152_f0 hbf13
      have K_w153_f13 := below_thru K_w153_f0 hbf13
      have K_w154_f13 := below_thru K_w154_f0 hbf13
      clear x_full_f0 x_gone_f0 x_same_f0 Bf0 K_w71_f0 K_w72_f0 K_w150_f0 K_w151_f0 K_w152_f0 K_w153_f0 K_w154_f0 hbf13
      refine hK.out _ _ (And.intro x_full_f13 (And.intro x_gone_f13 x_same_f13)) (fun _ => ?_); clear hK K
      refine takeH 15 196 (v := ?vf15_14) rfl (by rfl) (by kernel_rfl) (by kernel_rfl) (by kernel_rfl) (fun _ _ _ h => h) (Or.inl ⟨by rfl, ?_⟩) ((And.intro x_full_f13 (And.intro x_gone_f13 x_same_f13))) ?_
      rotate_left
      · intro wq hSq
        go_simp
        exact rfl
      try simp only [Act.put, List.setIfInBounds_toArray, List.set_cons_zero, List.set_cons_succ]
      refine takeH 16 197 (v := ?vf16_15) rfl (by rfl) (by kernel_rfl) (by kernel_rfl) (by kernel_rfl) (fun _ _ _ h => h) (Or.inl ⟨by rfl, ?_⟩) ((And.intro x_full_f13 (And.intro x_gone_f13 x_same_f13))) ?_
      rotate_left
      · intro wq hSq
        go_simp
        exact rfl
      try simp only [Act.put, List.setIfInBounds_toArray, List.set_cons_zero, List.set_cons_succ]
      refine takeH 17 198 (v := ?vf17_16) rfl (by rfl) (by kernel_rfl) (by kernel_rfl) (by kernel_rfl) (fun _ _ _ h => h) (Or.inl ⟨by rfl, ?_⟩) ((And.intro x_full_f13 (And.intro x_gone_f13 x_same_f13))) ?_
      rotate_left
      · intro wq hSq
        go_simp
        exact rfl
      try simp only [Act.put, List.setIfInBounds_toArray, List.set_cons_zero, List.set_cons_succ]
      refine takeH 18 199 (v := ?vf18_17) rfl (by rfl) (by kernel_rfl) (by kernel_rfl) (by kernel_rfl) (fun _ _ _ h => h) (Or.inl ⟨by rfl, ?_⟩) ((And.intro x_full_f13 (And.intro x_gone_f13 x_same_f13))) ?_
      rotate_left
      · intro wq hSq
        go_simp
        exact rfl
      try simp only [Act.put, List.setIfInBounds_toArray, List.set_cons_zero, List.set_cons_succ]
      refine takeH 19 200 (v := ?vf19_18) rfl (by rfl) (by kernel_rfl) (by kernel_rfl) (by kernel_rfl) (fun _ _ _ h => h) (Or.inl ⟨by rfl, ?_⟩) ((And.intro x_full_f13 (And.intro x_gone_f13 x_same_f13))) ?_
      rotate_left
      · intro wq hSq
        go_simp
        exact rfl
      try simp only [Act.put, List.setIfInBounds_toArray, List.set_cons_zero, List.set_cons_succ]
      refine takeH 20 201 (v := ?vf20_19) rfl (by rfl) (by kernel_rfl) (by kernel_rfl) (by kernel_rfl) (fun _ _ _ h => h) (Or.inl ⟨by rfl, ?_⟩) ((And.intro x_full_f13 (And.intro x_gone_f13 x_same_f13))) ?_
      rotate_left
      · intro wq hSq
        go_simp
        exact rfl
      try simp only [Act.put, List.setIfInBounds_toArray, List.set_cons_zero, List.set_cons_succ]
      refine takeH 21 202 (v := ?vf21_20) rfl (by rfl) (by kernel_rfl) (by kernel_rfl) (by kernel_rfl) (fun _ _ _ h => h) (Or.inl ⟨by rfl, ?_⟩) ((And.intro x_full_f13 (And.intro x_gone_f13 x_same_f13))) ?_
      rotate_left
      · intro wq hSq
        go_simp
        exact rfl
      try simp only [Act.put, List.setIfInBounds_toArray, List.set_cons_zero, List.set_cons_succ]
      refine takeH 22 203 (v := ?vf22_21) rfl (by rfl) (by kernel_rfl) (by kernel_rfl) (by kernel_rfl) (fun _ _ _ h => h) (Or.inl ⟨by rfl, ?_⟩) ((And.intro x_full_f13 (And.intro x_gone_f13 x_same_f13))) ?_
      rotate_left
      · intro wq hSq
        go_simp
        exact rfl
      try simp only [Act.put, List.setIfInBounds_toArray, List.set_cons_zero, List.set_cons_succ]
      refine takeH 23 204 (v := ?vf23_22) rfl (by rfl) (by kernel_rfl) (by kernel_rfl) (by kernel_rfl) (fun _ _ _ h => h) (Or.inl ⟨by rfl, ?_⟩) ((And.intro x_full_f13 (And.intro x_gone_f13 x_same_f13))) ?_
      rotate_left
      · intro wq hSq
        go_simp
        exact rfl
      try simp only [Act.put, List.setIfInBounds_toArray, List.set_cons_zero, List.set_cons_succ]
      refine takeH 24 205 (v := ?vf24_23) rfl (by rfl) (by kernel_rfl) (by kernel_rfl) (by kernel_rfl) (fun _ _ _ h => h) (Or.inl ⟨by rfl, ?_⟩) ((And.intro x_full_f13 (And.intro x_gone_f13 x_same_f13))) ?_
      rotate_left
      · intro wq hSq
        go_simp
        exact rfl
      try simp only [Act.put, List.setIfInBounds_toArray, List.set_cons_zero, List.set_cons_succ]
      refine takeH 25 206 (v := ?vf25_24) rfl (by rfl) (by kernel_rfl) (by kernel_rfl) (by kernel_rfl) (fun _ _ _ h => h) (Or.inl ⟨by rfl, ?_⟩) ((And.intro x_full_f13 (And.intro x_gone_f13 x_same_f13))) ?_
      rotate_left
      · intro wq hSq
        go_simp
        exact rfl
      try simp only [Act.put, List.setIfInBounds_toArray, List.set_cons_zero, List.set_cons_succ]
      refine takeH 26 207 (v := ?vf26_25) rfl (by rfl) (by kernel_rfl) (by kernel_rfl) (by kernel_rfl) (fun _ _ _ h => h) (Or.inl ⟨by rfl, ?_⟩) ((And.intro x_full_f13 (And.intro x_gone_f13 x_same_f13))) ?_
      rotate_left
      · intro wq hSq
        go_simp
        exact rfl
      try simp only [Act.put, List.setIfInBounds_toArray, List.set_cons_zero, List.set_cons_succ]
      refine takeH 27 208 (v := ?vf27_26) rfl (by rfl) (by kernel_rfl) (by kernel_rfl) (by kernel_rfl) (fun _ _ _ h => h) (Or.inl ⟨by rfl, ?_⟩) ((And.intro x_full_f13 (And.intro x_gone_f13 x_same_f13))) ?_
      rotate_left
      · intro wq hSq
        go_simp
        exact rfl
      try simp only [Act.put, List.setIfInBounds_toArray, List.set_cons_zero, List.set_cons_succ]
      refine takeH 28 209 (v := ?vf28_27) rfl (by rfl) (by kernel_rfl) (by kernel_rfl) (by kernel_rfl) (fun _ _ _ h => h) (Or.inl ⟨by rfl, ?_⟩) ((And.intro x_full_f13 (And.intro x_gone_f13 x_same_f13))) ?_
      rotate_left
      · intro wq hSq
        go_simp
        exact rfl
      try simp only [Act.put, List.setIfInBounds_toArray, List.set_cons_zero, List.set_cons_succ]
      refine takeH 29 210 (v := ?vf29_28) rfl (by rfl) (by kernel_rfl) (by kernel_rfl) (by kernel_rfl) (fun _ _ _ h => h) (Or.inl ⟨by rfl, ?_⟩) ((And.intro x_full_f13 (And.intro x_gone_f13 x_same_f13))) ?_
      rotate_left
      · intro wq hSq
        go_simp
        exact rfl
      try simp only [Act.put, List.setIfInBounds_toArray, List.set_cons_zero, List.set_cons_succ]
      refine takeH 30 211 (v := ?vf30_29) rfl (by rfl) (by kernel_rfl) (by kernel_rfl) (by kernel_rfl) (fun _ _ _ h => h) (Or.inl ⟨by rfl, ?_⟩) ((And.intro x_full_f13 (And.intro x_gone_f13 x_same_f13))) ?_
      rotate_left
      · intro wq hSq
        go_simp
        exact rfl
      try simp only [Act.put, List.setIfInBounds_toArray, List.set_cons_zero, List.set_cons_succ]
      refine takeH 31 212 (v := ?vf31_30) rfl (by rfl) (by kernel_rfl) (by kernel_rfl) (by kernel_rfl) (fun _ _ _ h => h) (Or.inl ⟨by rfl, ?_⟩) ((And.intro x_full_f13 (And.intro x_gone_f13 x_same_f13))) ?_
      rotate_left
      · intro wq hSq
        go_simp
        exact rfl
      try simp only [Act.put, List.setIfInBounds_toArray, List.set_cons_zero, List.set_cons_succ]
      refine takeH 32 213 (v := ?vf32_31) rfl (by rfl) (by kernel_rfl) (by kernel_rfl) (by kernel_rfl) (fun _ _ _ h => h) (Or.inl ⟨by rfl, ?_⟩) ((And.intro x_full_f13 (And.intro x_gone_f13 x_same_f13))) ?_
      rotate_left
      · intro wq hSq
        go_simp
        exact rfl
      try simp only [Act.put, List.setIfInBounds_toArray, List.set_cons_zero, List.set_cons_succ]
      refine takeH 33 214 (v := ?vf33_32) rfl (by rfl) (by kernel_rfl) (by kernel_rfl) (by kernel_rfl) (fun _ _ _ h => h) (Or.inl ⟨by rfl, ?_⟩) ((And.intro x_full_f13 (And.intro x_gone_f13 x_same_f13))) ?_
      rotate_left
      · intro wq hSq
        go_simp
        exact rfl
      try simp only [Act.put, List.setIfInBounds_toArray, List.set_cons_zero, List.set_cons_succ]
      refine takeH 34 215 (v := ?vf34_33) rfl (by rfl) (by kernel_rfl) (by kernel_rfl) (by kernel_rfl) (fun _ _ _ h => h) (Or.inl ⟨by rfl, ?_⟩) ((And.intro x_full_f13 (And.intro x_gone_f13 x_same_f13))) ?_
      rotate_left
      · intro wq hSq
        go_simp
        exact rfl
      try simp only [Act.put, List.setIfInBounds_toArray, List.set_cons_zero, List.set_cons_succ]
      refine takeH 35 216 (v := ?vf35_34) rfl (by rfl) (by kernel_rfl) (by kernel_rfl) (by kernel_rfl) (fun _ _ _ h => h) (Or.inl ⟨by rfl, ?_⟩) ((And.intro x_full_f13 (And.intro x_gone_f13 x_same_f13))) ?_
      rotate_left
      · intro wq hSq
        go_simp
        exact rfl
      try simp only [Act.put, List.setIfInBounds_toArray, List.set_cons_zero, List.set_cons_succ]
      refine takeH 36 217 (v := ?vf36_35) rfl (by rfl) (by kernel_rfl) (by kernel_rfl) (by kernel_rfl) (fun _ _ _ h => h) (Or.inl ⟨by rfl, ?_⟩) ((And.intro x_full_f13 (And.intro x_gone_f13 x_same_f13))) ?_
      rotate_left
      · intro wq hSq
        go_simp
        exact rfl
      try simp only [Act.put, List.setIfInBounds_toArray, List.set_cons_zero, List.set_cons_succ]
      refine takeH 37 218 (v := ?vf37_36) rfl (by rfl) (by kernel_rfl) (by kernel_rfl) (by kernel_rfl) (fun _ _ _ h => h) (Or.inl ⟨by rfl, ?_⟩) ((And.intro x_full_f13 (And.intro x_gone_f13 x_same_f13))) ?_
      rotate_left
      · intro wq hSq
        go_simp
        exact rfl
      try simp only [Act.put, List.setIfInBounds_toArray, List.set_cons_zero, List.set_cons_succ]
      refine takeH 38 219 (v := ?vf38_37) rfl (by rfl) (by kernel_rfl) (by kernel_rfl) (by kernel_rfl) (fun _ _ _ h => h) (Or.inl ⟨by rfl, ?_⟩) ((And.intro x_full_f13 (And.intro x_gone_f13 x_same_f13))) ?_
      rotate_left
      · intro wq hSq
        go_simp
        exact rfl
      try simp only [Act.put, List.setIfInBounds_toArray, List.set_cons_zero, List.set_cons_succ]
      refine takeH 39 220 (v := ?vf39_38) rfl (by rfl) (by kernel_rfl) (by kernel_rfl) (by kernel_rfl) (fun _ _ _ h => h) (Or.inl ⟨by rfl, ?_⟩) ((And.intro x_full_f13 (And.intro x_gone_f13 x_same_f13))) ?_
      rotate_left
      · intro wq hSq
        go_simp
        exact rfl
      try simp only [Act.put, List.setIfInBounds_toArray, List.set_cons_zero, List.set_cons_succ]
      refine takeH 40 221 (v := ?vf40_39) rfl (by rfl) (by kernel_rfl) (by kernel_rfl) (by kernel_rfl) (fun _ _ _ h => h) (Or.inl ⟨by rfl, ?_⟩) ((And.intro x_full_f13 (And.intro x_gone_f13 x_same_f13))) ?_
      rotate_left
      · intro wq hSq
        go_simp
        exact rfl
      try simp only [Act.put, List.setIfInBounds_toArray, List.set_cons_zero, List.set_cons_succ]
      refine takeH 41 222 (v := ?vf41_40) rfl (by rfl) (by kernel_rfl) (by kernel_rfl) (by kernel_rfl) (fun _ _ _ h => h) (Or.inl ⟨by rfl, ?_⟩) ((And.intro x_full_f13 (And.intro x_gone_f13 x_same_f13))) ?_
      rotate_left
      · intro wq hSq
        go_simp
        exact rfl
      try simp only [Act.put, List.setIfInBounds_toArray, List.set_cons_zero, List.set_cons_succ]
      refine takeH 42 223 (v := ?vf42_41) rfl (by rfl) (by kernel_rfl) (by kernel_rfl) (by kernel_rfl) (fun _ _ _ h => h) (Or.inl ⟨by rfl, ?_⟩) ((And.intro x_full_f13 (And.intro x_gone_f13 x_same_f13))) ?_
      rotate_left
      · intro wq hSq
        go_simp
        exact rfl
      try simp only [Act.put, List.setIfInBounds_toArray, List.set_cons_zero, List.set_cons_succ]
      refine takeH 43 224 (v := ?vf43_42) rfl (by rfl) (by kernel_rfl) (by kernel_rfl) (by kernel_rfl) (fun _ _ _ h => h) (Or.inl ⟨by rfl, ?_⟩) ((And.intro x_full_f13 (And.intro x_gone_f13 x_same_f13))) ?_
      rotate_left
      · intro wq hSq
        go_simp
        exact rfl
      try simp only [Act.put, List.setIfInBounds_toArray, List.set_cons_zero, List.set_cons_succ]
      refine takeH 44 225 (v := ?vf44_43) rfl (by rfl) (by kernel_rfl) (by kernel_rfl) (by kernel_rfl) (fun _ _ _ h => h) (Or.inl ⟨by rfl, ?_⟩) ((And.intro x_full_f13 (And.intro x_gone_f13 x_same_f13))) ?_
      rotate_left
      · intro wq hSq
        go_simp
        exact rfl
      try simp only [Act.put, List.setIfInBounds_toArray, List.set_cons_zero, List.set_cons_succ]
      refine takeH 45 226 (v := ?vf45_44) rfl (by rfl) (by kernel_rfl) (by kernel_rfl) (by kernel_rfl) (fun _ _ _ h => h) (Or.inl ⟨by rfl, ?_⟩) ((And.intro x_full_f13 (And.intro x_gone_f13 x_same_f13))) ?_
      rotate_left
      · intro wq hSq
        go_simp
        exact rfl
      try simp only [Act.put, List.setIfInBounds_toArray, List.set_cons_zero, List.set_cons_succ]
      refine takeH 46 227 (v := ?vf46_45) rfl (by rfl) (by kernel_rfl) (by kernel_rfl) (by kernel_rfl) (fun _ _ _ h => h) (Or.inl ⟨by rfl, ?_⟩) ((And.intro x_full_f13 (And.intro x_gone_f13 x_same_f13))) ?_
      rotate_left
      · intro wq hSq
        go_simp
        exact rfl
      try simp only [Act.put, List.setIfInBounds_toArray, List.set_cons_zero, List.set_cons_succ]
      refine takeH 47 228 (v := ?vf47_46) rfl (by rfl) (by kernel_rfl) (by kernel_rfl) (by kernel_rfl) (fun _ _ _ h => h) (Or.inl ⟨by rfl, ?_⟩) ((And.intro x_full_f13 (And.intro x_gone_f13 x_same_f13))) ?_
      rotate_left
      · intro wq hSq
        go_simp
        exact rfl
      try simp only [Act.put, List.setIfInBounds_toArray, List.set_cons_zero, List.set_cons_succ]
      refine takeH 48 229 (v := ?vf48_47) rfl (by rfl) (by kernel_rfl) (by kernel_rfl) (by kernel_rfl) (fun _ _ _ h => h) (Or.inl ⟨by rfl, ?_⟩) ((And.intro x_full_f13 (And.intro x_gone_f13 x_same_f13))) ?_
      rotate_left
      · intro wq hSq
        go_simp
        exact rfl
      try simp only [Act.put, List.setIfInBounds_toArray, List.set_cons_zero, List.set_cons_succ]
      refine takeH 49 230 (v := .agg ([.slice p1 (tks 99).length n1, .slice p2 [gone].length n2]).toArray) rfl (by rfl) (by kernel_rfl) (by kernel_rfl) (by kernel_rfl) (fun _ _ _ h => h) (yieldsIf_load_mid (by rfl) _ _ rfl _ _ rfl ([.slice p1 (tks 99).length n1, .slice p2 [gone].length n2]) _ (fun wq hq => Box.range (hq.1)) Try.underlying25 rfl (size_id12 _ _)) ((And.intro x_full_f13 (And.intro x_gone_f13 x_same_f13))) ?_
      try simp only [Act.put, List.setIfInBounds_toArray, List.set_cons_zero, List.set_cons_succ]
      refine takeH 50 231 (v := .agg (CG).toArray) rfl (by rfl) (by kernel_rfl) (by kernel_rfl) (by kernel_rfl) (fun _ _ _ h => h) (yieldsIf_load_mid (by rfl) _ _ rfl _ _ rfl (CG) _ (fun wq hq => Box.range (hq.2.1)) Try.underlying39 rfl SG.out) ((And.intro x_full_f13 (And.intro x_gone_f13 x_same_f13))) ?_
      try simp only [Act.put, List.setIfInBounds_toArray, List.set_cons_zero, List.set_cons_succ]
      refine wpAnyH_ready (rs := [51]) (by kernel_rfl) (by simp) (AllReadyH.cons rfl (fun K hK => ?_) AllReadyH.nil)
      go_simp
      refine (LG _).mono ?_
      rintro e Wf48 ⟨rfl, hbf48⟩
      have x_full_f48 : Box Wf48 (w.heap.size) ([.slice p1 (tks 99).length n1, .slice p2 [gone].length n2]) := Box.below x_full_f13 hbf48
      have x_gone_f48 : Box Wf48 (wr.heap.size) (CG) := Box.below x_gone_f13 hbf48
      have x_same_f48 : Box Wf48 (w72.heap.size) ([.slice p1s ((tks 99)).length n1s, .slice p2s ([gone]).length n2s]) := Box.below x_same_f13 hbf48
      have Bf48 := below_thru Bf13 hbf48
      have K_w71_f48 := below_thru K_w71_f13 hbf48
      have K_w72_f48 := below_thru K_w72_f13 hbf48
      have K_w150_f48 := below_thru K_w150_f13 hbf48
      have K_w151_f48 := below_thru K_w151_f13 hbf48
      have K_w152_f48 := below_thru K_w152_f13 hbf48
      have K_w153_f48 := below_thru K_w153_f13 hbf48
      have K_w154_f48 := below_thru K_w154_f13 hbf48
      clear x_full_f13 x_gone_f13 x_same_f13 Bf13 K_w71_f13 K_w72_f13 K_w150_f13 K_w151_f13 K_w152_f13 K_w153_f13 K_w154_f13 hbf48
      refine hK.out _ _ (And.intro x_full_f48 (And.intro x_gone_f48 x_same_f48)) (fun _ => ?_); clear hK K
      refine wpAnyH_ready (rs := [52]) (by kernel_rfl) (by simp) (AllReadyH.cons rfl (fun K hK => ?_) AllReadyH.nil)
      go_simp
      refine (AG _ _ (IF.out.below K_w71_f48)).mono ?_
      rintro e Wf49 ⟨rfl, hbf49⟩
      have x_full_f49 : Box Wf49 (w.heap.size) ([.slice p1 (tks 99).length n1, .slice p2 [gone].length n2]) := Box.below x_full_f48 hbf49
      have x_gone_f49 : Box Wf49 (wr.heap.size) (CG) := Box.below x_gone_f48 hbf49
      have x_same_f49 : Box Wf49 (w72.heap.size) ([.slice p1s ((tks 99)).length n1s, .slice p2s ([gone]).length n2s]) := Box.below x_same_f48 hbf49
      have Bf49 := below_thru Bf48 hbf49
      have K_w71_f49 := below_thru K_w71_f48 hbf49
      have K_w72_f49 := below_thru K_w72_f48 hbf49
      have K_w150_f49 := below_thru K_w150_f48 hbf49
      have K_w151_f49 := below_thru K_w151_f48 hbf49
      have K_w152_f49 := below_thru K_w152_f48 hbf49
      have K_w153_f49 := below_thru K_w153_f48 hbf49
      have K_w154_f49 := below_thru K_w154_f48 hbf49
      clear x_full_f48 x_gone_f48 x_same_f48 Bf48 K_w71_f48 K_w72_f48 K_w150_f48 K_w151_f48 K_w152_f48 K_w153_f48 K_w154_f48 hbf49
      refine hK.out _ _ (And.intro x_full_f49 (And.intro x_gone_f49 x_same_f49)) (fun _ => ?_); clear hK K
      refine takeH 53 234 (v := ?vf53_50) rfl (by rfl) (by kernel_rfl) (by kernel_rfl) (by kernel_rfl) (fun _ _ _ h => h) (Or.inl ⟨by rfl, ?_⟩) ((And.intro x_full_f49 (And.intro x_gone_f49 x_same_f49))) ?_
      rotate_left
      · intro wq hSq
        go_simp
        exact rfl
      try simp only [Act.put, List.setIfInBounds_toArray, List.set_cons_zero, List.set_cons_succ]
      refine takeH 54 235 (v := ?vf54_51) rfl (by rfl) (by kernel_rfl) (by kernel_rfl) (by kernel_rfl) (fun _ _ _ h => h) (Or.inl ⟨by rfl, ?_⟩) ((And.intro x_full_f49 (And.intro x_gone_f49 x_same_f49))) ?_
      rotate_left
      · intro wq hSq
        go_simp
        exact rfl
      try simp only [Act.put, List.setIfInBounds_toArray, List.set_cons_zero, List.set_cons_succ]
      refine wpAnyH_ready (rs := [55]) (by kernel_rfl) (by simp) (AllReadyH.cons rfl (fun K hK => ?_) AllReadyH.nil)
      go_simp
      refine (AL _).mono ?_
      rintro e Wf52 ⟨rfl, hbf52⟩
      have x_full_f52 : Box Wf52 (w.heap.size) ([.slice p1 (tks 99).length n1, .slice p2 [gone].length n2]) := Box.below x_full_f49 hbf52
      have x_gone_f52 : Box Wf52 (wr.heap.size) (CG) := Box.below x_gone_f49 hbf52
      have x_same_f52 : Box Wf52 (w72.heap.size) ([.slice p1s ((tks 99)).length n1s, .slice p2s ([gone]).length n2s]) := Box.below x_same_f49 hbf52
      have Bf52 := below_thru Bf49 hbf52
      have K_w71_f52 := below_thru K_w71_f49 hbf52
      have K_w72_f52 := below_thru K_w72_f49 hbf52
      have K_w150_f52 := below_thru K_w150_f49 hbf52
      have K_w151_f52 := below_thru K_w151_f49 hbf52
      have K_w152_f52 := below_thru K_w152_f49 hbf52
      have K_w153_f52 := below_thru K_w153_f49 hbf52
      have K_w154_f52 := below_thru K_w154_f49 hbf52
      clear x_full_f49 x_gone_f49 x_same_f49 Bf49 K_w71_f49 K_w72_f49 K_w150_f49 K_w151_f49 K_w152_f49 K_w153_f49 K_w154_f49 hbf52
      refine hK.out _ _ (And.intro x_full_f52 (And.intro x_gone_f52 x_same_f52)) (fun _ => ?_); clear hK K
      refine takeH 56 237 (v := ?vf56_53) rfl (by rfl) (by kernel_rfl) (by kernel_rfl) (by kernel_rfl) (fun _ _ _ h => h) (Or.inl ⟨by rfl, ?_⟩) ((And.intro x_full_f52 (And.intro x_gone_f52 x_same_f52))) ?_
      rotate_left
      · intro wq hSq
        go_simp
        exact rfl
      try simp only [Act.put, List.setIfInBounds_toArray, List.set_cons_zero, List.set_cons_succ]
      refine takeH 57 0 (v := ?vf57_54) rfl (by rfl) (by kernel_rfl) (by kernel_rfl) (by kernel_rfl) (fun _ _ _ h => h) (Or.inl ⟨by rfl, ?_⟩) ((And.intro x_full_f52 (And.intro x_gone_f52 x_same_f52))) ?_
      rotate_left
      · intro wq hSq
        go_simp
        exact rfl
      try simp only [Act.put, List.setIfInBounds_toArray, List.set_cons_zero]
      refine wpAnyH_done (by kernel_rfl) ?_ _
      go_wp2_with fail
      go_returns
      exact ⟨rfl, Bf52⟩

end Go.Proofs.Ytpccahdbienjeaa
