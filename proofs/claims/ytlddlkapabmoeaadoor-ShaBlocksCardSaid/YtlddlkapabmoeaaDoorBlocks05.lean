/-
  ShaBlocks, walked: it returns true.
-/
import Derived.Test.YtlddlkapabmoeaaDoorBlk05
namespace Go.Proofs.YtlddlkapabmoeaaDoor
open Go.RowKit

set_option maxRecDepth 100000 in
set_option maxHeartbeats 1600000 in
theorem blocks5_long {a0 : Option Addr} {c0 : Nat} {xs : List Int} (w : World) (q0 : 1000 < xs.length) (m0 : xs.length ≤ 9223372036854775807) (hL : Hid (LaidS w)) :
    Calls Tryd.prog 7 #[.slice a0 xs.length c0] w fun e w' => e = .returned (.bool true) ∧ Below w.heap.size w w' := by
  go_enter Tryd.func7, Tryd.ntmps7
  go_wp2_with fail
  refine (alive_tt _ hL).mono ?_
  rintro e w1 ⟨rfl, hb⟩
  go_wp2_with fail
  go_returns
  exact ⟨rfl, hb⟩

theorem field_words (h : W8) (v : Value) (n : Int) (w : World) : (Instr.field 36 (.agg (hashV h v n).toArray) 0).run Tryd.prog w = .ok (.agg (hv h).toArray) w := by kernel_rfl
set_option maxRecDepth 100000 in
set_option maxHeartbeats 6400000 in
theorem blocks5_main {a0 : Option Addr} {c0 : Nat} {xs : List Int} (w : World) (q0 : xs.length ≤ 1000) (i0 : Hid (IsL w .u8 (.slice a0 xs.length c0) xs)) (b0 : Hid (bytesL xs)) (hL : Hid (LaidS w)) :
    Calls Tryd.prog 7 #[.slice a0 xs.length c0] w fun e w' => e = .returned (.bool true) ∧ Below w.heap.size w w' := by
  obtain ⟨P, hP⟩ : ∃ P, P = padL xs.length := ⟨_, rfl⟩
  obtain ⟨A, hA⟩ : ∃ A, A = xs ++ P := ⟨_, rfl⟩
  obtain ⟨M, hM⟩ : ∃ M, M = (xs.length + 72) / 64 := ⟨_, rfl⟩
  obtain ⟨T, hT⟩ : ∃ T, T = aft M first A := ⟨_, rfl⟩
  obtain ⟨D, hD⟩ : ∃ D, shaOf xs = D := ⟨_, rfl⟩
  obtain ⟨f1, p1, p2⟩ := whole_blocks q0
  rw [← hP, ← hA, ← hM] at f1
  rw [← hP] at p1 p2
  have bA : bytesL A := by rw [hA, hP]; exact b0.out.append (padL_bytes _)
  have hTD : D = dig T := by
    rw [← hD, hT, hA, hP]
    unfold shaOf after
    rw [← hP, ← hA, f1, Nat.mul_div_cancel_left _ (by omega)]
  have hDl : D.length = 32 := by rw [hTD, dig_len]
  have M2 : M ≤ 17 := by omega
  have M1 : 1 ≤ M := by omega
  have r64 : (A.length : Int) % 64 = 0 := by omega
  have HP := Lib.hid hP
  have HA := Lib.hid hA
  have HM := Lib.hid hM
  have HT := Lib.hid hT
  have HD := Lib.hid hD
  have HTD := Lib.hid hTD
  have HDL := Lib.hid hDl
  have F1 := Lib.hid f1
  have BA := Lib.hid bA
  have P0 := Lib.hid (show nth P 0 = 128 by rw [hP]; exact padL_first _)
  have I32 := Lib.hid (show (Tryd.prog.info? 24).map (·.size) = some (D.map (Value.int .u8)).length by rw [List.length_map, hDl]; exact size32)
  have HLL := Lib.hid (show zero32.length = (D.map (Value.int .u8)).length by rw [List.length_map, hDl]; rfl)
  obtain ⟨ti, hin, hz0, hz1, hz2⟩ := info8
  clear hA hM hT hD hTD hDl bA f1
  go_enter Tryd.func7, Tryd.ntmps7
  go_wp2_with fail
  refine (pad_ok xs.length _ (by omega)).mono ?_
  rintro e w1 ⟨vp, rfl, hp, hB1⟩
  rw [← hP] at hp
  clear hP
  obtain ⟨ap, cp, rfl, ip, np⟩ := id hp
  have JP := Lib.hid hp
  clear ip np hp
  go_upto_region 5 with (first
    | (at_builtin; refine wpList_append_built rfl _ _ 28 rfl 5 ti (.int .u8 0) 1 .u8 Tryd.underlying28 hin hz0 hz1 hz2 rfl [] xs _ (.slice a0 xs.length c0) _ _ _ rfl rfl rfl rfl rfl rfl (IsL.below i0.out hB1) (by unfold maxLen; simp <;> omega) (by simp <;> omega) ?_; intro va wa howa hba)
    | (at_builtin; refine wpList_append_onto rfl _ _ 28 rfl w1.heap.size 5 ti (.int .u8 0) 1 .u8 Tryd.underlying28 hin hz0 hz1 hz2 rfl va ([] ++ xs) P (.slice ap P.length cp) rfl rfl howa (IsL.below JP.out hba) (by unfold maxLen; simp <;> omega) (by simp <;> omega) hba.size ?_; intro vb wb howb hbb))
  have hBq : Below w1.heap.size w1 wb := hba.trans hbb
  have hB2 : Below w.heap.size w wb := below_thru hB1 hBq
  have JP2 := Lib.hid (IsL.below JP.out hBq)
  have JA := Lib.hid (show IsL wb .u8 vb A by rw [HA.out]; exact IsL.own howb rfl)
  clear hba hbb howa howb hB1 hBq JP hin hz0 hz1 hz2
  obtain ⟨aa, ca, ec, ia, na⟩ := id JA.out
  subst ec
  have mA := ia.most
  have rA := ia.room
  clear ia na
  obtain ⟨bp, op, rfl, cp0⟩ := JP2.out.get 0 (by omega)
  obtain ⟨ba, oa, rfl, _⟩ := JA.out.get 0 (by have := F1.out; omega)
  rw [P0.out] at cp0
  have cp0 : wb.cell? ⟨bp, op, none⟩ = some (.int .u8 128) := cp0
  have rP := JP2.out.room
  have rP1 := rP.2.1
  have rP2 := rP.2.2
  clear rP
  go_wp2_with fail
  clear cp0 r64
  refine (start_any _ (hL.out.below hB2)).mono ?_
  rintro e w3 ⟨rfl, hb⟩
  have hB3 : Below w.heap.size w w3 := below_thru hB2 hb
  have JP3 := Lib.hid (IsL.below JP2.out hb)
  have JA3 := Lib.hid (IsL.below JA.out hb)
  have hs3 := hB3.size
  clear hb hB2 JP2 JA
  have hfw := field_words
  go_upto_region 8 with (refine wpList_store_box (cs := hv first) rfl _ _ _ rfl (Box.newc (l := zero8) rfl rfl) rfl rfl size8 rfl (hv_one _) ?_; intro W4 hW4)
  clear hfw
  have hN4 : Below w3.heap.size w3 W4 := hW4.below _ _ (Nat.le_refl _) ((Below.refl _ w3).alloc (Nat.le_refl _) _)
  have hx4 := hW4.box
  clear hW4
  go_wp2_with fail
  go_loopw [7] (fun i wr => ∃ k : Nat, k ≤ M ∧ i = .int .i64 ((64 * k : Nat) : Int) ∧ Box wr w3.heap.size (hv (aft k first A)) ∧ Below w3.heap.size w3 wr) (fun i _ => A.length - (intOf i).toNat)
  case atStart => exact ⟨0, Nat.zero_le _, rfl, hx4, hN4⟩
  case round =>
    clear hx4 hN4
    obtain ⟨k, hk, rfl, hxw, hB⟩ := hrel
    obtain ⟨m, hm⟩ : ∃ m, m = 64 * k := ⟨_, rfl⟩
    rw [← hm]
    have hsz := hB.size
    have hz0 := hxw.lt
    by_cases hlt : m < A.length
    · have hkM : k < M := by have := F1.out; omega
      have hmA : m + 64 ≤ A.length := by have := F1.out; omega
      have hsub0 : IsL wr .u8 (.slice (some ⟨ba, oa + m, none⟩) 64 (ca - m)) ((A.drop m).take 64) := (IsL.off (IsL.below JA3.out hB) m (by omega)).sub 64 (by omega)
      obtain ⟨Tk, hTk⟩ : ∃ Tk, aft k first A = Tk := ⟨_, rfl⟩
      rw [hTk] at hxw
      obtain ⟨B, hB'⟩ : ∃ B, (A.drop m).take 64 = B := ⟨_, rfl⟩
      obtain ⟨Tn, hTn⟩ : ∃ Tn, taken Tk B = Tn := ⟨_, rfl⟩
      have HTn := Lib.hid hTn
      have HTs := Lib.hid (show aft (k + 1) first A = Tn by rw [aft_succ, hTk, ← hm, hB', hTn])
      have hl64 := Lib.hid (show B.length = 64 by rw [← hB', List.length_take, List.length_drop]; omega)
      have hb64 := Lib.hid (show bytesL B by rw [← hB']; exact (BA.out.drop m).take 64)
      rw [hB'] at hsub0
      have hsub := Lib.hid hsub0
      have HL := Lib.hid ((hL.out.below hB3).below hB)
      have ne : ¬ ca = m := by omega
      have MM := Lib.hid hm
      clear hsub0 hTn hTk hB' hm
      go_upto_region 11 with fail
      refine wp_region_held_drew (S := fun w' => Box w' (w3.heap.size) (hv Tk)) (by kernel_rfl) (Box.drew hxw) (fun _ => ?_)
      refine F_drew (F := fun W => wpAnyH _ _ _ _ _ _ _ _ W) ?_
      intro W0 hb0
      have sz1 := Below.size hb0
      have hx_2 : Box W0 (w3.heap.size) (hv Tk) := Box.below hxw hb0
      have sub_3 := Lib.hid (IsL.below (Hid.out hsub) hb0)
      have laid_4 := Lib.hid (LaidS.below (Hid.out HL) hb0)
      have B_5 : Below w3.heap.size w3 W0 := below_thru hB hb0
      clear hxw hsub HL hB hb0
      refine takeH 0 63 (v := .agg (hv Tk).toArray) rfl (by rfl) (by kernel_rfl) (by kernel_rfl) (by kernel_rfl) (fun _ _ _ h => h) (yieldsIf_load_mid (by rfl) _ _ rfl _ 0 rfl (hv Tk) _ (fun wq hq => Box.range hq) Tryd.underlying32 rfl size8) (hx_2) ?_
      try simp only [Act.put, List.setIfInBounds_toArray, List.set_cons_zero, List.set_cons_succ]
      refine takeH 1 64 (v := .slice (some ⟨ba, oa, none⟩) A.length ca) rfl (by rfl) (by kernel_rfl) (by kernel_rfl) (by kernel_rfl) (fun _ _ _ h => h) (Or.inl ⟨by rfl, ?_⟩) (hx_2) ?_
      · intro wq hSq
        go_simp
      try simp only [Act.put, List.setIfInBounds_toArray, List.set_cons_zero, List.set_cons_succ]
      refine takeH 2 65 (v := .int .i64 (m : Int)) rfl (by rfl) (by kernel_rfl) (by kernel_rfl) (by kernel_rfl) (fun _ _ _ h => h) (Or.inl ⟨by rfl, ?_⟩) (hx_2) ?_
      · intro wq hSq
        go_simp
      try simp only [Act.put, List.setIfInBounds_toArray, List.set_cons_zero, List.set_cons_succ]
      refine takeH 3 66 (v := .int .i64 (m : Int)) rfl (by rfl) (by kernel_rfl) (by kernel_rfl) (by kernel_rfl) (fun _ _ _ h => h) (Or.inl ⟨by rfl, ?_⟩) (hx_2) ?_
      · intro wq hSq
        go_simp
      try simp only [Act.put, List.setIfInBounds_toArray, List.set_cons_zero, List.set_cons_succ]
      refine takeH 4 67 (v := .int .i64 ((m : Int) + 64)) rfl (by rfl) (by kernel_rfl) (by kernel_rfl) (by kernel_rfl) (fun _ _ _ h => h) (Or.inl ⟨by rfl, ?_⟩) (hx_2) ?_
      · intro wq hSq
        go_simp
        exact IntWalk.i64_in _ (by omega)
      try simp only [Act.put, List.setIfInBounds_toArray, List.set_cons_zero, List.set_cons_succ]
      refine takeH 5 68 (v := .slice (some ⟨ba, oa + m, none⟩) 64 (ca - m)) rfl (by rfl) (by kernel_rfl) (by kernel_rfl) (by kernel_rfl) (fun _ _ _ h => h) (Or.inl ⟨by rfl, ?_⟩) (hx_2) ?_
      · intro wq hSq
        go_simp
        rw [if_pos (show 0 ≤ (m : Int) + 64 ∧ (m : Int) + 64 ≤ (ca : Int) by omega), if_pos (show m ≤ ((m : Int) + 64).toNat by omega), show ((m : Int) + 64).toNat - m = 64 by omega]
      try simp only [Act.put, List.setIfInBounds_toArray, List.set_cons_zero, List.set_cons_succ]
      refine wpAnyH_ready (rs := [6, 10]) (by kernel_rfl) (by simp) (AllReadyH.cons rfl (fun K hK => ?_) (AllReadyH.cons rfl (fun K hK => ?_) AllReadyH.nil))
      · skip
        go_simp
        refine (bBlock_is _ HTn sub_3 hl64 hb64 laid_4).mono ?_
        rintro e W6 ⟨rfl, hb6⟩
        have sz7 := Below.size hb6
        have hx_8 : Box W6 (w3.heap.size) (hv Tk) := Box.below hx_2 hb6
        have sub_9 := Lib.hid (IsL.below (Hid.out sub_3) hb6)
        have laid_10 := Lib.hid (LaidS.below (Hid.out laid_4) hb6)
        have B_11 : Below w3.heap.size w3 W6 := below_thru B_5 hb6
        refine hK.out _ _ (hx_8) (fun _ => ?_); clear hK K
        refine takeH 7 62 (v := .tuple #[.agg (hv Tn).toArray, .int .i64 0]) rfl (by rfl) (by kernel_rfl) (by kernel_rfl) (by kernel_rfl) (fun _ _ _ h => h) (Or.inl ⟨by rfl, ?_⟩) (hx_8) ?_
        · intro wq hSq
          go_simp
        try simp only [Act.put, List.setIfInBounds_toArray, List.set_cons_zero, List.set_cons_succ]
        refine takeH 8 70 (v := .agg (hv Tn).toArray) rfl (by rfl) (by kernel_rfl) (by kernel_rfl) (by kernel_rfl) (fun _ _ _ h => h) (Or.inl ⟨by rfl, ?_⟩) (hx_8) ?_
        · intro wq hSq
          go_simp
        try simp only [Act.put, List.setIfInBounds_toArray, List.set_cons_zero, List.set_cons_succ]
        refine takeH 9 71 (v := .int .i64 0) rfl (by rfl) (by kernel_rfl) (by kernel_rfl) (by kernel_rfl) (fun _ _ _ h => h) (Or.inl ⟨by rfl, ?_⟩) (hx_8) ?_
        · intro wq hSq
          go_simp
        try simp only [Act.put, List.setIfInBounds_toArray, List.set_cons_zero, List.set_cons_succ]
        refine wpAnyH_ready (rs := [10]) (by kernel_rfl) (by simp) (AllReadyH.cons rfl (fun K hK => ?_) AllReadyH.nil)
        go_simp
        refine hK.out _ _ (Box.alloc hx_8 _) (fun _ => ?_); clear hK K
        refine F_alloc (F := fun W => wpAnyH _ _ _ _ _ _ _ _ W) (zero8) rfl ?_
        intro W12 hx12 hb12
        have sz13 := Below.size hb12
        have hx_14 : Box W12 (w3.heap.size) (hv Tk) := Box.below hx_8 hb12
        have sub_15 := Lib.hid (IsL.below (Hid.out sub_9) hb12)
        have laid_16 := Lib.hid (LaidS.below (Hid.out laid_10) hb12)
        have B_17 : Below w3.heap.size w3 W12 := below_thru B_11 hb12
        have lt12 := hx12.lt
        refine wpAnyH_ready (rs := [11]) (by kernel_rfl) (by simp) (AllReadyH.cons rfl (fun K hK => ?_) AllReadyH.nil)
        refine step_store_box0 (cs := hv Tn) rfl rfl _ _ _ rfl hx12 rfl rfl size8 rfl (hv_one _) ?_
        intro W18 hW18
        have hx_19 : Box W18 (w3.heap.size) (hv Tk) := hW18.past _ _ (by omega) hx_14
        have B_22 : Below w3.heap.size w3 W18 := hW18.below _ _ (by omega) B_17
        have nx_23 := hW18.box
        refine hK.out _ _ (hx_19) (fun _ => ?_); clear hK K
        refine takeH 12 9 (v := .int .i64 0) rfl (by rfl) (by kernel_rfl) (by kernel_rfl) (by kernel_rfl) (fun _ _ _ h => h) (Or.inl ⟨by rfl, ?_⟩) (hx_19) ?_
        · intro wq hSq
          go_simp
        try simp only [Act.put, List.setIfInBounds_toArray, List.set_cons_zero, List.set_cons_succ]
        refine wpAnyH_done (by kernel_rfl) ?_ _
        go_wp2_with (first | (refine wpList_load_box rfl _ _ rfl nx_23 rfl Tryd.underlying32 rfl size8 ?_) | (refine wpList_store_box (cs := hv Tn) rfl _ _ _ rfl hx_19 rfl rfl size8 rfl (hv_one _) ?_; intro WZ hWZ))
        go_roundw
        case rel => exact ⟨k + 1, by omega, by rw [show 64 * (k + 1) = m + 64 by have := MM.out; omega]; go_num, by rw [HTs.out]; exact hWZ.box, hWZ.below _ _ (Nat.le_refl _) B_22⟩
        case measure => simp [intOf]; omega
      · skip
        go_simp
        refine hK.out _ _ (Box.alloc hx_2 _) (fun _ => ?_); clear hK K
        refine F_alloc (F := fun W => wpAnyH _ _ _ _ _ _ _ _ W) (zero8) rfl ?_
        intro W24 hx24 hb24
        have sz25 := Below.size hb24
        have hx_26 : Box W24 (w3.heap.size) (hv Tk) := Box.below hx_2 hb24
        have sub_27 := Lib.hid (IsL.below (Hid.out sub_3) hb24)
        have laid_28 := Lib.hid (LaidS.below (Hid.out laid_4) hb24)
        have B_29 : Below w3.heap.size w3 W24 := below_thru B_5 hb24
        have lt24 := hx24.lt
        refine wpAnyH_ready (rs := [6]) (by kernel_rfl) (by simp) (AllReadyH.cons rfl (fun K hK => ?_) AllReadyH.nil)
        go_simp
        refine (bBlock_is _ HTn sub_27 hl64 hb64 laid_28).mono ?_
        rintro e W30 ⟨rfl, hb30⟩
        have sz31 := Below.size hb30
        have hx_32 : Box W30 (w3.heap.size) (hv Tk) := Box.below hx_26 hb30
        have sub_33 := Lib.hid (IsL.below (Hid.out sub_27) hb30)
        have laid_34 := Lib.hid (LaidS.below (Hid.out laid_28) hb30)
        have B_35 : Below w3.heap.size w3 W30 := below_thru B_29 hb30
        have nx_36 : Box W30 (W0.heap.size) (zero8) := Box.below hx24 hb30
        refine hK.out _ _ (hx_32) (fun _ => ?_); clear hK K
        refine takeH 7 62 (v := .tuple #[.agg (hv Tn).toArray, .int .i64 0]) rfl (by rfl) (by kernel_rfl) (by kernel_rfl) (by kernel_rfl) (fun _ _ _ h => h) (Or.inl ⟨by rfl, ?_⟩) (hx_32) ?_
        · intro wq hSq
          go_simp
        try simp only [Act.put, List.setIfInBounds_toArray, List.set_cons_zero, List.set_cons_succ]
        refine takeH 8 70 (v := .agg (hv Tn).toArray) rfl (by rfl) (by kernel_rfl) (by kernel_rfl) (by kernel_rfl) (fun _ _ _ h => h) (Or.inl ⟨by rfl, ?_⟩) (hx_32) ?_
        · intro wq hSq
          go_simp
        try simp only [Act.put, List.setIfInBounds_toArray, List.set_cons_zero, List.set_cons_succ]
        refine takeH 9 71 (v := .int .i64 0) rfl (by rfl) (by kernel_rfl) (by kernel_rfl) (by kernel_rfl) (fun _ _ _ h => h) (Or.inl ⟨by rfl, ?_⟩) (hx_32) ?_
        · intro wq hSq
          go_simp
        try simp only [Act.put, List.setIfInBounds_toArray, List.set_cons_zero, List.set_cons_succ]
        refine wpAnyH_ready (rs := [11]) (by kernel_rfl) (by simp) (AllReadyH.cons rfl (fun K hK => ?_) AllReadyH.nil)
        refine step_store_box0 (cs := hv Tn) rfl rfl _ _ _ rfl nx_36 rfl rfl size8 rfl (hv_one _) ?_
        intro W37 hW37
        have hx_38 : Box W37 (w3.heap.size) (hv Tk) := hW37.past _ _ (by omega) hx_32
        have B_41 : Below w3.heap.size w3 W37 := hW37.below _ _ (by omega) B_35
        have nx_42 := hW37.box
        refine hK.out _ _ (hx_38) (fun _ => ?_); clear hK K
        refine takeH 12 9 (v := .int .i64 0) rfl (by rfl) (by kernel_rfl) (by kernel_rfl) (by kernel_rfl) (fun _ _ _ h => h) (Or.inl ⟨by rfl, ?_⟩) (hx_38) ?_
        · intro wq hSq
          go_simp
        try simp only [Act.put, List.setIfInBounds_toArray, List.set_cons_zero, List.set_cons_succ]
        refine wpAnyH_done (by kernel_rfl) ?_ _
        go_wp2_with (first | (refine wpList_load_box rfl _ _ rfl nx_42 rfl Tryd.underlying32 rfl size8 ?_) | (refine wpList_store_box (cs := hv Tn) rfl _ _ _ rfl hx_38 rfl rfl size8 rfl (hv_one _) ?_; intro WZ hWZ))
        go_roundw
        case rel => exact ⟨k + 1, by omega, by rw [show 64 * (k + 1) = m + 64 by have := MM.out; omega]; go_num, by rw [HTs.out]; exact hWZ.box, hWZ.below _ _ (Nat.le_refl _) B_41⟩
        case measure => simp [intOf]; omega
    · obtain rfl : k = M := by have := F1.out; omega
      rw [← HT.out] at hxw
      have hBw : Below w.heap.size w wr := below_thru hB3 hB
      have JPw := Lib.hid (IsL.below JP3.out hB)
      have hzw := hBw.size
      clear hB JP3 JA3 hm
      go_wp2_with fail
      refine (sum_ok _ (Lib.hid (IsL.below i0.out hBw)) (by omega) b0 HD (Lib.hid (hL.out.below hBw))).mono ?_
      rintro e w5 ⟨rfl, hb⟩
      have hB5 : Below w.heap.size w w5 := below_thru hBw hb
      have hxw5 := hxw.below hb
      have JP5 := Lib.hid (IsL.below JPw.out hb)
      have hs5 := hB5.size
      have hz5 := hxw5.lt
      clear hb hBw hxw JPw
      go_upto_region 16 with (refine wpList_store_box (cs := D.map (Value.int .u8)) rfl _ _ _ rfl (Box.newc (l := zero32) rfl rfl) rfl rfl I32.out HLL.out (oneCell_ints _) ?_; intro W6 hW6)
      have hN6 : Below w5.heap.size w5 W6 := hW6.below _ _ (Nat.le_refl _) ((Below.refl _ w5).alloc (Nat.le_refl _) _)
      have hB6 := Lib.hid (below_thru hB5 hN6)
      have hxw6 := Lib.hid (hxw5.below hN6)
      have hxd6 := Lib.hid hW6.box
      have JP6 := Lib.hid (IsL.below JP5.out hN6)
      clear hW6 hN6 hB5 hxw5 JP5
      have B0 := bitsJ_zero xs.length (by omega)
      go_wp2_with fail
      go_loopw [12, 13] (fun x i wr => ∃ j : Nat, j ≤ 8 ∧ x = .int .i64 (bitsJ xs.length j) ∧ i = .int .i64 ((P.length - 8 + j : Nat) : Int) ∧ wr = W6) (fun _ i _ => P.length - (intOf i).toNat)
      case atStart => exact ⟨0, by omega, by rw [B0], by rw [show ((P.length - 8 + 0 : Nat) : Int) = (P.length : Int) - 8 by omega], rfl⟩
      case round =>
        clear B0
        obtain ⟨j, hj, rfl, rfl, rfl⟩ := hrel
        obtain ⟨W6, rfl⟩ : ∃ u : World, u = wr := ⟨_, rfl⟩
        obtain ⟨q, hq⟩ : ∃ q, q = P.length - 8 + j := ⟨_, rfl⟩
        rw [← hq]
        by_cases hj8 : j < 8
        · have hqP : q < P.length := by omega
          obtain ⟨_, _, eq, cq⟩ := JP6.out.get q hqP
          cases eq
          have hv : nth P q = padB xs.length j := by rw [hq, HP.out]; exact padL_last _ _ hj8
          rw [hv] at cq
          have hby := padB_byte xs.length j
          have hbt := bitsJ_le xs.length j q0
          have HS := Lib.hid (bitsJ_succ xs.length j hj8)
          have HQ := Lib.hid hq
          clear hq hv
          generalize padB xs.length j = v at *
          obtain ⟨bj, hbj⟩ : ∃ bj, bitsJ xs.length j = bj := ⟨_, rfl⟩
          rw [hbj] at hbt HS ⊢
          clear hbj
          have hby1 := hby.1
          have hby2 := hby.2
          have hbt1 := hbt.1
          have hbt2 := hbt.2
          clear hby hbt
          go_wp2_with fail
          go_roundw
          case rel => exact ⟨j + 1, by omega, by rw [← HS.out], by rw [show P.length - 8 + (j + 1) = q + 1 by have := HQ.out; omega]; go_num, trivial⟩
          case measure => simp [intOf]; omega
        · obtain rfl : j = 8 := by omega
          obtain rfl : q = P.length := by omega
          clear hq
          rw [bitsJ_last]
          go_wp2_with fail
          go_loopw [14] (fun i wr => ∃ j n : Nat, j ≤ 32 ∧ i = .int .i64 j ∧ wr = W6.drewN n) (fun i _ => 32 - (intOf i).toNat)
          case atStart => exact ⟨0, 0, by omega, rfl, rfl⟩
          case round =>
            obtain ⟨j, n, hj, rfl, rfl⟩ := hrel
            by_cases hlt : j < 32
            · have hg : (hv T)[j / 4]? = some (.int .u32 (un (T.l.getD (j / 4) 0))) := hv_get T (j / 4) (by omega)
              have c0 := hxw6.out.c (j / 4) _ hg
              have c1 := hxd6.out.c j _ (nth_get j (by have := HDL.out; omega))
              obtain ⟨s, hs⟩ : ∃ s : Nat, s = 24 - j % 4 * 8 := ⟨_, rfl⟩
              have e1 : (24 : Int) - 8 * ((j : Int) % 4) = (s : Int) := by omega
              have s1 : s ≤ 24 := by omega
              have E : nth D j = un (T.l.getD (j / 4) 0) / 2 ^ s % 256 := by rw [HTD.out, nth_dig _ _ hlt, hs]; rfl
              rw [E] at c1
              clear hs hg E
              generalize T.l.getD (j / 4) 0 = v at *
              go_wp2_with fail
              go_quiet (fail)
              go_wp2_with fail
              go_roundw
              case rel => exact ⟨j + 1, _, by omega, by go_num, rfl⟩
              case measure => simp [intOf]; omega
            · have q8 : ((8 : Int) * (xs.length : Int) == 8 * (xs.length : Int)) = true := beq_self_eq_true _
              go_wp2_with fail
              refine (alive_tt _ (Lib.hid ((hL.out.below hB6.out).drewN _))).mono ?_
              rintro e w9 ⟨rfl, hb⟩
              have hB9 : Below w.heap.size w w9 := below_thru (below_drewN hB6.out _) hb
              go_wp2_with fail
              go_returns
              exact ⟨rfl, hB9⟩

theorem blocks5_any {a0 : Option Addr} {c0 : Nat} {xs : List Int} {w : World} (i0 : IsL w .u8 (.slice a0 xs.length c0) xs) (b0 : bytesL xs) (hL : LaidS w) :
    Calls Tryd.prog 7 #[.slice a0 xs.length c0] w fun e w' => e = .returned (.bool true) ∧ Below w.heap.size w w' := by
  have m0 := i0.room
  by_cases h : 1000 < xs.length
  · exact blocks5_long w h (by omega) (Lib.hid hL)
  · exact blocks5_main w (by omega) (Lib.hid i0) (Lib.hid b0) (Lib.hid hL)

end Go.Proofs.YtlddlkapabmoeaaDoor
