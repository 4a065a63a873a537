/-
  Package sha: Finish.
-/
import Derived.Test.YtfobjdkpdeiidaaDoorShaH
namespace Go.Proofs.YtfobjdkpdeiidaaDoor
open Go.RowKit

def zero32 : List Value := (List.replicate 32 (0 : Int)).map (Value.int .u8)
def zeroD : Value := dv (List.replicate 32 0)
theorem digest_is {h : W8} {D : List Int} (w : World) (hD : Hid (dig h = D)) : Calls Tryd.prog 43 #[.agg (hv h).toArray] w fun e w' => e = .returned (dv D) ∧ Below w.heap.size w w' := by
  rw [← hD.out]; exact digest_any h w
set_option maxRecDepth 100000 in
theorem finish_bad (h : W8) (at0 : Option Addr) (len cap : Nat) (n : Int) (w : World) (hn : i64n n) (hl : len ≤ 9223372036854775807) (hvd : Hid (vldH n len = false)) :
    Calls Tryd.prog 32 #[.agg #[.int .u32 (un h.a), .int .u32 (un h.b), .int .u32 (un h.c), .int .u32 (un h.d), .int .u32 (un h.e), .int .u32 (un h.f), .int .u32 (un h.g), .int .u32 (un h.z), .slice at0 len cap, .int .i64 n]] w fun e w' => e = .returned (.tuple #[zeroD, .int .i64 8]) ∧ Below w.heap.size w w' := by
  obtain ⟨v1, hv1⟩ : ∃ v1, v1 = Value.slice at0 len cap := ⟨_, rfl⟩
  rw [← hv1]
  have hc := fun W => valid_any h at0 len cap n false hvd W hn.1 hn.2 hl
  rw [← hv1] at hc
  clear hv1
  go_enter Tryd.func32, Tryd.ntmps32
  go_wp2_with fail
  refine (hc _).mono ?_
  rintro e w1 ⟨rfl, hb⟩
  have hB1 : Below w.heap.size w w1 := below_thru (by go_grown) hb
  have hxr : Box w1 (w.heap.size + 1) zero32 := Box.below (Box.newc rfl (by simp)) hb
  clear hb hc
  go_wp2_with (refine wpList_store_box (cs := zero32) rfl _ _ _ rfl hxr rfl rfl size32 rfl (oneCell_ints _) ?_; intro W3 hW3)
  exact bodyPost_ret (v := .tuple #[.agg zero32.toArray, .int .i64 8]) (results_box2 Tryd.results32 hW3.box rfl rfl Tryd.underlying31 rfl size32) rfl ⟨rfl, hW3.below _ _ (Nat.le_succ _) hB1⟩
set_option maxRecDepth 100000 in
set_option maxHeartbeats 3200000 in
theorem finish_ok (h : W8) (a1 : Option Addr) (c1 : Nat) (xs : List Int) (N : Nat) (w : World) (h1 : IsL w .u8 (.slice a1 xs.length c1) xs) (hN : N ≤ 128000) (hvd : Hid (vldH (N : Int) xs.length = true))
    (hx : bytesL xs) (hL : LaidS w) :
    Calls Tryd.prog 32 #[.agg #[.int .u32 (un h.a), .int .u32 (un h.b), .int .u32 (un h.c), .int .u32 (un h.d), .int .u32 (un h.e), .int .u32 (un h.f), .int .u32 (un h.g), .int .u32 (un h.z), .slice a1 xs.length c1, .int .i64 (N : Int)]] w fun e w' => e = .returned (.tuple #[dv (dig (after h (xs ++ padL N))), .int .i64 0]) ∧ Below w.heap.size w w' := by
  have hlen : (xs.length : Int) = (N : Int) % 64 := by
    have := hvd.out
    simp only [vldH, Bool.and_eq_true, decide_eq_true_eq] at this
    exact this.2
  have hsum : xs.length + (padL N).length ≤ 1000000000 := by rw [padL_len]; omega
  have hlx : xs.length ≤ 9223372036854775807 := by omega
  have hbytes := Lib.hid (hx.append (padL_bytes N))
  have HI1 := Lib.hid h1
  have HL1 := Lib.hid hL
  clear hx h1 hL hlen
  go_enter Tryd.func32, Tryd.ntmps32
  go_wp2_with fail
  refine (valid_any h a1 xs.length c1 (N : Int) true hvd _ (by omega) (by omega) hlx).mono ?_
  rintro e w1 ⟨rfl, hb⟩
  have hB1 : Below w.heap.size w w1 := below_thru (by go_grown) hb
  have hxr : Box w1 (w.heap.size + 1) zero32 := Box.below (Box.newc rfl (by simp)) hb
  have hxh : Box w1 w.heap.size (hashV h (.slice a1 xs.length c1) (N : Int)) := Box.below (Box.alloc (Box.newc rfl rfl) _) hb
  have HI1 := Lib.hid (IsL.below HI1.out hB1)
  have HL1 := Lib.hid (LaidS.below HL1.out hB1)
  have hz1 := hxr.lt
  clear hb
  go_upto_region 3 with fail
  go_cut [4] (fun p wx => ∃ (b : Nat), p = .pointer (some ⟨b, 0, none⟩) ∧ w.heap.size + 1 < b ∧ Box wx b (hv (after h (xs ++ padL N))) ∧ Box wx (w.heap.size + 1) zero32 ∧ Below w.heap.size w wx)
  case first =>
    refine wp_region_held_drew (S := fun w' => Box w' w.heap.size (hashV h (.slice a1 xs.length c1) (N : Int))) (by kernel_rfl) (Box.drew hxh) (fun _ => ?_)
    refine F_drew (F := fun W => wpAnyH _ _ _ _ _ _ _ _ W) ?_
    intro W0 hb0
    have sz1 := Below.size hb0
    have hx_2 : Box W0 (w.heap.size) (hashV h (.slice a1 xs.length c1) (N : Int)) := Box.below hxh hb0
    have hr_3 : Box W0 (w.heap.size + 1) (zero32) := Box.below hxr hb0
    have i1_4 := Lib.hid (IsL.below (Hid.out HI1) hb0)
    have laid_5 := Lib.hid (LaidS.below (Hid.out HL1) hb0)
    have B_6 : Below w.heap.size w W0 := below_thru hB1 hb0
    clear hxh hxr HI1 HL1 hB1 hb0
    refine takeH 0 11 (v := .pointer (some ⟨w.heap.size, 0, none⟩)) rfl (by rfl) (by kernel_rfl) (by kernel_rfl) (by kernel_rfl) (fun _ _ _ h => h) (Or.inl ⟨by rfl, ?_⟩) (hx_2) ?_
    · intro wq hSq
      go_simp
    try simp only [Act.put, List.setIfInBounds_toArray, List.set_cons_zero, List.set_cons_succ]
    refine takeH 1 12 (v := .agg (hv h).toArray) rfl (by rfl) (by kernel_rfl) (by kernel_rfl) (by kernel_rfl) (fun _ _ _ h => h) (yieldsIf_load_mid (by rfl) _ _ rfl _ 0 rfl (hv h) _ (fun wq hq => Box.left (l := hv h) (r := [.slice a1 xs.length c1, .int .i64 (N : Int)]) hq) Tryd.underlying59 rfl size8) (hx_2) ?_
    try simp only [Act.put, List.setIfInBounds_toArray, List.set_cons_zero, List.set_cons_succ]
    refine takeH 2 13 (v := .pointer (some ⟨w.heap.size, 8, none⟩)) rfl (by rfl) (by kernel_rfl) (by kernel_rfl) (by kernel_rfl) (fun _ _ _ h => h) (Or.inl ⟨by rfl, ?_⟩) (hx_2) ?_
    · intro wq hSq
      go_simp
    try simp only [Act.put, List.setIfInBounds_toArray, List.set_cons_zero, List.set_cons_succ]
    refine takeH 3 14 (v := .slice a1 xs.length c1) rfl (by rfl) (by kernel_rfl) (by kernel_rfl) (by kernel_rfl) (fun _ _ _ h => h) (Or.inl ⟨by rfl, ?_⟩) (hx_2) ?_
    · intro wq hSq
      have cq := hSq.c 8 _ rfl
      go_simp
    try simp only [Act.put, List.setIfInBounds_toArray, List.set_cons_zero, List.set_cons_succ]
    refine takeH 4 15 (v := .pointer (some ⟨w.heap.size, 9, none⟩)) rfl (by rfl) (by kernel_rfl) (by kernel_rfl) (by kernel_rfl) (fun _ _ _ h => h) (Or.inl ⟨by rfl, ?_⟩) (hx_2) ?_
    · intro wq hSq
      go_simp
    try simp only [Act.put, List.setIfInBounds_toArray, List.set_cons_zero, List.set_cons_succ]
    refine takeH 5 16 (v := .int .i64 (N : Int)) rfl (by rfl) (by kernel_rfl) (by kernel_rfl) (by kernel_rfl) (fun _ _ _ h => h) (Or.inl ⟨by rfl, ?_⟩) (hx_2) ?_
    · intro wq hSq
      have cq := hSq.c 9 _ rfl
      go_simp
    try simp only [Act.put, List.setIfInBounds_toArray, List.set_cons_zero, List.set_cons_succ]
    refine wpAnyH_ready (rs := [6, 13]) (by kernel_rfl) (by simp) (AllReadyH.cons rfl (fun K hK => ?_) (AllReadyH.cons rfl (fun K hK => ?_) AllReadyH.nil))
    · skip
      go_simp
      refine (padding_any N _ hN).mono ?_
      rintro e W7 ⟨vp7, rfl, hp7, hb7⟩
      obtain ⟨pa7, pc7, ep7, _⟩ := id hp7
      subst ep7
      have hi7 := Lib.hid hp7
      clear hp7
      have sz8 := Below.size hb7
      have hx_9 : Box W7 (w.heap.size) (hashV h (.slice a1 xs.length c1) (N : Int)) := Box.below hx_2 hb7
      have hr_10 : Box W7 (w.heap.size + 1) (zero32) := Box.below hr_3 hb7
      have i1_11 := Lib.hid (IsL.below (Hid.out i1_4) hb7)
      have laid_12 := Lib.hid (LaidS.below (Hid.out laid_5) hb7)
      have B_13 : Below w.heap.size w W7 := below_thru B_6 hb7
      refine hK.out _ _ (hx_9) (fun _ => ?_); clear hK K
      refine wpAnyH_ready (rs := [7, 13]) (by kernel_rfl) (by simp) (AllReadyH.cons rfl (fun K hK => ?_) (AllReadyH.cons rfl (fun K hK => ?_) AllReadyH.nil))
      · skip
        go_simp
        refine hK.out _ _ (Box.alloc hx_9 _) (fun _ => ?_); clear hK K
        refine F_alloc (F := fun W => wpAnyH _ _ _ _ _ _ _ _ W) ([.slice a1 xs.length c1, .slice pa7 (padL N).length pc7]) rfl ?_
        intro W14 hx14 hb14
        have sz15 := Below.size hb14
        have hx_16 : Box W14 (w.heap.size) (hashV h (.slice a1 xs.length c1) (N : Int)) := Box.below hx_9 hb14
        have hr_17 : Box W14 (w.heap.size + 1) (zero32) := Box.below hr_10 hb14
        have i1_18 := Lib.hid (IsL.below (Hid.out i1_11) hb14)
        have laid_19 := Lib.hid (LaidS.below (Hid.out laid_12) hb14)
        have B_20 : Below w.heap.size w W14 := below_thru B_13 hb14
        have i2_21 := Lib.hid (IsL.below (Hid.out hi7) hb14)
        have lt14 := hx14.lt
        refine wpAnyH_ready (rs := [8, 13]) (by kernel_rfl) (by simp) (AllReadyH.cons rfl (fun K hK => ?_) (AllReadyH.cons rfl (fun K hK => ?_) AllReadyH.nil))
        · skip
          go_simp
          refine (concat_any _ _ _ xs (padL N) _ (hx14.c 0 _ rfl) (hx14.c 1 _ rfl) (Hid.out i1_18) (Hid.out i2_21) hsum).mono ?_
          rintro e W22 ⟨v22, rfl, ho22⟩
          have rg22 := Lib.hid (OwnL.range ho22)
          have hq22 := Lib.hid (OwnL.is ho22)
          have hb22 := ho22.2
          clear ho22
          have sz23 := Below.size hb22
          have hx_24 : Box W22 (w.heap.size) (hashV h (.slice a1 xs.length c1) (N : Int)) := Box.below hx_16 hb22
          have hr_25 : Box W22 (w.heap.size + 1) (zero32) := Box.below hr_17 hb22
          have i1_26 := Lib.hid (IsL.below (Hid.out i1_18) hb22)
          have laid_27 := Lib.hid (LaidS.below (Hid.out laid_19) hb22)
          have B_28 : Below w.heap.size w W22 := below_thru B_20 hb22
          have i2_29 := Lib.hid (IsL.below (Hid.out i2_21) hb22)
          have sl_30 : Box W22 (W7.heap.size) ([.slice a1 xs.length c1, .slice pa7 (padL N).length pc7]) := Box.below hx14 hb22
          refine hK.out _ _ (hx_24) (fun _ => ?_); clear hK K
          refine wpAnyH_ready (rs := [9, 13]) (by kernel_rfl) (by simp) (AllReadyH.cons rfl (fun K hK => ?_) (AllReadyH.cons rfl (fun K hK => ?_) AllReadyH.nil))
          · skip
            go_simp
            refine (takeIn_any h _ (xs ++ padL N) _ (Hid.out hq22) (Hid.out hbytes) (Hid.out laid_27)).mono ?_
            rintro e W31 ⟨v31, rfl, hl31, he31, hb31⟩
            have hq31 := Lib.hid hl31
            clear hl31
            have HE31 := Lib.hid he31
            clear he31
            have sz32 := Below.size hb31
            have hx_33 : Box W31 (w.heap.size) (hashV h (.slice a1 xs.length c1) (N : Int)) := Box.below hx_24 hb31
            have hr_34 : Box W31 (w.heap.size + 1) (zero32) := Box.below hr_25 hb31
            have i1_35 := Lib.hid (IsL.below (Hid.out i1_26) hb31)
            have laid_36 := Lib.hid (LaidS.below (Hid.out laid_27) hb31)
            have B_37 : Below w.heap.size w W31 := below_thru B_28 hb31
            have i2_38 := Lib.hid (IsL.below (Hid.out i2_29) hb31)
            have sl_39 : Box W31 (W7.heap.size) ([.slice a1 xs.length c1, .slice pa7 (padL N).length pc7]) := Box.below sl_30 hb31
            have cat_40 := Lib.hid (IsL.below (Hid.out hq22) hb31)
            refine hK.out _ _ (hx_33) (fun _ => ?_); clear hK K
            refine takeH 10 10 (v := .tuple #[.agg (hv (after h (xs ++ padL N))).toArray, v31]) rfl (by rfl) (by kernel_rfl) (by kernel_rfl) (by kernel_rfl) (fun _ _ _ h => h) (Or.inl ⟨by rfl, ?_⟩) (hx_33) ?_
            · intro wq hSq
              go_simp
            try simp only [Act.put, List.setIfInBounds_toArray, List.set_cons_zero, List.set_cons_succ]
            refine takeH 11 21 (v := .agg (hv (after h (xs ++ padL N))).toArray) rfl (by rfl) (by kernel_rfl) (by kernel_rfl) (by kernel_rfl) (fun _ _ _ h => h) (Or.inl ⟨by rfl, ?_⟩) (hx_33) ?_
            · intro wq hSq
              go_simp
            try simp only [Act.put, List.setIfInBounds_toArray, List.set_cons_zero, List.set_cons_succ]
            refine takeH 12 22 (v := v31) rfl (by rfl) (by kernel_rfl) (by kernel_rfl) (by kernel_rfl) (fun _ _ _ h => h) (Or.inl ⟨by rfl, ?_⟩) (hx_33) ?_
            · intro wq hSq
              go_simp
            try simp only [Act.put, List.setIfInBounds_toArray, List.set_cons_zero, List.set_cons_succ]
            refine wpAnyH_ready (rs := [13]) (by kernel_rfl) (by simp) (AllReadyH.cons rfl (fun K hK => ?_) AllReadyH.nil)
            go_simp
            refine hK.out _ _ (Box.alloc hx_33 _) (fun _ => ?_); clear hK K
            refine F_alloc (F := fun W => wpAnyH _ _ _ _ _ _ _ _ W) (zero8) rfl ?_
            intro W41 hx41 hb41
            have sz42 := Below.size hb41
            have hx_43 : Box W41 (w.heap.size) (hashV h (.slice a1 xs.length c1) (N : Int)) := Box.below hx_33 hb41
            have hr_44 : Box W41 (w.heap.size + 1) (zero32) := Box.below hr_34 hb41
            have i1_45 := Lib.hid (IsL.below (Hid.out i1_35) hb41)
            have laid_46 := Lib.hid (LaidS.below (Hid.out laid_36) hb41)
            have B_47 : Below w.heap.size w W41 := below_thru B_37 hb41
            have i2_48 := Lib.hid (IsL.below (Hid.out i2_38) hb41)
            have sl_49 : Box W41 (W7.heap.size) ([.slice a1 xs.length c1, .slice pa7 (padL N).length pc7]) := Box.below sl_39 hb41
            have cat_50 := Lib.hid (IsL.below (Hid.out cat_40) hb41)
            have out_51 := Lib.hid (IsL.below (Hid.out hq31) hb41)
            have lt41 := hx41.lt
            refine wpAnyH_ready (rs := [14]) (by kernel_rfl) (by simp) (AllReadyH.cons rfl (fun K hK => ?_) AllReadyH.nil)
            refine step_store_box0 (cs := hv (after h (xs ++ padL N))) rfl rfl _ _ _ rfl hx41 rfl rfl size8 rfl (hv_one _) ?_
            intro W52 hW52
            have hx_53 : Box W52 (w.heap.size) (hashV h (.slice a1 xs.length c1) (N : Int)) := hW52.past _ _ (by omega) hx_43
            have hr_54 : Box W52 (w.heap.size + 1) (zero32) := hW52.past _ _ (by omega) hr_44
            have B_57 : Below w.heap.size w W52 := hW52.below _ _ (by omega) B_47
            have sl_60 : Box W52 (W7.heap.size) ([.slice a1 xs.length c1, .slice pa7 (padL N).length pc7]) := hW52.past _ _ (by omega) sl_49
            have xw_65 := hW52.box
            have oo52 := Lib.hid (IsL.stored (Hid.out out_51) hW52 (fun g hg => by have r := (Hid.out rg22) g (by rw [← Hid.out HE31]; exact hg); omega))
            refine hK.out _ _ (hx_53) (fun _ => ?_); clear hK K
            refine takeH 15 5 (v := v31) rfl (by rfl) (by kernel_rfl) (by kernel_rfl) (by kernel_rfl) (fun _ _ _ h => h) (Or.inl ⟨by rfl, ?_⟩) (hx_53) ?_
            · intro wq hSq
              go_simp
            try simp only [Act.put, List.setIfInBounds_toArray, List.set_cons_zero, List.set_cons_succ]
            refine wpAnyH_done (by kernel_rfl) ?_ _
            go_wp2_with fail
            go_meet
            exact ⟨_, rfl, by omega, xw_65, hr_54, B_57⟩
          · skip
            go_simp
            refine hK.out _ _ (Box.alloc hx_24 _) (fun _ => ?_); clear hK K
            refine F_alloc (F := fun W => wpAnyH _ _ _ _ _ _ _ _ W) (zero8) rfl ?_
            intro W66 hx66 hb66
            have sz67 := Below.size hb66
            have hx_68 : Box W66 (w.heap.size) (hashV h (.slice a1 xs.length c1) (N : Int)) := Box.below hx_24 hb66
            have hr_69 : Box W66 (w.heap.size + 1) (zero32) := Box.below hr_25 hb66
            have i1_70 := Lib.hid (IsL.below (Hid.out i1_26) hb66)
            have laid_71 := Lib.hid (LaidS.below (Hid.out laid_27) hb66)
            have B_72 : Below w.heap.size w W66 := below_thru B_28 hb66
            have i2_73 := Lib.hid (IsL.below (Hid.out i2_29) hb66)
            have sl_74 : Box W66 (W7.heap.size) ([.slice a1 xs.length c1, .slice pa7 (padL N).length pc7]) := Box.below sl_30 hb66
            have cat_75 := Lib.hid (IsL.below (Hid.out hq22) hb66)
            have lt66 := hx66.lt
            refine wpAnyH_ready (rs := [9]) (by kernel_rfl) (by simp) (AllReadyH.cons rfl (fun K hK => ?_) AllReadyH.nil)
            go_simp
            refine (takeIn_any h _ (xs ++ padL N) _ (Hid.out cat_75) (Hid.out hbytes) (Hid.out laid_71)).mono ?_
            rintro e W76 ⟨v76, rfl, hl76, he76, hb76⟩
            have hq76 := Lib.hid hl76
            clear hl76
            have HE76 := Lib.hid he76
            clear he76
            have sz77 := Below.size hb76
            have hx_78 : Box W76 (w.heap.size) (hashV h (.slice a1 xs.length c1) (N : Int)) := Box.below hx_68 hb76
            have hr_79 : Box W76 (w.heap.size + 1) (zero32) := Box.below hr_69 hb76
            have i1_80 := Lib.hid (IsL.below (Hid.out i1_70) hb76)
            have laid_81 := Lib.hid (LaidS.below (Hid.out laid_71) hb76)
            have B_82 : Below w.heap.size w W76 := below_thru B_72 hb76
            have i2_83 := Lib.hid (IsL.below (Hid.out i2_73) hb76)
            have sl_84 : Box W76 (W7.heap.size) ([.slice a1 xs.length c1, .slice pa7 (padL N).length pc7]) := Box.below sl_74 hb76
            have cat_85 := Lib.hid (IsL.below (Hid.out cat_75) hb76)
            have xw_86 : Box W76 (W22.heap.size) (zero8) := Box.below hx66 hb76
            refine hK.out _ _ (hx_78) (fun _ => ?_); clear hK K
            refine takeH 10 10 (v := .tuple #[.agg (hv (after h (xs ++ padL N))).toArray, v76]) rfl (by rfl) (by kernel_rfl) (by kernel_rfl) (by kernel_rfl) (fun _ _ _ h => h) (Or.inl ⟨by rfl, ?_⟩) (hx_78) ?_
            · intro wq hSq
              go_simp
            try simp only [Act.put, List.setIfInBounds_toArray, List.set_cons_zero, List.set_cons_succ]
            refine takeH 11 21 (v := .agg (hv (after h (xs ++ padL N))).toArray) rfl (by rfl) (by kernel_rfl) (by kernel_rfl) (by kernel_rfl) (fun _ _ _ h => h) (Or.inl ⟨by rfl, ?_⟩) (hx_78) ?_
            · intro wq hSq
              go_simp
            try simp only [Act.put, List.setIfInBounds_toArray, List.set_cons_zero, List.set_cons_succ]
            refine takeH 12 22 (v := v76) rfl (by rfl) (by kernel_rfl) (by kernel_rfl) (by kernel_rfl) (fun _ _ _ h => h) (Or.inl ⟨by rfl, ?_⟩) (hx_78) ?_
            · intro wq hSq
              go_simp
            try simp only [Act.put, List.setIfInBounds_toArray, List.set_cons_zero, List.set_cons_succ]
            refine wpAnyH_ready (rs := [14]) (by kernel_rfl) (by simp) (AllReadyH.cons rfl (fun K hK => ?_) AllReadyH.nil)
            refine step_store_box0 (cs := hv (after h (xs ++ padL N))) rfl rfl _ _ _ rfl xw_86 rfl rfl size8 rfl (hv_one _) ?_
            intro W87 hW87
            have hx_88 : Box W87 (w.heap.size) (hashV h (.slice a1 xs.length c1) (N : Int)) := hW87.past _ _ (by omega) hx_78
            have hr_89 : Box W87 (w.heap.size + 1) (zero32) := hW87.past _ _ (by omega) hr_79
            have B_92 : Below w.heap.size w W87 := hW87.below _ _ (by omega) B_82
            have sl_95 : Box W87 (W7.heap.size) ([.slice a1 xs.length c1, .slice pa7 (padL N).length pc7]) := hW87.past _ _ (by omega) sl_84
            have xw_98 := hW87.box
            have oo87 := Lib.hid (IsL.stored (Hid.out hq76) hW87 (fun g hg => by have r := (Hid.out rg22) g (by rw [← Hid.out HE76]; exact hg); omega))
            refine hK.out _ _ (hx_88) (fun _ => ?_); clear hK K
            refine takeH 15 5 (v := v76) rfl (by rfl) (by kernel_rfl) (by kernel_rfl) (by kernel_rfl) (fun _ _ _ h => h) (Or.inl ⟨by rfl, ?_⟩) (hx_88) ?_
            · intro wq hSq
              go_simp
            try simp only [Act.put, List.setIfInBounds_toArray, List.set_cons_zero, List.set_cons_succ]
            refine wpAnyH_done (by kernel_rfl) ?_ _
            go_wp2_with fail
            go_meet
            exact ⟨_, rfl, by omega, xw_98, hr_89, B_92⟩
        · skip
          go_simp
          refine hK.out _ _ (Box.alloc hx_16 _) (fun _ => ?_); clear hK K
          refine F_alloc (F := fun W => wpAnyH _ _ _ _ _ _ _ _ W) (zero8) rfl ?_
          intro W101 hx101 hb101
          have sz102 := Below.size hb101
          have hx_103 : Box W101 (w.heap.size) (hashV h (.slice a1 xs.length c1) (N : Int)) := Box.below hx_16 hb101
          have hr_104 : Box W101 (w.heap.size + 1) (zero32) := Box.below hr_17 hb101
          have i1_105 := Lib.hid (IsL.below (Hid.out i1_18) hb101)
          have laid_106 := Lib.hid (LaidS.below (Hid.out laid_19) hb101)
          have B_107 : Below w.heap.size w W101 := below_thru B_20 hb101
          have i2_108 := Lib.hid (IsL.below (Hid.out i2_21) hb101)
          have sl_109 : Box W101 (W7.heap.size) ([.slice a1 xs.length c1, .slice pa7 (padL N).length pc7]) := Box.below hx14 hb101
          have lt101 := hx101.lt
          refine wpAnyH_ready (rs := [8]) (by kernel_rfl) (by simp) (AllReadyH.cons rfl (fun K hK => ?_) AllReadyH.nil)
          go_simp
          refine (concat_any _ _ _ xs (padL N) _ (sl_109.c 0 _ rfl) (sl_109.c 1 _ rfl) (Hid.out i1_105) (Hid.out i2_108) hsum).mono ?_
          rintro e W110 ⟨v110, rfl, ho110⟩
          have rg110 := Lib.hid (OwnL.range ho110)
          have hq110 := Lib.hid (OwnL.is ho110)
          have hb110 := ho110.2
          clear ho110
          have sz111 := Below.size hb110
          have hx_112 : Box W110 (w.heap.size) (hashV h (.slice a1 xs.length c1) (N : Int)) := Box.below hx_103 hb110
          have hr_113 : Box W110 (w.heap.size + 1) (zero32) := Box.below hr_104 hb110
          have i1_114 := Lib.hid (IsL.below (Hid.out i1_105) hb110)
          have laid_115 := Lib.hid (LaidS.below (Hid.out laid_106) hb110)
          have B_116 : Below w.heap.size w W110 := below_thru B_107 hb110
          have i2_117 := Lib.hid (IsL.below (Hid.out i2_108) hb110)
          have sl_118 : Box W110 (W7.heap.size) ([.slice a1 xs.length c1, .slice pa7 (padL N).length pc7]) := Box.below sl_109 hb110
          have xw_119 : Box W110 (W14.heap.size) (zero8) := Box.below hx101 hb110
          refine hK.out _ _ (hx_112) (fun _ => ?_); clear hK K
          refine wpAnyH_ready (rs := [9]) (by kernel_rfl) (by simp) (AllReadyH.cons rfl (fun K hK => ?_) AllReadyH.nil)
          go_simp
          refine (takeIn_any h _ (xs ++ padL N) _ (Hid.out hq110) (Hid.out hbytes) (Hid.out laid_115)).mono ?_
          rintro e W120 ⟨v120, rfl, hl120, he120, hb120⟩
          have hq120 := Lib.hid hl120
          clear hl120
          have HE120 := Lib.hid he120
          clear he120
          have sz121 := Below.size hb120
          have hx_122 : Box W120 (w.heap.size) (hashV h (.slice a1 xs.length c1) (N : Int)) := Box.below hx_112 hb120
          have hr_123 : Box W120 (w.heap.size + 1) (zero32) := Box.below hr_113 hb120
          have i1_124 := Lib.hid (IsL.below (Hid.out i1_114) hb120)
          have laid_125 := Lib.hid (LaidS.below (Hid.out laid_115) hb120)
          have B_126 : Below w.heap.size w W120 := below_thru B_116 hb120
          have i2_127 := Lib.hid (IsL.below (Hid.out i2_117) hb120)
          have sl_128 : Box W120 (W7.heap.size) ([.slice a1 xs.length c1, .slice pa7 (padL N).length pc7]) := Box.below sl_118 hb120
          have xw_129 : Box W120 (W14.heap.size) (zero8) := Box.below xw_119 hb120
          have cat_130 := Lib.hid (IsL.below (Hid.out hq110) hb120)
          refine hK.out _ _ (hx_122) (fun _ => ?_); clear hK K
          refine takeH 10 10 (v := .tuple #[.agg (hv (after h (xs ++ padL N))).toArray, v120]) rfl (by rfl) (by kernel_rfl) (by kernel_rfl) (by kernel_rfl) (fun _ _ _ h => h) (Or.inl ⟨by rfl, ?_⟩) (hx_122) ?_
          · intro wq hSq
            go_simp
          try simp only [Act.put, List.setIfInBounds_toArray, List.set_cons_zero, List.set_cons_succ]
          refine takeH 11 21 (v := .agg (hv (after h (xs ++ padL N))).toArray) rfl (by rfl) (by kernel_rfl) (by kernel_rfl) (by kernel_rfl) (fun _ _ _ h => h) (Or.inl ⟨by rfl, ?_⟩) (hx_122) ?_
          · intro wq hSq
            go_simp
          try simp only [Act.put, List.setIfInBounds_toArray, List.set_cons_zero, List.set_cons_succ]
          refine takeH 12 22 (v := v120) rfl (by rfl) (by kernel_rfl) (by kernel_rfl) (by kernel_rfl) (fun _ _ _ h => h) (Or.inl ⟨by rfl, ?_⟩) (hx_122) ?_
          · intro wq hSq
            go_simp
          try simp only [Act.put, List.setIfInBounds_toArray, List.set_cons_zero, List.set_cons_succ]
          refine wpAnyH_ready (rs := [14]) (by kernel_rfl) (by simp) (AllReadyH.cons rfl (fun K hK => ?_) AllReadyH.nil)
          refine step_store_box0 (cs := hv (after h (xs ++ padL N))) rfl rfl _ _ _ rfl xw_129 rfl rfl size8 rfl (hv_one _) ?_
          intro W131 hW131
          have hx_132 : Box W131 (w.heap.size) (hashV h (.slice a1 xs.length c1) (N : Int)) := hW131.past _ _ (by omega) hx_122
          have hr_133 : Box W131 (w.heap.size + 1) (zero32) := hW131.past _ _ (by omega) hr_123
          have B_136 : Below w.heap.size w W131 := hW131.below _ _ (by omega) B_126
          have sl_139 : Box W131 (W7.heap.size) ([.slice a1 xs.length c1, .slice pa7 (padL N).length pc7]) := hW131.past _ _ (by omega) sl_128
          have xw_140 := hW131.box
          have oo131 := Lib.hid (IsL.stored (Hid.out hq120) hW131 (fun g hg => by have r := (Hid.out rg110) g (by rw [← Hid.out HE120]; exact hg); omega))
          refine hK.out _ _ (hx_132) (fun _ => ?_); clear hK K
          refine takeH 15 5 (v := v120) rfl (by rfl) (by kernel_rfl) (by kernel_rfl) (by kernel_rfl) (fun _ _ _ h => h) (Or.inl ⟨by rfl, ?_⟩) (hx_132) ?_
          · intro wq hSq
            go_simp
          try simp only [Act.put, List.setIfInBounds_toArray, List.set_cons_zero, List.set_cons_succ]
          refine wpAnyH_done (by kernel_rfl) ?_ _
          go_wp2_with fail
          go_meet
          exact ⟨_, rfl, by omega, xw_140, hr_133, B_136⟩
      · skip
        go_simp
        refine hK.out _ _ (Box.alloc hx_9 _) (fun _ => ?_); clear hK K
        refine F_alloc (F := fun W => wpAnyH _ _ _ _ _ _ _ _ W) (zero8) rfl ?_
        intro W145 hx145 hb145
        have sz146 := Below.size hb145
        have hx_147 : Box W145 (w.heap.size) (hashV h (.slice a1 xs.length c1) (N : Int)) := Box.below hx_9 hb145
        have hr_148 : Box W145 (w.heap.size + 1) (zero32) := Box.below hr_10 hb145
        have i1_149 := Lib.hid (IsL.below (Hid.out i1_11) hb145)
        have laid_150 := Lib.hid (LaidS.below (Hid.out laid_12) hb145)
        have B_151 : Below w.heap.size w W145 := below_thru B_13 hb145
        have i2_152 := Lib.hid (IsL.below (Hid.out hi7) hb145)
        have lt145 := hx145.lt
        refine wpAnyH_ready (rs := [7]) (by kernel_rfl) (by simp) (AllReadyH.cons rfl (fun K hK => ?_) AllReadyH.nil)
        go_simp
        refine hK.out _ _ (Box.alloc hx_147 _) (fun _ => ?_); clear hK K
        refine F_alloc (F := fun W => wpAnyH _ _ _ _ _ _ _ _ W) ([.slice a1 xs.length c1, .slice pa7 (padL N).length pc7]) rfl ?_
        intro W153 hx153 hb153
        have sz154 := Below.size hb153
        have hx_155 : Box W153 (w.heap.size) (hashV h (.slice a1 xs.length c1) (N : Int)) := Box.below hx_147 hb153
        have hr_156 : Box W153 (w.heap.size + 1) (zero32) := Box.below hr_148 hb153
        have i1_157 := Lib.hid (IsL.below (Hid.out i1_149) hb153)
        have laid_158 := Lib.hid (LaidS.below (Hid.out laid_150) hb153)
        have B_159 : Below w.heap.size w W153 := below_thru B_151 hb153
        have i2_160 := Lib.hid (IsL.below (Hid.out i2_152) hb153)
        have xw_161 : Box W153 (W7.heap.size) (zero8) := Box.below hx145 hb153
        have lt153 := hx153.lt
        refine wpAnyH_ready (rs := [8]) (by kernel_rfl) (by simp) (AllReadyH.cons rfl (fun K hK => ?_) AllReadyH.nil)
        go_simp
        refine (concat_any _ _ _ xs (padL N) _ (hx153.c 0 _ rfl) (hx153.c 1 _ rfl) (Hid.out i1_157) (Hid.out i2_160) hsum).mono ?_
        rintro e W162 ⟨v162, rfl, ho162⟩
        have rg162 := Lib.hid (OwnL.range ho162)
        have hq162 := Lib.hid (OwnL.is ho162)
        have hb162 := ho162.2
        clear ho162
        have sz163 := Below.size hb162
        have hx_164 : Box W162 (w.heap.size) (hashV h (.slice a1 xs.length c1) (N : Int)) := Box.below hx_155 hb162
        have hr_165 : Box W162 (w.heap.size + 1) (zero32) := Box.below hr_156 hb162
        have i1_166 := Lib.hid (IsL.below (Hid.out i1_157) hb162)
        have laid_167 := Lib.hid (LaidS.below (Hid.out laid_158) hb162)
        have B_168 : Below w.heap.size w W162 := below_thru B_159 hb162
        have i2_169 := Lib.hid (IsL.below (Hid.out i2_160) hb162)
        have xw_170 : Box W162 (W7.heap.size) (zero8) := Box.below xw_161 hb162
        have sl_171 : Box W162 (W145.heap.size) ([.slice a1 xs.length c1, .slice pa7 (padL N).length pc7]) := Box.below hx153 hb162
        refine hK.out _ _ (hx_164) (fun _ => ?_); clear hK K
        refine wpAnyH_ready (rs := [9]) (by kernel_rfl) (by simp) (AllReadyH.cons rfl (fun K hK => ?_) AllReadyH.nil)
        go_simp
        refine (takeIn_any h _ (xs ++ padL N) _ (Hid.out hq162) (Hid.out hbytes) (Hid.out laid_167)).mono ?_
        rintro e W172 ⟨v172, rfl, hl172, he172, hb172⟩
        have hq172 := Lib.hid hl172
        clear hl172
        have HE172 := Lib.hid he172
        clear he172
        have sz173 := Below.size hb172
        have hx_174 : Box W172 (w.heap.size) (hashV h (.slice a1 xs.length c1) (N : Int)) := Box.below hx_164 hb172
        have hr_175 : Box W172 (w.heap.size + 1) (zero32) := Box.below hr_165 hb172
        have i1_176 := Lib.hid (IsL.below (Hid.out i1_166) hb172)
        have laid_177 := Lib.hid (LaidS.below (Hid.out laid_167) hb172)
        have B_178 : Below w.heap.size w W172 := below_thru B_168 hb172
        have i2_179 := Lib.hid (IsL.below (Hid.out i2_169) hb172)
        have xw_180 : Box W172 (W7.heap.size) (zero8) := Box.below xw_170 hb172
        have sl_181 : Box W172 (W145.heap.size) ([.slice a1 xs.length c1, .slice pa7 (padL N).length pc7]) := Box.below sl_171 hb172
        have cat_182 := Lib.hid (IsL.below (Hid.out hq162) hb172)
        refine hK.out _ _ (hx_174) (fun _ => ?_); clear hK K
        refine takeH 10 10 (v := .tuple #[.agg (hv (after h (xs ++ padL N))).toArray, v172]) rfl (by rfl) (by kernel_rfl) (by kernel_rfl) (by kernel_rfl) (fun _ _ _ h => h) (Or.inl ⟨by rfl, ?_⟩) (hx_174) ?_
        · intro wq hSq
          go_simp
        try simp only [Act.put, List.setIfInBounds_toArray, List.set_cons_zero, List.set_cons_succ]
        refine takeH 11 21 (v := .agg (hv (after h (xs ++ padL N))).toArray) rfl (by rfl) (by kernel_rfl) (by kernel_rfl) (by kernel_rfl) (fun _ _ _ h => h) (Or.inl ⟨by rfl, ?_⟩) (hx_174) ?_
        · intro wq hSq
          go_simp
        try simp only [Act.put, List.setIfInBounds_toArray, List.set_cons_zero, List.set_cons_succ]
        refine takeH 12 22 (v := v172) rfl (by rfl) (by kernel_rfl) (by kernel_rfl) (by kernel_rfl) (fun _ _ _ h => h) (Or.inl ⟨by rfl, ?_⟩) (hx_174) ?_
        · intro wq hSq
          go_simp
        try simp only [Act.put, List.setIfInBounds_toArray, List.set_cons_zero, List.set_cons_succ]
        refine wpAnyH_ready (rs := [14]) (by kernel_rfl) (by simp) (AllReadyH.cons rfl (fun K hK => ?_) AllReadyH.nil)
        refine step_store_box0 (cs := hv (after h (xs ++ padL N))) rfl rfl _ _ _ rfl xw_180 rfl rfl size8 rfl (hv_one _) ?_
        intro W183 hW183
        have hx_184 : Box W183 (w.heap.size) (hashV h (.slice a1 xs.length c1) (N : Int)) := hW183.past _ _ (by omega) hx_174
        have hr_185 : Box W183 (w.heap.size + 1) (zero32) := hW183.past _ _ (by omega) hr_175
        have B_188 : Below w.heap.size w W183 := hW183.below _ _ (by omega) B_178
        have xw_191 := hW183.box
        have sl_192 : Box W183 (W145.heap.size) ([.slice a1 xs.length c1, .slice pa7 (padL N).length pc7]) := hW183.past _ _ (by omega) sl_181
        have oo183 := Lib.hid (IsL.stored (Hid.out hq172) hW183 (fun g hg => by have r := (Hid.out rg162) g (by rw [← Hid.out HE172]; exact hg); omega))
        refine hK.out _ _ (hx_184) (fun _ => ?_); clear hK K
        refine takeH 15 5 (v := v172) rfl (by rfl) (by kernel_rfl) (by kernel_rfl) (by kernel_rfl) (fun _ _ _ h => h) (Or.inl ⟨by rfl, ?_⟩) (hx_184) ?_
        · intro wq hSq
          go_simp
        try simp only [Act.put, List.setIfInBounds_toArray, List.set_cons_zero, List.set_cons_succ]
        refine wpAnyH_done (by kernel_rfl) ?_ _
        go_wp2_with fail
        go_meet
        exact ⟨_, rfl, by omega, xw_191, hr_185, B_188⟩
    · skip
      go_simp
      refine hK.out _ _ (Box.alloc hx_2 _) (fun _ => ?_); clear hK K
      refine F_alloc (F := fun W => wpAnyH _ _ _ _ _ _ _ _ W) (zero8) rfl ?_
      intro W197 hx197 hb197
      have sz198 := Below.size hb197
      have hx_199 : Box W197 (w.heap.size) (hashV h (.slice a1 xs.length c1) (N : Int)) := Box.below hx_2 hb197
      have hr_200 : Box W197 (w.heap.size + 1) (zero32) := Box.below hr_3 hb197
      have i1_201 := Lib.hid (IsL.below (Hid.out i1_4) hb197)
      have laid_202 := Lib.hid (LaidS.below (Hid.out laid_5) hb197)
      have B_203 : Below w.heap.size w W197 := below_thru B_6 hb197
      have lt197 := hx197.lt
      refine wpAnyH_ready (rs := [6]) (by kernel_rfl) (by simp) (AllReadyH.cons rfl (fun K hK => ?_) AllReadyH.nil)
      go_simp
      refine (padding_any N _ hN).mono ?_
      rintro e W204 ⟨vp204, rfl, hp204, hb204⟩
      obtain ⟨pa204, pc204, ep204, _⟩ := id hp204
      subst ep204
      have hi204 := Lib.hid hp204
      clear hp204
      have sz205 := Below.size hb204
      have hx_206 : Box W204 (w.heap.size) (hashV h (.slice a1 xs.length c1) (N : Int)) := Box.below hx_199 hb204
      have hr_207 : Box W204 (w.heap.size + 1) (zero32) := Box.below hr_200 hb204
      have i1_208 := Lib.hid (IsL.below (Hid.out i1_201) hb204)
      have laid_209 := Lib.hid (LaidS.below (Hid.out laid_202) hb204)
      have B_210 : Below w.heap.size w W204 := below_thru B_203 hb204
      have xw_211 : Box W204 (W0.heap.size) (zero8) := Box.below hx197 hb204
      refine hK.out _ _ (hx_206) (fun _ => ?_); clear hK K
      refine wpAnyH_ready (rs := [7]) (by kernel_rfl) (by simp) (AllReadyH.cons rfl (fun K hK => ?_) AllReadyH.nil)
      go_simp
      refine hK.out _ _ (Box.alloc hx_206 _) (fun _ => ?_); clear hK K
      refine F_alloc (F := fun W => wpAnyH _ _ _ _ _ _ _ _ W) ([.slice a1 xs.length c1, .slice pa204 (padL N).length pc204]) rfl ?_
      intro W212 hx212 hb212
      have sz213 := Below.size hb212
      have hx_214 : Box W212 (w.heap.size) (hashV h (.slice a1 xs.length c1) (N : Int)) := Box.below hx_206 hb212
      have hr_215 : Box W212 (w.heap.size + 1) (zero32) := Box.below hr_207 hb212
      have i1_216 := Lib.hid (IsL.below (Hid.out i1_208) hb212)
      have laid_217 := Lib.hid (LaidS.below (Hid.out laid_209) hb212)
      have B_218 : Below w.heap.size w W212 := below_thru B_210 hb212
      have xw_219 : Box W212 (W0.heap.size) (zero8) := Box.below xw_211 hb212
      have i2_220 := Lib.hid (IsL.below (Hid.out hi204) hb212)
      have lt212 := hx212.lt
      refine wpAnyH_ready (rs := [8]) (by kernel_rfl) (by simp) (AllReadyH.cons rfl (fun K hK => ?_) AllReadyH.nil)
      go_simp
      refine (concat_any _ _ _ xs (padL N) _ (hx212.c 0 _ rfl) (hx212.c 1 _ rfl) (Hid.out i1_216) (Hid.out i2_220) hsum).mono ?_
      rintro e W221 ⟨v221, rfl, ho221⟩
      have rg221 := Lib.hid (OwnL.range ho221)
      have hq221 := Lib.hid (OwnL.is ho221)
      have hb221 := ho221.2
      clear ho221
      have sz222 := Below.size hb221
      have hx_223 : Box W221 (w.heap.size) (hashV h (.slice a1 xs.length c1) (N : Int)) := Box.below hx_214 hb221
      have hr_224 : Box W221 (w.heap.size + 1) (zero32) := Box.below hr_215 hb221
      have i1_225 := Lib.hid (IsL.below (Hid.out i1_216) hb221)
      have laid_226 := Lib.hid (LaidS.below (Hid.out laid_217) hb221)
      have B_227 : Below w.heap.size w W221 := below_thru B_218 hb221
      have xw_228 : Box W221 (W0.heap.size) (zero8) := Box.below xw_219 hb221
      have i2_229 := Lib.hid (IsL.below (Hid.out i2_220) hb221)
      have sl_230 : Box W221 (W204.heap.size) ([.slice a1 xs.length c1, .slice pa204 (padL N).length pc204]) := Box.below hx212 hb221
      refine hK.out _ _ (hx_223) (fun _ => ?_); clear hK K
      refine wpAnyH_ready (rs := [9]) (by kernel_rfl) (by simp) (AllReadyH.cons rfl (fun K hK => ?_) AllReadyH.nil)
      go_simp
      refine (takeIn_any h _ (xs ++ padL N) _ (Hid.out hq221) (Hid.out hbytes) (Hid.out laid_226)).mono ?_
      rintro e W231 ⟨v231, rfl, hl231, he231, hb231⟩
      have hq231 := Lib.hid hl231
      clear hl231
      have HE231 := Lib.hid he231
      clear he231
      have sz232 := Below.size hb231
      have hx_233 : Box W231 (w.heap.size) (hashV h (.slice a1 xs.length c1) (N : Int)) := Box.below hx_223 hb231
      have hr_234 : Box W231 (w.heap.size + 1) (zero32) := Box.below hr_224 hb231
      have i1_235 := Lib.hid (IsL.below (Hid.out i1_225) hb231)
      have laid_236 := Lib.hid (LaidS.below (Hid.out laid_226) hb231)
      have B_237 : Below w.heap.size w W231 := below_thru B_227 hb231
      have xw_238 : Box W231 (W0.heap.size) (zero8) := Box.below xw_228 hb231
      have i2_239 := Lib.hid (IsL.below (Hid.out i2_229) hb231)
      have sl_240 : Box W231 (W204.heap.size) ([.slice a1 xs.length c1, .slice pa204 (padL N).length pc204]) := Box.below sl_230 hb231
      have cat_241 := Lib.hid (IsL.below (Hid.out hq221) hb231)
      refine hK.out _ _ (hx_233) (fun _ => ?_); clear hK K
      refine takeH 10 10 (v := .tuple #[.agg (hv (after h (xs ++ padL N))).toArray, v231]) rfl (by rfl) (by kernel_rfl) (by kernel_rfl) (by kernel_rfl) (fun _ _ _ h => h) (Or.inl ⟨by rfl, ?_⟩) (hx_233) ?_
      · intro wq hSq
        go_simp
      try simp only [Act.put, List.setIfInBounds_toArray, List.set_cons_zero, List.set_cons_succ]
      refine takeH 11 21 (v := .agg (hv (after h (xs ++ padL N))).toArray) rfl (by rfl) (by kernel_rfl) (by kernel_rfl) (by kernel_rfl) (fun _ _ _ h => h) (Or.inl ⟨by rfl, ?_⟩) (hx_233) ?_
      · intro wq hSq
        go_simp
      try simp only [Act.put, List.setIfInBounds_toArray, List.set_cons_zero, List.set_cons_succ]
      refine takeH 12 22 (v := v231) rfl (by rfl) (by kernel_rfl) (by kernel_rfl) (by kernel_rfl) (fun _ _ _ h => h) (Or.inl ⟨by rfl, ?_⟩) (hx_233) ?_
      · intro wq hSq
        go_simp
      try simp only [Act.put, List.setIfInBounds_toArray, List.set_cons_zero, List.set_cons_succ]
      refine wpAnyH_ready (rs := [14]) (by kernel_rfl) (by simp) (AllReadyH.cons rfl (fun K hK => ?_) AllReadyH.nil)
      refine step_store_box0 (cs := hv (after h (xs ++ padL N))) rfl rfl _ _ _ rfl xw_238 rfl rfl size8 rfl (hv_one _) ?_
      intro W242 hW242
      have hx_243 : Box W242 (w.heap.size) (hashV h (.slice a1 xs.length c1) (N : Int)) := hW242.past _ _ (by omega) hx_233
      have hr_244 : Box W242 (w.heap.size + 1) (zero32) := hW242.past _ _ (by omega) hr_234
      have B_247 : Below w.heap.size w W242 := hW242.below _ _ (by omega) B_237
      have xw_248 := hW242.box
      have sl_251 : Box W242 (W204.heap.size) ([.slice a1 xs.length c1, .slice pa204 (padL N).length pc204]) := hW242.past _ _ (by omega) sl_240
      have oo242 := Lib.hid (IsL.stored (Hid.out hq231) hW242 (fun g hg => by have r := (Hid.out rg221) g (by rw [← Hid.out HE231]; exact hg); omega))
      refine hK.out _ _ (hx_243) (fun _ => ?_); clear hK K
      refine takeH 15 5 (v := v231) rfl (by rfl) (by kernel_rfl) (by kernel_rfl) (by kernel_rfl) (fun _ _ _ h => h) (Or.inl ⟨by rfl, ?_⟩) (hx_243) ?_
      · intro wq hSq
        go_simp
      try simp only [Act.put, List.setIfInBounds_toArray, List.set_cons_zero, List.set_cons_succ]
      refine wpAnyH_done (by kernel_rfl) ?_ _
      go_wp2_with fail
      go_meet
      exact ⟨_, rfl, by omega, xw_248, hr_244, B_247⟩
  case rest =>
    clear hxh hxr HI1 HL1 hB1
    obtain ⟨bw, rfl, hbw, hxw, hxr, hB⟩ := hcut
    obtain ⟨w2, rfl⟩ : ∃ u : World, u = wc := ⟨_, rfl⟩
    have hsz := hB.size
    have hz2 := hxr.lt
    obtain ⟨T, hTe⟩ : ∃ T, T = after h (xs ++ padL N) := ⟨_, rfl⟩
    rw [← hTe] at hxw
    obtain ⟨D, hD⟩ : ∃ D, dig T = D := ⟨_, rfl⟩
    have HDE := Lib.hid (show dig (after h (xs ++ padL N)) = D by rw [← hTe]; exact hD)
    have HD := Lib.hid hD
    have hDl := Lib.hid (show (D.map (Value.int .u8)).length = 32 by rw [← hD, List.length_map, dig_len])
    have I32 := Lib.hid (show (Tryd.prog.info? 31).map (·.size) = some (D.map (Value.int .u8)).length by rw [hDl.out]; exact size32)
    have HLL := Lib.hid (show zero32.length = (D.map (Value.int .u8)).length by rw [hDl.out]; rfl)
    clear hTe hD
    go_wp2_with (refine wpList_load_box rfl _ _ rfl hxw rfl Tryd.underlying59 rfl size8 ?_)
    refine (digest_is _ HD).mono ?_
    rintro e w3 ⟨rfl, hb⟩
    have hB3 := below_thru hB hb
    have hxr3 := hxr.below hb
    clear hb hxr hxw hB
    go_wp2_with (refine wpList_store_box (cs := D.map (Value.int .u8)) rfl _ _ _ rfl hxr3 rfl rfl I32.out HLL.out (oneCell_ints _) ?_; intro W3 hW3)
    rw [HDE.out]
    exact bodyPost_ret (v := .tuple #[.agg (D.map (Value.int .u8)).toArray, .int .i64 0]) (results_box2 Tryd.results32 hW3.box rfl rfl Tryd.underlying31 rfl I32.out) rfl ⟨rfl, hW3.below _ _ (Nat.le_succ _) hB3⟩

end Go.Proofs.YtfobjdkpdeiidaaDoor
