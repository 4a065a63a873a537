/-
  Package sha: Write and Finish.
-/
import Derived.Test.YtfobjdkpdeiidaaDoorShaG
namespace Go.Proofs.YtfobjdkpdeiidaaDoor
open Go.RowKit

def zeroW : W8 := ⟨0, 0, 0, 0, 0, 0, 0, 0⟩
def zeroH : Value := .agg (hashV zeroW (.slice none 0 0) 0).toArray
def zero10 : List Value := [.int .u32 0, .int .u32 0, .int .u32 0, .int .u32 0, .int .u32 0, .int .u32 0, .int .u32 0, .int .u32 0, .slice none 0 0, .int .i64 0]
def zero8 : List Value := [.int .u32 0, .int .u32 0, .int .u32 0, .int .u32 0, .int .u32 0, .int .u32 0, .int .u32 0, .int .u32 0]
theorem hash_one (h : W8) (at0 : Option Addr) (len cap : Nat) (n : Int) : (hashV h (.slice at0 len cap) n).toArray.all (·.oneCell') = true := all_oneCell_toArray fun v hm => by
  simp only [hashV, List.mem_cons, List.not_mem_nil, or_false] at hm
  rcases hm with rfl | rfl | rfl | rfl | rfl | rfl | rfl | rfl | rfl | rfl <;> rfl
theorem zero10_one : zero10.toArray.all (·.oneCell') = true := all_oneCell_toArray fun v hm => by
  simp only [zero10, List.mem_cons, List.not_mem_nil, or_false] at hm
  rcases hm with rfl | rfl | rfl | rfl | rfl | rfl | rfl | rfl | rfl | rfl <;> rfl
def i64n (n : Int) : Prop := -9223372036854775808 ≤ n ∧ n ≤ 9223372036854775807

set_option maxRecDepth 100000 in
theorem write_bad (h : W8) (at0 : Option Addr) (len cap : Nat) (n : Int) (v2 : Value) (w : World) (hn : i64n n) (hl : len ≤ 9223372036854775807) (hv : Hid (vldH n len = false)) :
    Calls Tryd.prog 30 #[.agg #[.int .u32 (un h.a), .int .u32 (un h.b), .int .u32 (un h.c), .int .u32 (un h.d), .int .u32 (un h.e), .int .u32 (un h.f), .int .u32 (un h.g), .int .u32 (un h.z), .slice at0 len cap, .int .i64 n], v2] w fun e w' => e = .returned (.tuple #[zeroH, .int .i64 8]) ∧ Below w.heap.size w w' := by
  obtain ⟨v1, hv1⟩ : ∃ v1, v1 = Value.slice at0 len cap := ⟨_, rfl⟩
  rw [← hv1]
  have hc := fun W => valid_any h at0 len cap n false hv W hn.1 hn.2 hl
  rw [← hv1] at hc
  clear hv1
  go_enter Tryd.func30, Tryd.ntmps30
  go_wp2_with fail
  refine (hc _).mono ?_
  rintro e w1 ⟨rfl, hb⟩
  have hB1 : Below w.heap.size w w1 := below_thru (by go_grown) hb
  have hxr : Box w1 (w.heap.size + 1) zero10 := Box.below (Box.newc rfl (by simp)) hb
  clear hb hc
  go_wp2_with (refine wpList_store_box (cs := zero10) rfl _ _ _ rfl hxr rfl rfl size10 rfl zero10_one ?_; intro W3 hW3)
  exact bodyPost_ret (v := .tuple #[.agg zero10.toArray, .int .i64 8]) (results_box2 Tryd.results30 hW3.box rfl rfl Tryd.underlying61 rfl size10) rfl ⟨rfl, hW3.below _ _ (Nat.le_succ _) hB1⟩
set_option maxRecDepth 100000 in
theorem write_many (h : W8) (at0 : Option Addr) (len cap : Nat) (n : Int) (a2 : Option Addr) (l2 c2 : Nat) (w : World) (hn : 0 ≤ n) (hn2 : n ≤ 128000) (hl : len ≤ 9223372036854775807) (hl2 : l2 ≤ 9223372036854775807) (hv : Hid (vldH n len = true)) (hm : 128000 - n < (l2 : Int)) :
    Calls Tryd.prog 30 #[.agg #[.int .u32 (un h.a), .int .u32 (un h.b), .int .u32 (un h.c), .int .u32 (un h.d), .int .u32 (un h.e), .int .u32 (un h.f), .int .u32 (un h.g), .int .u32 (un h.z), .slice at0 len cap, .int .i64 n], .slice a2 l2 c2] w fun e w' => e = .returned (.tuple #[zeroH, .int .i64 4]) ∧ Below w.heap.size w w' := by
  have _ := hl2
  obtain ⟨v1, hv1⟩ : ∃ v1, v1 = Value.slice at0 len cap := ⟨_, rfl⟩
  rw [← hv1]
  have hc := fun W => valid_any h at0 len cap n true hv W (by omega) (by omega) hl
  rw [← hv1] at hc
  clear hv1
  go_enter Tryd.func30, Tryd.ntmps30
  go_wp2_with fail
  refine (hc _).mono ?_
  rintro e w1 ⟨rfl, hb⟩
  have hB1 : Below w.heap.size w w1 := below_thru (by go_grown) hb
  have hxr : Box w1 (w.heap.size + 1) zero10 := Box.below (Box.newc rfl (by simp)) hb
  have hxh : Box w1 w.heap.size (hashV h v1 n) := Box.below (Box.alloc (Box.newc rfl rfl) _) hb
  have c9 : w1.cell? ⟨w.heap.size, 9, none⟩ = some (.int .i64 n) := hxh.c 9 _ rfl
  clear hb hc hxh
  go_wp2_with (refine wpList_store_box (cs := zero10) rfl _ _ _ rfl hxr rfl rfl size10 rfl zero10_one ?_; intro W3 hW3)
  exact bodyPost_ret (v := .tuple #[.agg zero10.toArray, .int .i64 4]) (results_box2 Tryd.results30 hW3.box rfl rfl Tryd.underlying61 rfl size10) rfl ⟨rfl, hW3.below _ _ (Nat.le_succ _) hB1⟩

theorem OwnL.range {w w1 : World} {v : Value} {xs : List Int} (h : OwnL w w1 v xs) : ∀ g, v.ownBlock = some g → w.heap.size ≤ g ∧ g < w1.heap.size := by
  intro g hg
  refine ⟨own_block h.1 g hg, ?_⟩
  obtain ⟨_, ⟨rfl, _⟩ | ⟨g', cap, cur, rfl, hg', hh, _⟩⟩ := h.1
  · cases hg
  · cases hg
    exact (Array.getElem?_eq_some_iff.1 hh).1
set_option maxRecDepth 100000 in
set_option maxHeartbeats 3200000 in
theorem write_ok (h : W8) (a1 a2 : Option Addr) (c1 c2 : Nat) (xs ys : List Int) (n : Int) (w : World) (h1 : IsL w .u8 (.slice a1 xs.length c1) xs) (h2 : IsL w .u8 (.slice a2 ys.length c2) ys) (hn : 0 ≤ n) (hn2 : n ≤ 128000) (hvd : Hid (vldH n xs.length = true)) (hm : ¬ 128000 - n < (ys.length : Int))
    (hx : bytesL xs) (hy : bytesL ys) (hL : LaidS w) :
    Calls Tryd.prog 30 #[.agg #[.int .u32 (un h.a), .int .u32 (un h.b), .int .u32 (un h.c), .int .u32 (un h.d), .int .u32 (un h.e), .int .u32 (un h.f), .int .u32 (un h.g), .int .u32 (un h.z), .slice a1 xs.length c1, .int .i64 n], .slice a2 ys.length c2] w fun e w' => ∃ v, e = .returned (.tuple #[.agg (hashV (after h (xs ++ ys)) v (n + ys.length)).toArray, .int .i64 0]) ∧ OwnL w w' v (restOf (xs ++ ys)) := by
  have hlen : (xs.length : Int) = n % 64 := by
    have := hvd.out
    simp only [vldH, Bool.and_eq_true, decide_eq_true_eq] at this
    exact this.2
  have hsum : xs.length + ys.length ≤ 1000000000 := by omega
  have hlx : xs.length ≤ 9223372036854775807 := by omega
  have hbytes := Lib.hid (hx.append hy)
  have HI1 := Lib.hid h1
  have HI2 := Lib.hid h2
  have HL1 := Lib.hid hL
  clear hx hy h1 h2 hL hlen
  go_enter Tryd.func30, Tryd.ntmps30
  go_wp2_with fail
  refine (valid_any h a1 xs.length c1 n true hvd _ (by omega) (by omega) hlx).mono ?_
  rintro e w1 ⟨rfl, hb⟩
  have hB1 : Below w.heap.size w w1 := below_thru (by go_grown) hb
  have hxr : Box w1 (w.heap.size + 1) zero10 := Box.below (Box.newc rfl (by simp)) hb
  have hxh : Box w1 w.heap.size (hashV h (.slice a1 xs.length c1) n) := Box.below (Box.alloc (Box.newc rfl rfl) _) hb
  have HI1 := Lib.hid (IsL.below HI1.out hB1)
  have HI2 := Lib.hid (IsL.below HI2.out hB1)
  have HL1 := Lib.hid (LaidS.below HL1.out hB1)
  have hz1 := hxr.lt
  have c9 : w1.cell? ⟨w.heap.size, 9, none⟩ = some (.int .i64 n) := hxh.c 9 _ rfl
  clear hb
  go_upto_region 5 with fail
  clear c9
  go_cut [6, 7] (fun p q wx => ∃ (b : Nat), p = .pointer (some ⟨b, 0, none⟩) ∧ w.heap.size + 1 < b ∧ Box wx b (hv (after h (xs ++ ys))) ∧ IsL wx .u8 q (restOf (xs ++ ys)) ∧ Box wx w.heap.size (hashV h (.slice a1 xs.length c1) n) ∧ Box wx (w.heap.size + 1) zero10 ∧ Below w.heap.size w wx)
  case first =>
    refine wp_region_held_drew (S := fun w' => Box w' w.heap.size (hashV h (.slice a1 xs.length c1) n)) (by kernel_rfl) (Box.drew hxh) (fun _ => ?_)
    refine F_drew (F := fun W => wpAnyH _ _ _ _ _ _ _ _ W) ?_
    intro W0 hb0
    have sz1 := Below.size hb0
    have hx_2 : Box W0 (w.heap.size) (hashV h (.slice a1 xs.length c1) n) := Box.below hxh hb0
    have hr_3 : Box W0 (w.heap.size + 1) (zero10) := Box.below hxr hb0
    have i1_4 := Lib.hid (IsL.below (Hid.out HI1) hb0)
    have i2_5 := Lib.hid (IsL.below (Hid.out HI2) hb0)
    have laid_6 := Lib.hid (LaidS.below (Hid.out HL1) hb0)
    have B_7 : Below w.heap.size w W0 := below_thru hB1 hb0
    clear hxh hxr HI1 HL1 hB1 hb0
    refine takeH 0 20 (v := .pointer (some ⟨w.heap.size, 0, none⟩)) rfl (by rfl) (by kernel_rfl) (by kernel_rfl) (by kernel_rfl) (fun _ _ _ h => h) (Or.inl ⟨by rfl, ?_⟩) (hx_2) ?_
    · intro wq hSq
      go_simp
    try simp only [Act.put, List.setIfInBounds_toArray, List.set_cons_zero, List.set_cons_succ]
    refine takeH 1 21 (v := .agg (hv h).toArray) rfl (by rfl) (by kernel_rfl) (by kernel_rfl) (by kernel_rfl) (fun _ _ _ h => h) (yieldsIf_load_mid (by rfl) _ _ rfl _ 0 rfl (hv h) _ (fun wq hq => Box.left (l := hv h) (r := [.slice a1 xs.length c1, .int .i64 n]) hq) Tryd.underlying59 rfl size8) (hx_2) ?_
    try simp only [Act.put, List.setIfInBounds_toArray, List.set_cons_zero, List.set_cons_succ]
    refine takeH 2 22 (v := .pointer (some ⟨w.heap.size, 8, none⟩)) rfl (by rfl) (by kernel_rfl) (by kernel_rfl) (by kernel_rfl) (fun _ _ _ h => h) (Or.inl ⟨by rfl, ?_⟩) (hx_2) ?_
    · intro wq hSq
      go_simp
    try simp only [Act.put, List.setIfInBounds_toArray, List.set_cons_zero, List.set_cons_succ]
    refine takeH 3 23 (v := .slice a1 xs.length c1) rfl (by rfl) (by kernel_rfl) (by kernel_rfl) (by kernel_rfl) (fun _ _ _ h => h) (Or.inl ⟨by rfl, ?_⟩) (hx_2) ?_
    · intro wq hSq
      have cq := hSq.c 8 _ rfl
      go_simp
    try simp only [Act.put, List.setIfInBounds_toArray, List.set_cons_zero, List.set_cons_succ]
    refine takeH 4 24 (v := .slice a2 ys.length c2) rfl (by rfl) (by kernel_rfl) (by kernel_rfl) (by kernel_rfl) (fun _ _ _ h => h) (Or.inl ⟨by rfl, ?_⟩) (hx_2) ?_
    · intro wq hSq
      go_simp
    try simp only [Act.put, List.setIfInBounds_toArray, List.set_cons_zero, List.set_cons_succ]
    refine wpAnyH_ready (rs := [5, 11]) (by kernel_rfl) (by simp) (AllReadyH.cons rfl (fun K hK => ?_) (AllReadyH.cons rfl (fun K hK => ?_) AllReadyH.nil))
    · skip
      go_simp
      refine hK.out _ _ (Box.alloc hx_2 _) (fun _ => ?_); clear hK K
      refine F_alloc (F := fun W => wpAnyH _ _ _ _ _ _ _ _ W) ([.slice a1 xs.length c1, .slice a2 ys.length c2]) rfl ?_
      intro W8 hx8 hb8
      have sz9 := Below.size hb8
      have hx_10 : Box W8 (w.heap.size) (hashV h (.slice a1 xs.length c1) n) := Box.below hx_2 hb8
      have hr_11 : Box W8 (w.heap.size + 1) (zero10) := Box.below hr_3 hb8
      have i1_12 := Lib.hid (IsL.below (Hid.out i1_4) hb8)
      have i2_13 := Lib.hid (IsL.below (Hid.out i2_5) hb8)
      have laid_14 := Lib.hid (LaidS.below (Hid.out laid_6) hb8)
      have B_15 : Below w.heap.size w W8 := below_thru B_7 hb8
      have lt8 := hx8.lt
      refine wpAnyH_ready (rs := [6, 11]) (by kernel_rfl) (by simp) (AllReadyH.cons rfl (fun K hK => ?_) (AllReadyH.cons rfl (fun K hK => ?_) AllReadyH.nil))
      · skip
        go_simp
        refine (concat_any _ _ _ xs ys _ (hx8.c 0 _ rfl) (hx8.c 1 _ rfl) (Hid.out i1_12) (Hid.out i2_13) hsum).mono ?_
        rintro e W16 ⟨v16, rfl, ho16⟩
        have rg16 := Lib.hid (OwnL.range ho16)
        have hq16 := Lib.hid (OwnL.is ho16)
        have hb16 := ho16.2
        clear ho16
        have sz17 := Below.size hb16
        have hx_18 : Box W16 (w.heap.size) (hashV h (.slice a1 xs.length c1) n) := Box.below hx_10 hb16
        have hr_19 : Box W16 (w.heap.size + 1) (zero10) := Box.below hr_11 hb16
        have i1_20 := Lib.hid (IsL.below (Hid.out i1_12) hb16)
        have i2_21 := Lib.hid (IsL.below (Hid.out i2_13) hb16)
        have laid_22 := Lib.hid (LaidS.below (Hid.out laid_14) hb16)
        have B_23 : Below w.heap.size w W16 := below_thru B_15 hb16
        have sl_24 : Box W16 (W0.heap.size) ([.slice a1 xs.length c1, .slice a2 ys.length c2]) := Box.below hx8 hb16
        refine hK.out _ _ (hx_18) (fun _ => ?_); clear hK K
        refine wpAnyH_ready (rs := [7, 11]) (by kernel_rfl) (by simp) (AllReadyH.cons rfl (fun K hK => ?_) (AllReadyH.cons rfl (fun K hK => ?_) AllReadyH.nil))
        · skip
          go_simp
          refine (takeIn_any h _ (xs ++ ys) _ (Hid.out hq16) (Hid.out hbytes) (Hid.out laid_22)).mono ?_
          rintro e W25 ⟨v25, rfl, hl25, he25, hb25⟩
          have hq25 := Lib.hid hl25
          clear hl25
          have HE25 := Lib.hid he25
          clear he25
          have sz26 := Below.size hb25
          have hx_27 : Box W25 (w.heap.size) (hashV h (.slice a1 xs.length c1) n) := Box.below hx_18 hb25
          have hr_28 : Box W25 (w.heap.size + 1) (zero10) := Box.below hr_19 hb25
          have i1_29 := Lib.hid (IsL.below (Hid.out i1_20) hb25)
          have i2_30 := Lib.hid (IsL.below (Hid.out i2_21) hb25)
          have laid_31 := Lib.hid (LaidS.below (Hid.out laid_22) hb25)
          have B_32 : Below w.heap.size w W25 := below_thru B_23 hb25
          have sl_33 : Box W25 (W0.heap.size) ([.slice a1 xs.length c1, .slice a2 ys.length c2]) := Box.below sl_24 hb25
          have cat_34 := Lib.hid (IsL.below (Hid.out hq16) hb25)
          refine hK.out _ _ (hx_27) (fun _ => ?_); clear hK K
          refine takeH 8 19 (v := .tuple #[.agg (hv (after h (xs ++ ys))).toArray, v25]) rfl (by rfl) (by kernel_rfl) (by kernel_rfl) (by kernel_rfl) (fun _ _ _ h => h) (Or.inl ⟨by rfl, ?_⟩) (hx_27) ?_
          · intro wq hSq
            go_simp
          try simp only [Act.put, List.setIfInBounds_toArray, List.set_cons_zero, List.set_cons_succ]
          refine takeH 9 28 (v := .agg (hv (after h (xs ++ ys))).toArray) rfl (by rfl) (by kernel_rfl) (by kernel_rfl) (by kernel_rfl) (fun _ _ _ h => h) (Or.inl ⟨by rfl, ?_⟩) (hx_27) ?_
          · intro wq hSq
            go_simp
          try simp only [Act.put, List.setIfInBounds_toArray, List.set_cons_zero, List.set_cons_succ]
          refine takeH 10 29 (v := v25) rfl (by rfl) (by kernel_rfl) (by kernel_rfl) (by kernel_rfl) (fun _ _ _ h => h) (Or.inl ⟨by rfl, ?_⟩) (hx_27) ?_
          · intro wq hSq
            go_simp
          try simp only [Act.put, List.setIfInBounds_toArray, List.set_cons_zero, List.set_cons_succ]
          refine wpAnyH_ready (rs := [11]) (by kernel_rfl) (by simp) (AllReadyH.cons rfl (fun K hK => ?_) AllReadyH.nil)
          go_simp
          refine hK.out _ _ (Box.alloc hx_27 _) (fun _ => ?_); clear hK K
          refine F_alloc (F := fun W => wpAnyH _ _ _ _ _ _ _ _ W) (zero8) rfl ?_
          intro W35 hx35 hb35
          have sz36 := Below.size hb35
          have hx_37 : Box W35 (w.heap.size) (hashV h (.slice a1 xs.length c1) n) := Box.below hx_27 hb35
          have hr_38 : Box W35 (w.heap.size + 1) (zero10) := Box.below hr_28 hb35
          have i1_39 := Lib.hid (IsL.below (Hid.out i1_29) hb35)
          have i2_40 := Lib.hid (IsL.below (Hid.out i2_30) hb35)
          have laid_41 := Lib.hid (LaidS.below (Hid.out laid_31) hb35)
          have B_42 : Below w.heap.size w W35 := below_thru B_32 hb35
          have sl_43 : Box W35 (W0.heap.size) ([.slice a1 xs.length c1, .slice a2 ys.length c2]) := Box.below sl_33 hb35
          have cat_44 := Lib.hid (IsL.below (Hid.out cat_34) hb35)
          have out_45 := Lib.hid (IsL.below (Hid.out hq25) hb35)
          have lt35 := hx35.lt
          refine wpAnyH_ready (rs := [12]) (by kernel_rfl) (by simp) (AllReadyH.cons rfl (fun K hK => ?_) AllReadyH.nil)
          refine step_store_box0 (cs := hv (after h (xs ++ ys))) rfl rfl _ _ _ rfl hx35 rfl rfl size8 rfl (hv_one _) ?_
          intro W46 hW46
          have hx_47 : Box W46 (w.heap.size) (hashV h (.slice a1 xs.length c1) n) := hW46.past _ _ (by omega) hx_37
          have hr_48 : Box W46 (w.heap.size + 1) (zero10) := hW46.past _ _ (by omega) hr_38
          have B_52 : Below w.heap.size w W46 := hW46.below _ _ (by omega) B_42
          have sl_53 : Box W46 (W0.heap.size) ([.slice a1 xs.length c1, .slice a2 ys.length c2]) := hW46.past _ _ (by omega) sl_43
          have xw_58 := hW46.box
          have oo46 := Lib.hid (IsL.stored (Hid.out out_45) hW46 (fun g hg => by have r := (Hid.out rg16) g (by rw [← Hid.out HE25]; exact hg); omega))
          refine hK.out _ _ (hx_47) (fun _ => ?_); clear hK K
          refine takeH 13 7 (v := v25) rfl (by rfl) (by kernel_rfl) (by kernel_rfl) (by kernel_rfl) (fun _ _ _ h => h) (Or.inl ⟨by rfl, ?_⟩) (hx_47) ?_
          · intro wq hSq
            go_simp
          try simp only [Act.put, List.setIfInBounds_toArray, List.set_cons_zero, List.set_cons_succ]
          refine wpAnyH_done (by kernel_rfl) ?_ _
          go_wp2_with fail
          go_meet
          exact ⟨_, rfl, by omega, xw_58, Hid.out oo46, hx_47, hr_48, B_52⟩
        · skip
          go_simp
          refine hK.out _ _ (Box.alloc hx_18 _) (fun _ => ?_); clear hK K
          refine F_alloc (F := fun W => wpAnyH _ _ _ _ _ _ _ _ W) (zero8) rfl ?_
          intro W59 hx59 hb59
          have sz60 := Below.size hb59
          have hx_61 : Box W59 (w.heap.size) (hashV h (.slice a1 xs.length c1) n) := Box.below hx_18 hb59
          have hr_62 : Box W59 (w.heap.size + 1) (zero10) := Box.below hr_19 hb59
          have i1_63 := Lib.hid (IsL.below (Hid.out i1_20) hb59)
          have i2_64 := Lib.hid (IsL.below (Hid.out i2_21) hb59)
          have laid_65 := Lib.hid (LaidS.below (Hid.out laid_22) hb59)
          have B_66 : Below w.heap.size w W59 := below_thru B_23 hb59
          have sl_67 : Box W59 (W0.heap.size) ([.slice a1 xs.length c1, .slice a2 ys.length c2]) := Box.below sl_24 hb59
          have cat_68 := Lib.hid (IsL.below (Hid.out hq16) hb59)
          have lt59 := hx59.lt
          refine wpAnyH_ready (rs := [7]) (by kernel_rfl) (by simp) (AllReadyH.cons rfl (fun K hK => ?_) AllReadyH.nil)
          go_simp
          refine (takeIn_any h _ (xs ++ ys) _ (Hid.out cat_68) (Hid.out hbytes) (Hid.out laid_65)).mono ?_
          rintro e W69 ⟨v69, rfl, hl69, he69, hb69⟩
          have hq69 := Lib.hid hl69
          clear hl69
          have HE69 := Lib.hid he69
          clear he69
          have sz70 := Below.size hb69
          have hx_71 : Box W69 (w.heap.size) (hashV h (.slice a1 xs.length c1) n) := Box.below hx_61 hb69
          have hr_72 : Box W69 (w.heap.size + 1) (zero10) := Box.below hr_62 hb69
          have i1_73 := Lib.hid (IsL.below (Hid.out i1_63) hb69)
          have i2_74 := Lib.hid (IsL.below (Hid.out i2_64) hb69)
          have laid_75 := Lib.hid (LaidS.below (Hid.out laid_65) hb69)
          have B_76 : Below w.heap.size w W69 := below_thru B_66 hb69
          have sl_77 : Box W69 (W0.heap.size) ([.slice a1 xs.length c1, .slice a2 ys.length c2]) := Box.below sl_67 hb69
          have cat_78 := Lib.hid (IsL.below (Hid.out cat_68) hb69)
          have xw_79 : Box W69 (W16.heap.size) (zero8) := Box.below hx59 hb69
          refine hK.out _ _ (hx_71) (fun _ => ?_); clear hK K
          refine takeH 8 19 (v := .tuple #[.agg (hv (after h (xs ++ ys))).toArray, v69]) rfl (by rfl) (by kernel_rfl) (by kernel_rfl) (by kernel_rfl) (fun _ _ _ h => h) (Or.inl ⟨by rfl, ?_⟩) (hx_71) ?_
          · intro wq hSq
            go_simp
          try simp only [Act.put, List.setIfInBounds_toArray, List.set_cons_zero, List.set_cons_succ]
          refine takeH 9 28 (v := .agg (hv (after h (xs ++ ys))).toArray) rfl (by rfl) (by kernel_rfl) (by kernel_rfl) (by kernel_rfl) (fun _ _ _ h => h) (Or.inl ⟨by rfl, ?_⟩) (hx_71) ?_
          · intro wq hSq
            go_simp
          try simp only [Act.put, List.setIfInBounds_toArray, List.set_cons_zero, List.set_cons_succ]
          refine takeH 10 29 (v := v69) rfl (by rfl) (by kernel_rfl) (by kernel_rfl) (by kernel_rfl) (fun _ _ _ h => h) (Or.inl ⟨by rfl, ?_⟩) (hx_71) ?_
          · intro wq hSq
            go_simp
          try simp only [Act.put, List.setIfInBounds_toArray, List.set_cons_zero, List.set_cons_succ]
          refine wpAnyH_ready (rs := [12]) (by kernel_rfl) (by simp) (AllReadyH.cons rfl (fun K hK => ?_) AllReadyH.nil)
          refine step_store_box0 (cs := hv (after h (xs ++ ys))) rfl rfl _ _ _ rfl xw_79 rfl rfl size8 rfl (hv_one _) ?_
          intro W80 hW80
          have hx_81 : Box W80 (w.heap.size) (hashV h (.slice a1 xs.length c1) n) := hW80.past _ _ (by omega) hx_71
          have hr_82 : Box W80 (w.heap.size + 1) (zero10) := hW80.past _ _ (by omega) hr_72
          have B_86 : Below w.heap.size w W80 := hW80.below _ _ (by omega) B_76
          have sl_87 : Box W80 (W0.heap.size) ([.slice a1 xs.length c1, .slice a2 ys.length c2]) := hW80.past _ _ (by omega) sl_77
          have xw_90 := hW80.box
          have oo80 := Lib.hid (IsL.stored (Hid.out hq69) hW80 (fun g hg => by have r := (Hid.out rg16) g (by rw [← Hid.out HE69]; exact hg); omega))
          refine hK.out _ _ (hx_81) (fun _ => ?_); clear hK K
          refine takeH 13 7 (v := v69) rfl (by rfl) (by kernel_rfl) (by kernel_rfl) (by kernel_rfl) (fun _ _ _ h => h) (Or.inl ⟨by rfl, ?_⟩) (hx_81) ?_
          · intro wq hSq
            go_simp
          try simp only [Act.put, List.setIfInBounds_toArray, List.set_cons_zero, List.set_cons_succ]
          refine wpAnyH_done (by kernel_rfl) ?_ _
          go_wp2_with fail
          go_meet
          exact ⟨_, rfl, by omega, xw_90, Hid.out oo80, hx_81, hr_82, B_86⟩
      · skip
        go_simp
        refine hK.out _ _ (Box.alloc hx_10 _) (fun _ => ?_); clear hK K
        refine F_alloc (F := fun W => wpAnyH _ _ _ _ _ _ _ _ W) (zero8) rfl ?_
        intro W93 hx93 hb93
        have sz94 := Below.size hb93
        have hx_95 : Box W93 (w.heap.size) (hashV h (.slice a1 xs.length c1) n) := Box.below hx_10 hb93
        have hr_96 : Box W93 (w.heap.size + 1) (zero10) := Box.below hr_11 hb93
        have i1_97 := Lib.hid (IsL.below (Hid.out i1_12) hb93)
        have i2_98 := Lib.hid (IsL.below (Hid.out i2_13) hb93)
        have laid_99 := Lib.hid (LaidS.below (Hid.out laid_14) hb93)
        have B_100 : Below w.heap.size w W93 := below_thru B_15 hb93
        have sl_101 : Box W93 (W0.heap.size) ([.slice a1 xs.length c1, .slice a2 ys.length c2]) := Box.below hx8 hb93
        have lt93 := hx93.lt
        refine wpAnyH_ready (rs := [6]) (by kernel_rfl) (by simp) (AllReadyH.cons rfl (fun K hK => ?_) AllReadyH.nil)
        go_simp
        refine (concat_any _ _ _ xs ys _ (sl_101.c 0 _ rfl) (sl_101.c 1 _ rfl) (Hid.out i1_97) (Hid.out i2_98) hsum).mono ?_
        rintro e W102 ⟨v102, rfl, ho102⟩
        have rg102 := Lib.hid (OwnL.range ho102)
        have hq102 := Lib.hid (OwnL.is ho102)
        have hb102 := ho102.2
        clear ho102
        have sz103 := Below.size hb102
        have hx_104 : Box W102 (w.heap.size) (hashV h (.slice a1 xs.length c1) n) := Box.below hx_95 hb102
        have hr_105 : Box W102 (w.heap.size + 1) (zero10) := Box.below hr_96 hb102
        have i1_106 := Lib.hid (IsL.below (Hid.out i1_97) hb102)
        have i2_107 := Lib.hid (IsL.below (Hid.out i2_98) hb102)
        have laid_108 := Lib.hid (LaidS.below (Hid.out laid_99) hb102)
        have B_109 : Below w.heap.size w W102 := below_thru B_100 hb102
        have sl_110 : Box W102 (W0.heap.size) ([.slice a1 xs.length c1, .slice a2 ys.length c2]) := Box.below sl_101 hb102
        have xw_111 : Box W102 (W8.heap.size) (zero8) := Box.below hx93 hb102
        refine hK.out _ _ (hx_104) (fun _ => ?_); clear hK K
        refine wpAnyH_ready (rs := [7]) (by kernel_rfl) (by simp) (AllReadyH.cons rfl (fun K hK => ?_) AllReadyH.nil)
        go_simp
        refine (takeIn_any h _ (xs ++ ys) _ (Hid.out hq102) (Hid.out hbytes) (Hid.out laid_108)).mono ?_
        rintro e W112 ⟨v112, rfl, hl112, he112, hb112⟩
        have hq112 := Lib.hid hl112
        clear hl112
        have HE112 := Lib.hid he112
        clear he112
        have sz113 := Below.size hb112
        have hx_114 : Box W112 (w.heap.size) (hashV h (.slice a1 xs.length c1) n) := Box.below hx_104 hb112
        have hr_115 : Box W112 (w.heap.size + 1) (zero10) := Box.below hr_105 hb112
        have i1_116 := Lib.hid (IsL.below (Hid.out i1_106) hb112)
        have i2_117 := Lib.hid (IsL.below (Hid.out i2_107) hb112)
        have laid_118 := Lib.hid (LaidS.below (Hid.out laid_108) hb112)
        have B_119 : Below w.heap.size w W112 := below_thru B_109 hb112
        have sl_120 : Box W112 (W0.heap.size) ([.slice a1 xs.length c1, .slice a2 ys.length c2]) := Box.below sl_110 hb112
        have xw_121 : Box W112 (W8.heap.size) (zero8) := Box.below xw_111 hb112
        have cat_122 := Lib.hid (IsL.below (Hid.out hq102) hb112)
        refine hK.out _ _ (hx_114) (fun _ => ?_); clear hK K
        refine takeH 8 19 (v := .tuple #[.agg (hv (after h (xs ++ ys))).toArray, v112]) rfl (by rfl) (by kernel_rfl) (by kernel_rfl) (by kernel_rfl) (fun _ _ _ h => h) (Or.inl ⟨by rfl, ?_⟩) (hx_114) ?_
        · intro wq hSq
          go_simp
        try simp only [Act.put, List.setIfInBounds_toArray, List.set_cons_zero, List.set_cons_succ]
        refine takeH 9 28 (v := .agg (hv (after h (xs ++ ys))).toArray) rfl (by rfl) (by kernel_rfl) (by kernel_rfl) (by kernel_rfl) (fun _ _ _ h => h) (Or.inl ⟨by rfl, ?_⟩) (hx_114) ?_
        · intro wq hSq
          go_simp
        try simp only [Act.put, List.setIfInBounds_toArray, List.set_cons_zero, List.set_cons_succ]
        refine takeH 10 29 (v := v112) rfl (by rfl) (by kernel_rfl) (by kernel_rfl) (by kernel_rfl) (fun _ _ _ h => h) (Or.inl ⟨by rfl, ?_⟩) (hx_114) ?_
        · intro wq hSq
          go_simp
        try simp only [Act.put, List.setIfInBounds_toArray, List.set_cons_zero, List.set_cons_succ]
        refine wpAnyH_ready (rs := [12]) (by kernel_rfl) (by simp) (AllReadyH.cons rfl (fun K hK => ?_) AllReadyH.nil)
        refine step_store_box0 (cs := hv (after h (xs ++ ys))) rfl rfl _ _ _ rfl xw_121 rfl rfl size8 rfl (hv_one _) ?_
        intro W123 hW123
        have hx_124 : Box W123 (w.heap.size) (hashV h (.slice a1 xs.length c1) n) := hW123.past _ _ (by omega) hx_114
        have hr_125 : Box W123 (w.heap.size + 1) (zero10) := hW123.past _ _ (by omega) hr_115
        have B_129 : Below w.heap.size w W123 := hW123.below _ _ (by omega) B_119
        have sl_130 : Box W123 (W0.heap.size) ([.slice a1 xs.length c1, .slice a2 ys.length c2]) := hW123.past _ _ (by omega) sl_120
        have xw_131 := hW123.box
        have oo123 := Lib.hid (IsL.stored (Hid.out hq112) hW123 (fun g hg => by have r := (Hid.out rg102) g (by rw [← Hid.out HE112]; exact hg); omega))
        refine hK.out _ _ (hx_124) (fun _ => ?_); clear hK K
        refine takeH 13 7 (v := v112) rfl (by rfl) (by kernel_rfl) (by kernel_rfl) (by kernel_rfl) (fun _ _ _ h => h) (Or.inl ⟨by rfl, ?_⟩) (hx_124) ?_
        · intro wq hSq
          go_simp
        try simp only [Act.put, List.setIfInBounds_toArray, List.set_cons_zero, List.set_cons_succ]
        refine wpAnyH_done (by kernel_rfl) ?_ _
        go_wp2_with fail
        go_meet
        exact ⟨_, rfl, by omega, xw_131, Hid.out oo123, hx_124, hr_125, B_129⟩
    · skip
      go_simp
      refine hK.out _ _ (Box.alloc hx_2 _) (fun _ => ?_); clear hK K
      refine F_alloc (F := fun W => wpAnyH _ _ _ _ _ _ _ _ W) (zero8) rfl ?_
      intro W136 hx136 hb136
      have sz137 := Below.size hb136
      have hx_138 : Box W136 (w.heap.size) (hashV h (.slice a1 xs.length c1) n) := Box.below hx_2 hb136
      have hr_139 : Box W136 (w.heap.size + 1) (zero10) := Box.below hr_3 hb136
      have i1_140 := Lib.hid (IsL.below (Hid.out i1_4) hb136)
      have i2_141 := Lib.hid (IsL.below (Hid.out i2_5) hb136)
      have laid_142 := Lib.hid (LaidS.below (Hid.out laid_6) hb136)
      have B_143 : Below w.heap.size w W136 := below_thru B_7 hb136
      have lt136 := hx136.lt
      refine wpAnyH_ready (rs := [5]) (by kernel_rfl) (by simp) (AllReadyH.cons rfl (fun K hK => ?_) AllReadyH.nil)
      go_simp
      refine hK.out _ _ (Box.alloc hx_138 _) (fun _ => ?_); clear hK K
      refine F_alloc (F := fun W => wpAnyH _ _ _ _ _ _ _ _ W) ([.slice a1 xs.length c1, .slice a2 ys.length c2]) rfl ?_
      intro W144 hx144 hb144
      have sz145 := Below.size hb144
      have hx_146 : Box W144 (w.heap.size) (hashV h (.slice a1 xs.length c1) n) := Box.below hx_138 hb144
      have hr_147 : Box W144 (w.heap.size + 1) (zero10) := Box.below hr_139 hb144
      have i1_148 := Lib.hid (IsL.below (Hid.out i1_140) hb144)
      have i2_149 := Lib.hid (IsL.below (Hid.out i2_141) hb144)
      have laid_150 := Lib.hid (LaidS.below (Hid.out laid_142) hb144)
      have B_151 : Below w.heap.size w W144 := below_thru B_143 hb144
      have xw_152 : Box W144 (W0.heap.size) (zero8) := Box.below hx136 hb144
      have lt144 := hx144.lt
      refine wpAnyH_ready (rs := [6]) (by kernel_rfl) (by simp) (AllReadyH.cons rfl (fun K hK => ?_) AllReadyH.nil)
      go_simp
      refine (concat_any _ _ _ xs ys _ (hx144.c 0 _ rfl) (hx144.c 1 _ rfl) (Hid.out i1_148) (Hid.out i2_149) hsum).mono ?_
      rintro e W153 ⟨v153, rfl, ho153⟩
      have rg153 := Lib.hid (OwnL.range ho153)
      have hq153 := Lib.hid (OwnL.is ho153)
      have hb153 := ho153.2
      clear ho153
      have sz154 := Below.size hb153
      have hx_155 : Box W153 (w.heap.size) (hashV h (.slice a1 xs.length c1) n) := Box.below hx_146 hb153
      have hr_156 : Box W153 (w.heap.size + 1) (zero10) := Box.below hr_147 hb153
      have i1_157 := Lib.hid (IsL.below (Hid.out i1_148) hb153)
      have i2_158 := Lib.hid (IsL.below (Hid.out i2_149) hb153)
      have laid_159 := Lib.hid (LaidS.below (Hid.out laid_150) hb153)
      have B_160 : Below w.heap.size w W153 := below_thru B_151 hb153
      have xw_161 : Box W153 (W0.heap.size) (zero8) := Box.below xw_152 hb153
      have sl_162 : Box W153 (W136.heap.size) ([.slice a1 xs.length c1, .slice a2 ys.length c2]) := Box.below hx144 hb153
      refine hK.out _ _ (hx_155) (fun _ => ?_); clear hK K
      refine wpAnyH_ready (rs := [7]) (by kernel_rfl) (by simp) (AllReadyH.cons rfl (fun K hK => ?_) AllReadyH.nil)
      go_simp
      refine (takeIn_any h _ (xs ++ ys) _ (Hid.out hq153) (Hid.out hbytes) (Hid.out laid_159)).mono ?_
      rintro e W163 ⟨v163, rfl, hl163, he163, hb163⟩
      have hq163 := Lib.hid hl163
      clear hl163
      have HE163 := Lib.hid he163
      clear he163
      have sz164 := Below.size hb163
      have hx_165 : Box W163 (w.heap.size) (hashV h (.slice a1 xs.length c1) n) := Box.below hx_155 hb163
      have hr_166 : Box W163 (w.heap.size + 1) (zero10) := Box.below hr_156 hb163
      have i1_167 := Lib.hid (IsL.below (Hid.out i1_157) hb163)
      have i2_168 := Lib.hid (IsL.below (Hid.out i2_158) hb163)
      have laid_169 := Lib.hid (LaidS.below (Hid.out laid_159) hb163)
      have B_170 : Below w.heap.size w W163 := below_thru B_160 hb163
      have xw_171 : Box W163 (W0.heap.size) (zero8) := Box.below xw_161 hb163
      have sl_172 : Box W163 (W136.heap.size) ([.slice a1 xs.length c1, .slice a2 ys.length c2]) := Box.below sl_162 hb163
      have cat_173 := Lib.hid (IsL.below (Hid.out hq153) hb163)
      refine hK.out _ _ (hx_165) (fun _ => ?_); clear hK K
      refine takeH 8 19 (v := .tuple #[.agg (hv (after h (xs ++ ys))).toArray, v163]) rfl (by rfl) (by kernel_rfl) (by kernel_rfl) (by kernel_rfl) (fun _ _ _ h => h) (Or.inl ⟨by rfl, ?_⟩) (hx_165) ?_
      · intro wq hSq
        go_simp
      try simp only [Act.put, List.setIfInBounds_toArray, List.set_cons_zero, List.set_cons_succ]
      refine takeH 9 28 (v := .agg (hv (after h (xs ++ ys))).toArray) rfl (by rfl) (by kernel_rfl) (by kernel_rfl) (by kernel_rfl) (fun _ _ _ h => h) (Or.inl ⟨by rfl, ?_⟩) (hx_165) ?_
      · intro wq hSq
        go_simp
      try simp only [Act.put, List.setIfInBounds_toArray, List.set_cons_zero, List.set_cons_succ]
      refine takeH 10 29 (v := v163) rfl (by rfl) (by kernel_rfl) (by kernel_rfl) (by kernel_rfl) (fun _ _ _ h => h) (Or.inl ⟨by rfl, ?_⟩) (hx_165) ?_
      · intro wq hSq
        go_simp
      try simp only [Act.put, List.setIfInBounds_toArray, List.set_cons_zero, List.set_cons_succ]
      refine wpAnyH_ready (rs := [12]) (by kernel_rfl) (by simp) (AllReadyH.cons rfl (fun K hK => ?_) AllReadyH.nil)
      refine step_store_box0 (cs := hv (after h (xs ++ ys))) rfl rfl _ _ _ rfl xw_171 rfl rfl size8 rfl (hv_one _) ?_
      intro W174 hW174
      have hx_175 : Box W174 (w.heap.size) (hashV h (.slice a1 xs.length c1) n) := hW174.past _ _ (by omega) hx_165
      have hr_176 : Box W174 (w.heap.size + 1) (zero10) := hW174.past _ _ (by omega) hr_166
      have B_180 : Below w.heap.size w W174 := hW174.below _ _ (by omega) B_170
      have xw_181 := hW174.box
      have sl_182 : Box W174 (W136.heap.size) ([.slice a1 xs.length c1, .slice a2 ys.length c2]) := hW174.past _ _ (by omega) sl_172
      have oo174 := Lib.hid (IsL.stored (Hid.out hq163) hW174 (fun g hg => by have r := (Hid.out rg153) g (by rw [← Hid.out HE163]; exact hg); omega))
      refine hK.out _ _ (hx_175) (fun _ => ?_); clear hK K
      refine takeH 13 7 (v := v163) rfl (by rfl) (by kernel_rfl) (by kernel_rfl) (by kernel_rfl) (fun _ _ _ h => h) (Or.inl ⟨by rfl, ?_⟩) (hx_175) ?_
      · intro wq hSq
        go_simp
      try simp only [Act.put, List.setIfInBounds_toArray, List.set_cons_zero, List.set_cons_succ]
      refine wpAnyH_done (by kernel_rfl) ?_ _
      go_wp2_with fail
      go_meet
      exact ⟨_, rfl, by omega, xw_181, Hid.out oo174, hx_175, hr_176, B_180⟩
  case rest =>
    clear hxh hxr HI1 HL1 hB1
    obtain ⟨bw, rfl, hbw, hxw, hout, hxh, hxr, hB⟩ := hcut
    obtain ⟨vq, rfl⟩ : ∃ u : Value, u = u7 := ⟨_, rfl⟩
    obtain ⟨w2, rfl⟩ : ∃ u : World, u = wc := ⟨_, rfl⟩
    have hsz := hB.size
    have hz2 := hxr.lt
    have HO := Lib.hid hout
    clear hout
    go_upto_region 6 with fail
    obtain ⟨T, hTe⟩ : ∃ T, T = after h (xs ++ ys) := ⟨_, rfl⟩
    obtain ⟨rs, hre⟩ : ∃ rs, rs = restOf (xs ++ ys) := ⟨_, rfl⟩
    rw [← hTe] at hxw
    rw [← hre] at HO
    have HTE := Lib.hid hTe
    have HRE := Lib.hid hre
    have hrl := restOf_len (xs ++ ys)
    rw [← hre] at hrl
    have hrl2 : rs.length ≤ 1000000000 := by omega
    clear hTe hre hrl
    have E : IntKind.i64.wrap (n + (ys.length : Int)) = n + (ys.length : Int) := IntWalk.i64_in _ (by omega)
    refine wp_region_held_drew (S := fun w' => Box w' w.heap.size (hashV h (.slice a1 xs.length c1) n) ∧ Box w' bw (hv T)) (by kernel_rfl) ⟨Box.drew hxh, Box.drew hxw⟩ (fun _ => ?_)
    refine F_drew (F := fun W => wpAnyH _ _ _ _ _ _ _ _ W) ?_
    intro V0 hb0
    have sz1 := Below.size hb0
    have hx_2 : Box V0 (w.heap.size) (hashV h (.slice a1 xs.length c1) n) := Box.below hxh hb0
    have hr_3 : Box V0 (w.heap.size + 1) (zero10) := Box.below hxr hb0
    have xw_4 : Box V0 (bw) (hv T) := Box.below hxw hb0
    have out_5 := Lib.hid (IsL.below (Hid.out HO) hb0)
    have B_6 : Below w.heap.size w V0 := below_thru hB hb0
    clear hxh hxr HO hB hb0 hxw
    refine takeH 0 30 (v := .agg #[.int .u32 (un T.a), .int .u32 (un T.b), .int .u32 (un T.c), .int .u32 (un T.d), .int .u32 (un T.e), .int .u32 (un T.f), .int .u32 (un T.g), .int .u32 (un T.z)]) rfl (by rfl) (by kernel_rfl) (by kernel_rfl) (by kernel_rfl) (fun _ _ _ h => h) (yieldsIf_load_mid (by rfl) _ _ rfl _ 0 rfl (hv T) _ (fun wq hq => Box.range hq.2) Tryd.underlying59 rfl size8) (⟨hx_2, xw_4⟩) ?_
    try simp only [Act.put, List.setIfInBounds_toArray, List.set_cons_zero, List.set_cons_succ]
    refine takeH 1 31 (v := vq) rfl (by rfl) (by kernel_rfl) (by kernel_rfl) (by kernel_rfl) (fun _ _ _ h => h) (Or.inl ⟨by rfl, ?_⟩) (⟨hx_2, xw_4⟩) ?_
    · intro wq hSq
      go_simp
    try simp only [Act.put, List.setIfInBounds_toArray, List.set_cons_zero, List.set_cons_succ]
    refine takeH 3 33 (v := .pointer (some ⟨w.heap.size, 9, none⟩)) rfl (by rfl) (by kernel_rfl) (by kernel_rfl) (by kernel_rfl) (fun _ _ _ h => h) (Or.inl ⟨by rfl, ?_⟩) (⟨hx_2, xw_4⟩) ?_
    · intro wq hSq
      go_simp
    try simp only [Act.put, List.setIfInBounds_toArray, List.set_cons_zero, List.set_cons_succ]
    refine takeH 4 34 (v := .int .i64 n) rfl (by rfl) (by kernel_rfl) (by kernel_rfl) (by kernel_rfl) (fun _ _ _ h => h) (Or.inl ⟨by rfl, ?_⟩) (⟨hx_2, xw_4⟩) ?_
    · intro wq hSq
      have cq := hSq.1.c 9 _ rfl
      go_simp
    try simp only [Act.put, List.setIfInBounds_toArray, List.set_cons_zero, List.set_cons_succ]
    refine takeH 5 35 (v := .slice a2 ys.length c2) rfl (by rfl) (by kernel_rfl) (by kernel_rfl) (by kernel_rfl) (fun _ _ _ h => h) (Or.inl ⟨by rfl, ?_⟩) (⟨hx_2, xw_4⟩) ?_
    · intro wq hSq
      go_simp
    try simp only [Act.put, List.setIfInBounds_toArray, List.set_cons_zero, List.set_cons_succ]
    refine takeH 6 36 (v := .int .i64 ys.length) rfl (by rfl) (by kernel_rfl) (by kernel_rfl) (by kernel_rfl) (fun _ _ _ h => h) (Or.inl ⟨by rfl, ?_⟩) (⟨hx_2, xw_4⟩) ?_
    · intro wq hSq
      go_simp
    try simp only [Act.put, List.setIfInBounds_toArray, List.set_cons_zero, List.set_cons_succ]
    refine takeH 7 37 (v := .int .i64 (n + ys.length)) rfl (by rfl) (by kernel_rfl) (by kernel_rfl) (by kernel_rfl) (fun _ _ _ h => h) (Or.inl ⟨by rfl, ?_⟩) (⟨hx_2, xw_4⟩) ?_
    · intro wq hSq
      go_simp
    try simp only [Act.put, List.setIfInBounds_toArray, List.set_cons_zero, List.set_cons_succ]
    refine wpAnyH_ready (rs := [2]) (by kernel_rfl) (by simp) (AllReadyH.cons rfl (fun K hK => ?_) AllReadyH.nil)
    go_simp
    refine (clone_any _ rs _ (Hid.out out_5) hrl2).mono ?_
    rintro e W7 ⟨vc7, rfl, ho7⟩
    obtain ⟨ac7, cc7, ec7, _⟩ := OwnL.is ho7
    subst ec7
    have hw7 := Lib.hid ho7
    have hb7 := ho7.2
    clear ho7
    have sz8 := Below.size hb7
    have hx_9 : Box W7 (w.heap.size) (hashV h (.slice a1 xs.length c1) n) := Box.below hx_2 hb7
    have hr_10 : Box W7 (w.heap.size + 1) (zero10) := Box.below hr_3 hb7
    have xw_11 : Box W7 (bw) (hv T) := Box.below xw_4 hb7
    have out_12 := Lib.hid (IsL.below (Hid.out out_5) hb7)
    have B_13 : Below w.heap.size w W7 := below_thru B_6 hb7
    refine hK.out _ _ (⟨hx_9, xw_11⟩) (fun _ => ?_); clear hK K
    refine takeH 8 38 (v := .agg #[.int .u32 (un T.a), .int .u32 (un T.b), .int .u32 (un T.c), .int .u32 (un T.d), .int .u32 (un T.e), .int .u32 (un T.f), .int .u32 (un T.g), .int .u32 (un T.z), .slice ac7 rs.length cc7, .int .i64 (n + ys.length)]) rfl (by rfl) (by kernel_rfl) (by kernel_rfl) (by kernel_rfl) (fun _ _ _ h => h) (Or.inl ⟨by rfl, ?_⟩) (⟨hx_9, xw_11⟩) ?_
    · intro wq hSq
      go_simp
    try simp only [Act.put, List.setIfInBounds_toArray, List.set_cons_zero, List.set_cons_succ]
    refine wpAnyH_ready (rs := [9]) (by kernel_rfl) (by simp) (AllReadyH.cons rfl (fun K hK => ?_) AllReadyH.nil)
    refine step_store_box0 (cs := _) rfl rfl _ _ _ rfl hr_10 rfl rfl size10 rfl (hash_one _ _ _ _ _) ?_
    intro W14 hW14
    have hx_15 : Box W14 (w.heap.size) (hashV h (.slice a1 xs.length c1) n) := hW14.past _ _ (by omega) hx_9
    have hr_16 := hW14.box
    have xw_17 : Box W14 (bw) (hv T) := hW14.past _ _ (by omega) xw_11
    have B_19 : Below w.heap.size w W14 := hW14.below _ _ (by omega) B_13
    refine hK.out _ _ (⟨hx_15, xw_17⟩) (fun _ => ?_); clear hK K
    refine takeH 10 5 (v := .int .i64 0) rfl (by rfl) (by kernel_rfl) (by kernel_rfl) (by kernel_rfl) (fun _ _ _ h => h) (Or.inl ⟨by rfl, ?_⟩) (⟨hx_15, xw_17⟩) ?_
    · intro wq hSq
      go_simp
    try simp only [Act.put, List.setIfInBounds_toArray, List.set_cons_zero, List.set_cons_succ]
    refine wpAnyH_done (by kernel_rfl) ?_ _
    go_wp2_with fail
    rw [← HTE.out, ← HRE.out]
    exact bodyPost_ret (v := .tuple #[.agg (hashV T (.slice ac7 rs.length cc7) (n + ys.length)).toArray, .int .i64 0]) (results_box2 Tryd.results30 hr_16 rfl rfl Tryd.underlying61 rfl size10) rfl ⟨_, rfl, owns_mono (OwnL.stored (Hid.out hw7) hW14 (by omega)) (by omega), B_19⟩


end Go.Proofs.YtfobjdkpdeiidaaDoor
