/-
  ReplyNames, walked.
-/
import Derived.Test.YtipkgflonioacaaNm10
namespace Go.Proofs.Ytipkgflonioacaa
open Go.RowKit

set_option maxRecDepth 100000 in
set_option maxHeartbeats 25600000 in
theorem names10_is (w : World) : Calls Try.prog 3 #[] w fun e w' => e = .returned (.bool true) ∧ Below w.heap.size w w' := by
  obtain ⟨tu, hun, hu0, hu1, hu2⟩ := info_parts info_u8'
  go_enter Try.func3, Try.ntmps3
  go_wp2_with fail
  go_loopw [1] (fun s1 wr => ∃ k : Nat, s1 = .int .i64 k ∧ k ≤ 256 ∧ Below w.heap.size w wr) (fun s1 _ => 256 - (intOf s1).toNat)
  case atStart => exact ⟨0, rfl, by omega, Below.refl _ _⟩
  case round =>
    obtain ⟨k, rfl, hk, hBr⟩ := hrel
    by_cases hlt : k < 256
    · have hn : 0 ≤ (k : Int) ∧ (k : Int) ≤ 255 := by omega
      have wk : IntKind.u8.wrap (k : Int) = k := by rw [IntKind.wrap_u8]; omega
      have i3 : (k : Int) < 256 := by omega
      by_cases hs : Sole (k : Int)
      · by_cases h1 : (k : Int) = 1
        · have d1 : ((k : Int) == 1) = true := beq_iff_eq.2 h1; clear h1
          have CD := fun W => code_is (k : Int) hn (G := Rep.lone k hn) (q := 0) (Or.inl ⟨rfl, hs, hn, rfl⟩) W; have BC := fun W => build_rc (k : Int) hn W; have SV := Lib.hid (size_rep (Rep.lone k hn)); have LV := Lib.hid (len_rep Rep.zero (Rep.lone k hn)); have OV := Lib.hid (one_rep (Rep.lone k hn)); have EV := fun W => eqp_t (rfl : Rep.lone k hn = Rep.lone k hn) W
          obtain ⟨V, hV⟩ : ∃ V, (Rep.lone k hn).v = V := ⟨_, rfl⟩; rw [hV] at CD BC SV LV OV EV; clear hV hs hn
          have hB0 := Below.refl wr.heap.size wr
          have hs0 := hB0.size
          go_wp2_with fail
          refine (CD _).mono ?_
          rintro e w1 ⟨rfl, hb⟩
          clear CD
          have hB1 : Below wr.heap.size wr w1 := below_thru hB0 hb
          have hs1 := hB1.size
          clear hB0 hs0
          clear hb
          have d_g_0 := hs1
          go_upto_region 5 with (refine wpList_store_box (cs := V) rfl _ _ _ rfl (Box.newc (l := Rep.zero.v) rfl rfl) rfl rfl SV.out LV.out OV.out ?_; intro W1_0 hW1_0)
          have hN : Below w1.heap.size w1 W1_0 := (hW1_0.below _ _ (by omega) ((Below.refl _ w1).alloc (Nat.le_refl _) _))
          have x_g2 : Box W1_0 (w1.heap.size) (V) := hW1_0.box
          have hB2 : Below wr.heap.size wr W1_0 := below_thru hB1 hN
          have hs2 := hB2.size
          clear hB1 hs1
          clear hN hW1_0
          go_wp2_with (first | (refine wpList_load_box9 rfl _ _ rfl x_g2 rfl Try.underlying26 rfl SV.out ?_) | (refine wpList_build9 rfl 26 _ rfl (us := #[(0, .int .u8 (k : Int))]) (by rfl) (BC _) ?_))
          have hBn := below_thru hBr hB2
          go_roundw
          case rel => exact ⟨k + 1, by go_num, by omega, hBn⟩
          case measure => simp [intOf]; omega
        · have d1 : ((k : Int) == 1) = false := beq_false_of_ne h1; have d2 : decide (4 ≤ (k : Int)) = true := decide_eq_true (by unfold Sole at hs; omega); have d3 : decide ((k : Int) ≤ 8) = true := decide_eq_true (by unfold Sole at hs; omega); clear h1
          have CD := fun W => code_is (k : Int) hn (G := Rep.lone k hn) (q := 0) (Or.inl ⟨rfl, hs, hn, rfl⟩) W; have BC := fun W => build_rc (k : Int) hn W; have SV := Lib.hid (size_rep (Rep.lone k hn)); have LV := Lib.hid (len_rep Rep.zero (Rep.lone k hn)); have OV := Lib.hid (one_rep (Rep.lone k hn)); have EV := fun W => eqp_t (rfl : Rep.lone k hn = Rep.lone k hn) W
          obtain ⟨V, hV⟩ : ∃ V, (Rep.lone k hn).v = V := ⟨_, rfl⟩; rw [hV] at CD BC SV LV OV EV; clear hV hs hn
          have hB0 := Below.refl wr.heap.size wr
          have hs0 := hB0.size
          go_wp2_with fail
          refine (CD _).mono ?_
          rintro e w1 ⟨rfl, hb⟩
          clear CD
          have hB1 : Below wr.heap.size wr w1 := below_thru hB0 hb
          have hs1 := hB1.size
          clear hB0 hs0
          clear hb
          have d_g_0 := hs1
          go_upto_region 5 with (refine wpList_store_box (cs := V) rfl _ _ _ rfl (Box.newc (l := Rep.zero.v) rfl rfl) rfl rfl SV.out LV.out OV.out ?_; intro W1_0 hW1_0)
          have hN : Below w1.heap.size w1 W1_0 := (hW1_0.below _ _ (by omega) ((Below.refl _ w1).alloc (Nat.le_refl _) _))
          have x_g2 : Box W1_0 (w1.heap.size) (V) := hW1_0.box
          have hB2 : Below wr.heap.size wr W1_0 := below_thru hB1 hN
          have hs2 := hB2.size
          clear hB1 hs1
          clear hN hW1_0
          go_wp2_with (first | (refine wpList_load_box9 rfl _ _ rfl x_g2 rfl Try.underlying26 rfl SV.out ?_) | (refine wpList_build9 rfl 26 _ rfl (us := #[(0, .int .u8 (k : Int))]) (by rfl) (BC _) ?_))
          have hBn := below_thru hBr hB2
          go_roundw
          case rel => exact ⟨k + 1, by go_num, by omega, hBn⟩
          case measure => simp [intOf]; omega
      · have d1 : ((k : Int) == 1) = false := beq_false_of_ne (fun e => hs (Or.inl e))
        by_cases h4 : 4 ≤ (k : Int)
        · have d2 : decide (4 ≤ (k : Int)) = true := decide_eq_true h4; have d3 : decide ((k : Int) ≤ 8) = false := decide_eq_false (by unfold Sole at hs; omega); clear h4
          have CD := fun W => code_is (k : Int) hn (G := Rep.zero) (q := 2) (Or.inr ⟨rfl, hs, rfl⟩) W; have SV := Lib.hid (size_rep Rep.zero); have OV := Lib.hid (one_rep Rep.zero); obtain ⟨V, hV⟩ : ∃ V, Rep.zero.v = V := ⟨_, rfl⟩; have LV : Hid (Rep.zero.v.length = V.length) := Lib.hid (by rw [hV]); rw [hV] at CD SV OV; clear hV hs hn
          have hB0 := Below.refl wr.heap.size wr
          have hs0 := hB0.size
          go_wp2_with fail
          refine (CD _).mono ?_
          rintro e w1 ⟨rfl, hb⟩
          clear CD
          have hB1 : Below wr.heap.size wr w1 := below_thru hB0 hb
          have hs1 := hB1.size
          clear hB0 hs0
          clear hb
          have d_g_0 := hs1
          go_upto_region 5 with (refine wpList_store_box (cs := V) rfl _ _ _ rfl (Box.newc (l := Rep.zero.v) rfl rfl) rfl rfl SV.out LV.out OV.out ?_; intro W1_0 hW1_0)
          have hN : Below w1.heap.size w1 W1_0 := (hW1_0.below _ _ (by omega) ((Below.refl _ w1).alloc (Nat.le_refl _) _))
          have x_g2 : Box W1_0 (w1.heap.size) (V) := hW1_0.box
          have hB2 : Below wr.heap.size wr W1_0 := below_thru hB1 hN
          have hs2 := hB2.size
          clear hB1 hs1
          clear hN hW1_0
          go_wp2_with fail
          have hBn := below_thru hBr hB2
          go_roundw
          case rel => exact ⟨k + 1, by go_num, by omega, hBn⟩
          case measure => simp [intOf]; omega
        · have d2 : decide (4 ≤ (k : Int)) = false := decide_eq_false h4; clear h4
          have CD := fun W => code_is (k : Int) hn (G := Rep.zero) (q := 2) (Or.inr ⟨rfl, hs, rfl⟩) W; have SV := Lib.hid (size_rep Rep.zero); have OV := Lib.hid (one_rep Rep.zero); obtain ⟨V, hV⟩ : ∃ V, Rep.zero.v = V := ⟨_, rfl⟩; have LV : Hid (Rep.zero.v.length = V.length) := Lib.hid (by rw [hV]); rw [hV] at CD SV OV; clear hV hs hn
          have hB0 := Below.refl wr.heap.size wr
          have hs0 := hB0.size
          go_wp2_with fail
          refine (CD _).mono ?_
          rintro e w1 ⟨rfl, hb⟩
          clear CD
          have hB1 : Below wr.heap.size wr w1 := below_thru hB0 hb
          have hs1 := hB1.size
          clear hB0 hs0
          clear hb
          have d_g_0 := hs1
          go_upto_region 5 with (refine wpList_store_box (cs := V) rfl _ _ _ rfl (Box.newc (l := Rep.zero.v) rfl rfl) rfl rfl SV.out LV.out OV.out ?_; intro W1_0 hW1_0)
          have hN : Below w1.heap.size w1 W1_0 := (hW1_0.below _ _ (by omega) ((Below.refl _ w1).alloc (Nat.le_refl _) _))
          have x_g2 : Box W1_0 (w1.heap.size) (V) := hW1_0.box
          have hB2 : Below wr.heap.size wr W1_0 := below_thru hB1 hN
          have hs2 := hB2.size
          clear hB1 hs1
          clear hN hW1_0
          go_wp2_with fail
          have hBn := below_thru hBr hB2
          go_roundw
          case rel => exact ⟨k + 1, by go_num, by omega, hBn⟩
          case measure => simp [intOf]; omega
    · have dk : decide ((k : Int) < 256) = false := decide_eq_false (by omega)
      clear hlt hk
      have hB0 := hBr; have hs0 := hB0.size; clear hBr
      go_upto_region 9 with fail
      refine F_gen (F := fun W => Code.wp _ _ _ _ W) (J := fun W => Box W (wr.heap.size) (flatR LP fineR) ∧ Below w.heap.size w W) (And.intro (Box.newc rfl rfl) (hB0.alloc (by first | exact hs0 | (simp; omega)) _)) ?_
      intro wf ⟨x_fr1, hB1⟩
      clear hB0 hs0
      have hs1 := hB1.size
      obtain ⟨bF, hbF⟩ : ∃ b, wr.heap.size = b := ⟨_, rfl⟩; rw [hbF] at x_fr1 ⊢; clear hbF
      obtain ⟨FR, hFR⟩ : ∃ V, flatR LP fineR = V := ⟨_, rfl⟩; rw [hFR] at x_fr1
      go_wp2_with fail
      go_loopw [6] (fun s6 wr => ∃ j : Nat, s6 = .int .i64 j ∧ j ≤ 5 ∧ Below w.heap.size w wr ∧ Box wr bF FR) (fun s6 _ => 5 - (intOf s6).toNat)
      case atStart => exact ⟨0, rfl, by omega, hB1, x_fr1⟩
      case round =>
        clear x_fr1 hB1 hs1
        obtain ⟨j, rfl, hj, hBq, hWr⟩ := hrel
        by_cases hlt : j < 5
        · obtain ⟨c, hc⟩ : ∃ c, fineR[j]? = some c := ⟨_, List.getElem?_eq_getElem hlt⟩
          have hok := fineR_ok c (List.mem_of_getElem? hc); obtain ⟨R, DR⟩ := rep_at hc; rw [hFR] at DR; have DR := Lib.hid DR; have i0 : (0 : Int) ≤ (j : Int) := (by omega); have i1 : (j : Int) < 5 := (by omega); have SC := Lib.hid (size_rep c)
          have WF := fun W => pwr_is c (xs := c.bs) (q := 0) (Or.inl ⟨rfl, hok, rfl⟩) W; have CK := fun W => chk_is c (q := 0) (Lib.hid (Or.inl ⟨rfl, hok⟩)) W; have PA := pparse_self hok; unfold PReads at PA; have HS := Lib.hid c.bs_len; have LV := Lib.hid (len_rep Rep.zero c); have OV := Lib.hid (one_rep c); have EV := fun W => eqp_t (rfl : c = c) W
          obtain ⟨XS, hXS⟩ : ∃ X, c.bs = X := ⟨_, rfl⟩; rw [hXS] at WF PA HS; obtain ⟨C, hC⟩ : ∃ V, c.v = V := ⟨_, rfl⟩; rw [hC] at WF CK PA LV OV EV DR SC; clear hXS hC hok hc
          have hB0 := Below.refl wr.heap.size wr
          have hs0 := hB0.size
          have x_fr0 : Box wr (bF) (FR) := hWr
          clear hWr
          go_wp2_with (refine wpList_load_rangew rfl _ _ rfl (Box.rangeMid x_fr0 (j * 6) (C) (R) DR.out) rfl Try.underlying26 rfl SC.out ?_)
          refine (WF _).mono ?_
          rintro e w1 ⟨va, rfl, hoa, hb⟩
          clear WF
          have hB1 : Below wr.heap.size wr w1 := below_thru hB0 hb
          have hs1 := hB1.size
          have x_fr1 : Box w1 (bF) (FR) := Box.below x_fr0 hb
          clear hB0 hs0 x_fr0
          clear hb
          obtain ⟨ga, ca, rfl, _, lo_a, hi_a, hbx⟩ := own_box hoa (by rw [HS.out]; decide); rw [HS.out] at lo_a ⊢; clear hoa
          have x_xa1 : Box w1 (ga) (XS.map (Value.int .u8)) := hbx
          clear hbx
          go_wp2_with fail
          refine (PA _ _ (IsL.range 32 ca HS.out x_xa1.range (by omega) (by omega))).mono ?_
          rintro e w2 ⟨rfl, hb⟩
          clear PA
          have hB2 : Below wr.heap.size wr w2 := below_thru hB1 hb
          have hs2 := hB2.size
          have x_fr2 : Box w2 (bF) (FR) := Box.below x_fr1 hb
          have x_xa2 : Box w2 (ga) (XS.map (Value.int .u8)) := Box.below x_xa1 hb
          clear hB1 hs1 x_fr1 x_xa1
          clear hb
          clear x_xa2
          have d_f_fr := (x_fr2).lt
          have d_f_0 := hs2
          go_upto_region 14 with (refine wpList_store_box (cs := C) rfl _ _ _ rfl (Box.newc (l := Rep.zero.v) rfl rfl) rfl rfl SC.out LV.out OV.out ?_; intro W2_0 hW2_0)
          have hN : Below w2.heap.size w2 W2_0 := (hW2_0.below _ _ (by omega) ((Below.refl _ w2).alloc (Nat.le_refl _) _))
          have x_f3 : Box W2_0 (w2.heap.size) (C) := hW2_0.box
          have hB3 : Below wr.heap.size wr W2_0 := below_thru hB2 hN
          have hs3 := hB3.size
          have x_fr3 : Box W2_0 (bF) (FR) := Box.below x_fr2 hN
          clear hB2 hs2 x_fr2
          clear hN hW2_0
          have rg := Box.rangeMid x_fr3 (j * 6) C R DR.out
          refine wp_region_held_drew (S := fun W => Box W (bF) (FR) ∧ Box W (w2.heap.size) (C) ∧ W.rangeAt (bF) (j * 6) (C)) (by kernel_rfl) (And.intro (x_fr3).drew (And.intro (x_f3).drew rg)) (fun _ => ?_)
          refine F_drew (F := fun W => wpAnyH _ _ _ _ _ _ _ _ W) ?_
          intro Wa0 hba0
          clear hs3
          have x_fr_a0 : Box Wa0 (bF) (FR) := Box.below x_fr3 hba0
          have x_f_a0 : Box Wa0 (w2.heap.size) (C) := Box.below x_f3 hba0
          have c_el_a0 := range_below rg hba0
          have Ba0 := below_thru hB3 hba0
          clear x_fr3 x_f3 rg hB3 hba0
          refine takeH 0 97 (v := ?va0_1) rfl (by rfl) (by kernel_rfl) (by kernel_rfl) (by kernel_rfl) (fun _ _ _ h => h) (Or.inl ⟨by rfl, ?_⟩) ((And.intro x_fr_a0 (And.intro x_f_a0 c_el_a0))) ?_
          rotate_left
          · intro wq hSq
            go_simp
            exact rfl
          try simp only [Act.put, List.setIfInBounds_toArray, List.set_cons_zero, List.set_cons_succ]
          refine takeH 1 98 (v := ?va1_2) rfl (by rfl) (by kernel_rfl) (by kernel_rfl) (by kernel_rfl) (fun _ _ _ h => h) (Or.inl ⟨by rfl, ?_⟩) ((And.intro x_fr_a0 (And.intro x_f_a0 c_el_a0))) ?_
          rotate_left
          · intro wq hSq
            go_simp
            exact rfl
          try simp only [Act.put, List.setIfInBounds_toArray, List.set_cons_zero, List.set_cons_succ]
          refine takeH 2 99 (v := ?va2_3) rfl (by rfl) (by kernel_rfl) (by kernel_rfl) (by kernel_rfl) (fun _ _ _ h => h) (Or.inl ⟨by rfl, ?_⟩) ((And.intro x_fr_a0 (And.intro x_f_a0 c_el_a0))) ?_
          rotate_left
          · intro wq hSq
            go_simp
            exact rfl
          try simp only [Act.put, List.setIfInBounds_toArray, List.set_cons_zero, List.set_cons_succ]
          refine takeH 3 100 (v := .agg (C).toArray) rfl (by rfl) (by kernel_rfl) (by kernel_rfl) (by kernel_rfl) (fun _ _ _ h => h) (yieldsIf_load_mid (by rfl) _ _ rfl _ _ rfl (C) _ (fun wq hq => hq.2.2) Try.underlying26 rfl SC.out) ((And.intro x_fr_a0 (And.intro x_f_a0 c_el_a0))) ?_
          try simp only [Act.put, List.setIfInBounds_toArray, List.set_cons_zero, List.set_cons_succ]
          refine wpAnyH_ready (rs := [4]) (by kernel_rfl) (by simp) (AllReadyH.cons rfl (fun K hK => ?_) AllReadyH.nil)
          go_simp
          refine (CK _).mono ?_
          rintro e Wa4 ⟨rfl, hba4⟩
          have x_fr_a4 : Box Wa4 (bF) (FR) := Box.below x_fr_a0 hba4
          have x_f_a4 : Box Wa4 (w2.heap.size) (C) := Box.below x_f_a0 hba4
          have c_el_a4 := range_below c_el_a0 hba4
          have Ba4 := below_thru Ba0 hba4
          clear x_fr_a0 x_f_a0 c_el_a0 Ba0 hba4
          refine hK.out _ _ (And.intro x_fr_a4 (And.intro x_f_a4 c_el_a4)) (fun _ => ?_); clear hK K
          refine takeH 5 102 (v := ?va5_5) rfl (by rfl) (by kernel_rfl) (by kernel_rfl) (by kernel_rfl) (fun _ _ _ h => h) (Or.inl ⟨by rfl, ?_⟩) ((And.intro x_fr_a4 (And.intro x_f_a4 c_el_a4))) ?_
          rotate_left
          · intro wq hSq
            go_simp
            exact rfl
          try simp only [Act.put, List.setIfInBounds_toArray, List.set_cons_zero, List.set_cons_succ]
          refine takeH 6 103 (v := ?va6_6) rfl (by rfl) (by kernel_rfl) (by kernel_rfl) (by kernel_rfl) (fun _ _ _ h => h) (Or.inl ⟨by rfl, ?_⟩) ((And.intro x_fr_a4 (And.intro x_f_a4 c_el_a4))) ?_
          rotate_left
          · intro wq hSq
            go_simp
            exact rfl
          try simp only [Act.put, List.setIfInBounds_toArray, List.set_cons_zero, List.set_cons_succ]
          refine takeH 7 104 (v := ?va7_7) rfl (by rfl) (by kernel_rfl) (by kernel_rfl) (by kernel_rfl) (fun _ _ _ h => h) (Or.inl ⟨by rfl, ?_⟩) ((And.intro x_fr_a4 (And.intro x_f_a4 c_el_a4))) ?_
          rotate_left
          · intro wq hSq
            go_simp
            exact rfl
          try simp only [Act.put, List.setIfInBounds_toArray, List.set_cons_zero, List.set_cons_succ]
          refine takeH 8 105 (v := ?va8_8) rfl (by rfl) (by kernel_rfl) (by kernel_rfl) (by kernel_rfl) (fun _ _ _ h => h) (Or.inl ⟨by rfl, ?_⟩) ((And.intro x_fr_a4 (And.intro x_f_a4 c_el_a4))) ?_
          rotate_left
          · intro wq hSq
            go_simp
            exact rfl
          try simp only [Act.put, List.setIfInBounds_toArray, List.set_cons_zero, List.set_cons_succ]
          refine takeH 9 106 (v := ?va9_9) rfl (by rfl) (by kernel_rfl) (by kernel_rfl) (by kernel_rfl) (fun _ _ _ h => h) (Or.inl ⟨by rfl, ?_⟩) ((And.intro x_fr_a4 (And.intro x_f_a4 c_el_a4))) ?_
          rotate_left
          · intro wq hSq
            go_simp
            exact rfl
          try simp only [Act.put, List.setIfInBounds_toArray, List.set_cons_zero, List.set_cons_succ]
          refine takeH 10 107 (v := ?va10_10) rfl (by rfl) (by kernel_rfl) (by kernel_rfl) (by kernel_rfl) (fun _ _ _ h => h) (Or.inl ⟨by rfl, ?_⟩) ((And.intro x_fr_a4 (And.intro x_f_a4 c_el_a4))) ?_
          rotate_left
          · intro wq hSq
            go_simp
            exact rfl
          try simp only [Act.put, List.setIfInBounds_toArray, List.set_cons_zero, List.set_cons_succ]
          refine takeH 11 108 (v := ?va11_11) rfl (by rfl) (by kernel_rfl) (by kernel_rfl) (by kernel_rfl) (fun _ _ _ h => h) (Or.inl ⟨by rfl, ?_⟩) ((And.intro x_fr_a4 (And.intro x_f_a4 c_el_a4))) ?_
          rotate_left
          · intro wq hSq
            go_simp
            exact rfl
          try simp only [Act.put, List.setIfInBounds_toArray, List.set_cons_zero, List.set_cons_succ]
          refine takeH 12 109 (v := ?va12_12) rfl (by rfl) (by kernel_rfl) (by kernel_rfl) (by kernel_rfl) (fun _ _ _ h => h) (Or.inl ⟨by rfl, ?_⟩) ((And.intro x_fr_a4 (And.intro x_f_a4 c_el_a4))) ?_
          rotate_left
          · intro wq hSq
            go_simp
            exact rfl
          try simp only [Act.put, List.setIfInBounds_toArray, List.set_cons_zero, List.set_cons_succ]
          refine takeH 13 110 (v := ?va13_13) rfl (by rfl) (by kernel_rfl) (by kernel_rfl) (by kernel_rfl) (fun _ _ _ h => h) (Or.inl ⟨by rfl, ?_⟩) ((And.intro x_fr_a4 (And.intro x_f_a4 c_el_a4))) ?_
          rotate_left
          · intro wq hSq
            go_simp
            exact rfl
          try simp only [Act.put, List.setIfInBounds_toArray, List.set_cons_zero, List.set_cons_succ]
          refine takeH 14 111 (v := ?va14_14) rfl (by rfl) (by kernel_rfl) (by kernel_rfl) (by kernel_rfl) (fun _ _ _ h => h) (Or.inl ⟨by rfl, ?_⟩) ((And.intro x_fr_a4 (And.intro x_f_a4 c_el_a4))) ?_
          rotate_left
          · intro wq hSq
            go_simp
            exact rfl
          try simp only [Act.put, List.setIfInBounds_toArray, List.set_cons_zero, List.set_cons_succ]
          refine takeH 15 112 (v := ?va15_15) rfl (by rfl) (by kernel_rfl) (by kernel_rfl) (by kernel_rfl) (fun _ _ _ h => h) (Or.inl ⟨by rfl, ?_⟩) ((And.intro x_fr_a4 (And.intro x_f_a4 c_el_a4))) ?_
          rotate_left
          · intro wq hSq
            go_simp
            exact rfl
          try simp only [Act.put, List.setIfInBounds_toArray, List.set_cons_zero, List.set_cons_succ]
          refine takeH 16 113 (v := ?va16_16) rfl (by rfl) (by kernel_rfl) (by kernel_rfl) (by kernel_rfl) (fun _ _ _ h => h) (Or.inl ⟨by rfl, ?_⟩) ((And.intro x_fr_a4 (And.intro x_f_a4 c_el_a4))) ?_
          rotate_left
          · intro wq hSq
            go_simp
            exact rfl
          try simp only [Act.put, List.setIfInBounds_toArray, List.set_cons_zero, List.set_cons_succ]
          refine takeH 17 114 (v := ?va17_17) rfl (by rfl) (by kernel_rfl) (by kernel_rfl) (by kernel_rfl) (fun _ _ _ h => h) (Or.inl ⟨by rfl, ?_⟩) ((And.intro x_fr_a4 (And.intro x_f_a4 c_el_a4))) ?_
          rotate_left
          · intro wq hSq
            go_simp
            exact rfl
          try simp only [Act.put, List.setIfInBounds_toArray, List.set_cons_zero, List.set_cons_succ]
          refine takeH 18 115 (v := ?va18_18) rfl (by rfl) (by kernel_rfl) (by kernel_rfl) (by kernel_rfl) (fun _ _ _ h => h) (Or.inl ⟨by rfl, ?_⟩) ((And.intro x_fr_a4 (And.intro x_f_a4 c_el_a4))) ?_
          rotate_left
          · intro wq hSq
            go_simp
            exact rfl
          try simp only [Act.put, List.setIfInBounds_toArray, List.set_cons_zero, List.set_cons_succ]
          refine takeH 19 116 (v := ?va19_19) rfl (by rfl) (by kernel_rfl) (by kernel_rfl) (by kernel_rfl) (fun _ _ _ h => h) (Or.inl ⟨by rfl, ?_⟩) ((And.intro x_fr_a4 (And.intro x_f_a4 c_el_a4))) ?_
          rotate_left
          · intro wq hSq
            go_simp
            exact rfl
          try simp only [Act.put, List.setIfInBounds_toArray, List.set_cons_zero, List.set_cons_succ]
          refine takeH 21 118 (v := ?va21_20) rfl (by rfl) (by kernel_rfl) (by kernel_rfl) (by kernel_rfl) (fun _ _ _ h => h) (Or.inl ⟨by rfl, ?_⟩) ((And.intro x_fr_a4 (And.intro x_f_a4 c_el_a4))) ?_
          rotate_left
          · intro wq hSq
            go_simp
            exact rfl
          try simp only [Act.put, List.setIfInBounds_toArray, List.set_cons_zero, List.set_cons_succ]
          refine takeH 22 119 (v := ?va22_21) rfl (by rfl) (by kernel_rfl) (by kernel_rfl) (by kernel_rfl) (fun _ _ _ h => h) (Or.inl ⟨by rfl, ?_⟩) ((And.intro x_fr_a4 (And.intro x_f_a4 c_el_a4))) ?_
          rotate_left
          · intro wq hSq
            go_simp
            exact rfl
          try simp only [Act.put, List.setIfInBounds_toArray, List.set_cons_zero, List.set_cons_succ]
          refine takeH 23 120 (v := ?va23_22) rfl (by rfl) (by kernel_rfl) (by kernel_rfl) (by kernel_rfl) (fun _ _ _ h => h) (Or.inl ⟨by rfl, ?_⟩) ((And.intro x_fr_a4 (And.intro x_f_a4 c_el_a4))) ?_
          rotate_left
          · intro wq hSq
            go_simp
            exact rfl
          try simp only [Act.put, List.setIfInBounds_toArray, List.set_cons_zero, List.set_cons_succ]
          refine takeH 20 117 (v := .agg (C).toArray) rfl (by rfl) (by kernel_rfl) (by kernel_rfl) (by kernel_rfl) (fun _ _ _ h => h) (yieldsIf_load_mid (by rfl) _ _ rfl _ _ rfl (C) _ (fun wq hq => Box.range (hq.2.1)) Try.underlying26 rfl SC.out) ((And.intro x_fr_a4 (And.intro x_f_a4 c_el_a4))) ?_
          try simp only [Act.put, List.setIfInBounds_toArray, List.set_cons_zero, List.set_cons_succ]
          refine takeH 24 121 (v := .agg (C).toArray) rfl (by rfl) (by kernel_rfl) (by kernel_rfl) (by kernel_rfl) (fun _ _ _ h => h) (yieldsIf_load_mid (by rfl) _ _ rfl _ _ rfl (C) _ (fun wq hq => hq.2.2) Try.underlying26 rfl SC.out) ((And.intro x_fr_a4 (And.intro x_f_a4 c_el_a4))) ?_
          try simp only [Act.put, List.setIfInBounds_toArray, List.set_cons_zero, List.set_cons_succ]
          refine takeH 25 122 (v := ?va25_23) rfl (by rfl) (by kernel_rfl) (by kernel_rfl) (by kernel_rfl) (fun _ _ _ h => h) (Or.inl ⟨by rfl, ?_⟩) ((And.intro x_fr_a4 (And.intro x_f_a4 c_el_a4))) ?_
          rotate_left
          · intro wq hSq
            go_simp
            exact rfl
          try simp only [Act.put, List.setIfInBounds_toArray, List.set_cons_zero, List.set_cons_succ]
          refine takeH 26 123 (v := ?va26_24) rfl (by rfl) (by kernel_rfl) (by kernel_rfl) (by kernel_rfl) (fun _ _ _ h => h) (Or.inl ⟨by rfl, ?_⟩) ((And.intro x_fr_a4 (And.intro x_f_a4 c_el_a4))) ?_
          rotate_left
          · intro wq hSq
            go_simp
            exact rfl
          try simp only [Act.put, List.setIfInBounds_toArray, List.set_cons_zero, List.set_cons_succ]
          refine wpAnyH_done (by kernel_rfl) ?_ _
          have hBn := below_thru hBq Ba4
          clear c_el_a4 x_f_a4
          go_wp2_with fail
          go_roundw
          case rel => exact ⟨j + 1, by go_num, by omega, hBn, x_fr_a4⟩
          case measure => simp [intOf]; omega
        · have dj : decide ((j : Int) < 5) = false := decide_eq_false (by omega)
          clear hlt hj hWr hFR
          have hB2 := hBq; have hs2 := hB2.size; clear hBq
          go_upto_region 17 with fail
          refine F_gen (F := fun W => Code.wp _ _ _ _ W) (J := fun W => Box W (wr.heap.size) (flatR LP badR) ∧ Below w.heap.size w W) (And.intro (Box.newc rfl rfl) (hB2.alloc (by first | exact hs2 | (simp; omega)) _)) ?_
          intro wg ⟨x_bd3, hB3⟩
          clear hB2 hs2
          have hs3 := hB3.size
          obtain ⟨bB, hbB⟩ : ∃ b, wr.heap.size = b := ⟨_, rfl⟩; rw [hbB] at x_bd3 ⊢; clear hbB
          obtain ⟨BR, hBR⟩ : ∃ V, flatR LP badR = V := ⟨_, rfl⟩; rw [hBR] at x_bd3
          go_wp2_with fail
          go_loopw [12] (fun s12 wr => ∃ j : Nat, s12 = .int .i64 j ∧ j ≤ 12 ∧ Below w.heap.size w wr ∧ Box wr bB BR) (fun s12 _ => 12 - (intOf s12).toNat)
          case atStart => exact ⟨0, rfl, by omega, hB3, x_bd3⟩
          case round =>
            clear x_bd3 hB3 hs3
            obtain ⟨j, rfl, hj, hBq, hWb⟩ := hrel
            by_cases hlt : j < 12
            · obtain ⟨c, hc⟩ : ∃ c, badR[j]? = some c := ⟨_, List.getElem?_eq_getElem hlt⟩
              have hok := badR_no c (List.mem_of_getElem? hc); obtain ⟨R, DR⟩ := rep_at hc; rw [hBR] at DR; have DR := Lib.hid DR; have i0 : (0 : Int) ≤ (j : Int) := (by omega); have i1 : (j : Int) < 12 := (by omega); have SC := Lib.hid (size_rep c)
              have WF := fun W => pwr_is c (xs := []) (q := 8) (Or.inr ⟨rfl, hok, rfl⟩) W; have CK := fun W => chk_is c (q := 8) (Lib.hid (Or.inr ⟨rfl, hok⟩)) W; obtain ⟨C, hC⟩ : ∃ V, c.v = V := ⟨_, rfl⟩; rw [hC] at WF CK DR SC; clear hC hok hc
              have hB0 := Below.refl wr.heap.size wr
              have hs0 := hB0.size
              have x_bd0 : Box wr (bB) (BR) := hWb
              clear hWb
              go_wp2_with (refine wpList_load_rangew rfl _ _ rfl (Box.rangeMid x_bd0 (j * 6) (C) (R) DR.out) rfl Try.underlying26 rfl SC.out ?_)
              refine (WF _).mono ?_
              rintro e w1 ⟨va, rfl, hoa, hb⟩
              clear WF hoa
              have hB1 : Below wr.heap.size wr w1 := below_thru hB0 hb
              have hs1 := hB1.size
              have x_bd1 : Box w1 (bB) (BR) := Box.below x_bd0 hb
              clear hB0 hs0 x_bd0
              clear hb
              go_wp2_with (refine wpList_load_rangew rfl _ _ rfl (Box.rangeMid x_bd1 (j * 6) (C) (R) DR.out) rfl Try.underlying26 rfl SC.out ?_)
              refine (CK _).mono ?_
              rintro e w2 ⟨rfl, hb⟩
              clear CK
              have hB2 : Below wr.heap.size wr w2 := below_thru hB1 hb
              have hs2 := hB2.size
              have x_bd2 : Box w2 (bB) (BR) := Box.below x_bd1 hb
              clear hB1 hs1 x_bd1
              clear hb
              have hBn := below_thru hBq hB2
              go_wp2_with fail
              go_roundw
              case rel => exact ⟨j + 1, by go_num, by omega, hBn, x_bd2⟩
              case measure => simp [intOf]; omega
            · have dj2 : decide ((j : Int) < 12) = false := decide_eq_false (by omega)
              clear hlt hj hWb hBR
              have hB4 := hBq; have hs4 := hB4.size; clear hBq
              have GV := fun W => given10_is W; have WG := fun W => pwr_is gvn (xs := gb10) (q := 0) (Or.inl ⟨rfl, gvn_ok, gvn_bs.symm⟩) W; have LG : Hid (gb10.length = 32) := Lib.hid rfl; have LX1 : Hid (gbx.length = 32) := Lib.hid rfl; have LY1 : Hid (gby.length = 32) := Lib.hid rfl
              have P31 := pparse_of (bs := gb10.take 31) (gb10_byts.take 31) (no_len (by decide)); have P33 := pparse_of (bs := gb10 ++ [0]) (gb10_byts.append z1_byts) (no_len (by decide)); have P0 := pparse_of (bs := []) (fun x h => by cases h) (no_len (by decide)); have PZ := pparse_of (bs := wt10) wt10_byts (no_first rfl); have PX := pparse_of (bs := gbx) gbx_byts (no_second (by decide)); have PY := pparse_of (bs := gby) gby_byts (no_last (by decide))
              unfold PReads at P31 P33 P0 PZ PX PY
              have mk32 : ∀ W : World, (Instr.makeSlice 31 (.int .i64 32) (.int .i64 32)).run Try.prog W = .ok (.slice (some ⟨W.heap.size, 0, none⟩) 32 32) (W.alloc (.cells (wt10.map (Value.int .u8)).toArray 5)) := fun W => make_bytes 32 (by omega) W; have i32 := fun (W : World) => (IsL.built (w := W) (k := .u8) (t := 5) wt10 rfl rfl rfl rfl (by decide) : IsL _ .u8 (.slice (some ⟨W.heap.size, 0, none⟩) 32 32) _)
              have EX : Hid (gbx.map (Value.int .u8) = (gb10.map (Value.int .u8)).set 1 (.int .u8 1)) := Lib.hid rfl; obtain ⟨GM, EM⟩ : ∃ G, Hid (G = (gbx.map (Value.int .u8)).set 1 (.int .u8 0)) := ⟨_, Lib.hid rfl⟩; have EYY : Hid (gby.map (Value.int .u8) = GM.set 31 (.int .u8 1)) := Lib.hid (by rw [EM.out]; rfl); have NM : Hid (GM.length = 32) := Lib.hid (by rw [EM.out]; rfl)
              have SZ := Lib.hid (size_rep Rep.zero); have OZ := Lib.hid (one_rep Rep.zero); obtain ⟨ZF, hZF⟩ : ∃ V, Rep.zero.v = V := ⟨_, rfl⟩; have LZ : Hid (Rep.zero.v.length = ZF.length) := Lib.hid (by rw [hZF]); rw [hZF] at P31 P33 P0 PZ PX PY SZ OZ; clear hZF
              go_wp2_with fail
              refine (GV _).mono ?_
              rintro e w5 ⟨rfl, hb⟩
              clear GV
              have hB5 : Below w.heap.size w w5 := below_thru hB4 hb
              have hs5 := hB5.size
              clear hB4 hs4
              clear hb
              have hz9 := hs5
              go_wp2_with fail
              refine (WG _).mono ?_
              rintro e w6 ⟨va, rfl, hoa, hb⟩
              clear WG
              have hB6 : Below w.heap.size w w6 := below_thru hB5 hb
              have hs6 := hB6.size
              clear hB5 hs5
              clear hb
              obtain ⟨gb, cb, rfl, hgb, lo_b, hi_b, hbx⟩ := own_box hoa (by decide); rw [LG.out] at lo_b; have low_b : w.heap.size ≤ gb := (by omega); have HBX := Lib.hid hbx; clear hoa hgb hz9 hbx
              have x_b6 : Box w6 (gb) (gb10.map (Value.int .u8)) := HBX.out
              clear HBX
              go_wp2_with fail
              refine (P31 _ _ ((IsL.range (xs := gb10) 32 cb rfl x_b6.range (by omega) (by omega)).taken (m := 31) (by decide))).mono ?_
              rintro e w7 ⟨rfl, hb⟩
              clear P31
              have hB7 : Below w.heap.size w w7 := below_thru hB6 hb
              have hs7 := hB7.size
              have x_b7 : Box w7 (gb) (gb10.map (Value.int .u8)) := Box.below x_b6 hb
              clear hB6 hs6 x_b6
              clear hb
              have d_h0_b := (x_b7).lt
              have d_h0_0 := hs7
              go_upto_region 27 with (refine wpList_store_box (cs := ZF) rfl _ _ _ rfl (Box.newc (l := Rep.zero.v) rfl rfl) rfl rfl SZ.out LZ.out OZ.out ?_; intro W7_0 hW7_0)
              have hN : Below w7.heap.size w7 W7_0 := (hW7_0.below _ _ (by omega) ((Below.refl _ w7).alloc (Nat.le_refl _) _))
              have x_h08 : Box W7_0 (w7.heap.size) (ZF) := hW7_0.box
              have hB8 : Below w.heap.size w W7_0 := below_thru hB7 hN
              have hs8 := hB8.size
              have x_b8 : Box W7_0 (gb) (gb10.map (Value.int .u8)) := Box.below x_b7 hN
              clear hB7 hs7 x_b7
              clear hN hW7_0
              clear x_h08
              have HO := World.ownsRow_lit (base := W7_0.heap.size) (size := 1) (e := 5) W7_0 #[] 0 (Nat.le_refl _) (by unfold maxLen; omega) rfl; have JB := IsL.range (xs := gb10) 32 cb rfl x_b8.range (by omega) (by omega)
              go_wp2_with (first | (at_builtin; refine wpList_append_ints rfl _ _ 31 rfl W7_0.heap.size 5 tu (.int .u8 0) 1 .u8 Try.underlying31 hun hu0 hu1 hu2 rfl _ (0 + gb10.length) _ rfl O92 _ 1 [0] rfl ((IsL.built [0] rfl rfl rfl rfl (by simp)).ints) (fun h => by cases h) (by unfold maxLen; rw [LG.out]; decide) (by rw [LG.out]; decide) (by simp; omega) ?_; intro v92 a92 hown92 hgr92) | (at_builtin; refine wpList_append_ints rfl _ _ 31 rfl W7_0.heap.size 5 tu (.int .u8 0) 1 .u8 Try.underlying31 hun hu0 hu1 hu2 rfl _ 0 _ rfl HO (some ⟨gb, 0, none⟩) cb gb10 rfl ((JB.alloc _).ints) (fun h => by cases h) (by unfold maxLen; rw [LG.out]; decide) (by rw [LG.out]; decide) (by simp) ?_; intro v91 a91 hown91 hgr91; have BA : Below W7_0.heap.size W7_0 a91 := ((Below.refl _ _).alloc (Nat.le_refl _) _).grown hgr91 (by simp) (own_block HO); have zA := BA.size; have O92 := ownR_below hown91 ((Below.refl _ _).alloc (Nat.le_refl _) (.cells #[.int .u8 0] 5))))
              have BA2 : Below W7_0.heap.size W7_0 a92 := (BA.alloc zA _).grown hgr92 (by simp; omega) (ownR_block O92)
              have J33 : IsL a92 .u8 v92 (gb10 ++ [0]) := IsL.own (xs := gb10 ++ [0]) (n := 0 + gb10.length + 1) (by have h9 := hown92; rw [List.nil_append, ← List.map_append] at h9; exact h9) rfl
              refine (P33 _ _ J33).mono ?_
              rintro e w40 ⟨rfl, hb0⟩
              have hb := below_thru BA2 hb0; clear J33 P33 HO JB hown91 hgr91 hown92 hgr92 BA BA2 zA O92 hb0
              have hB9 : Below w.heap.size w w40 := below_thru hB8 hb
              have hs9 := hB9.size
              have x_b9 : Box w40 (gb) (gb10.map (Value.int .u8)) := Box.below x_b8 hb
              clear hB8 hs8 x_b8
              clear hb
              have d_h1_b := (x_b9).lt
              have d_h1_0 := hs9
              go_upto_region 28 with (refine wpList_store_box (cs := ZF) rfl _ _ _ rfl (Box.newc (l := Rep.zero.v) rfl rfl) rfl rfl SZ.out LZ.out OZ.out ?_; intro W9_0 hW9_0)
              have hN : Below w40.heap.size w40 W9_0 := (hW9_0.below _ _ (by omega) ((Below.refl _ w40).alloc (Nat.le_refl _) _))
              have x_h110 : Box W9_0 (w40.heap.size) (ZF) := hW9_0.box
              have hB10 : Below w.heap.size w W9_0 := below_thru hB9 hN
              have hs10 := hB10.size
              have x_b10 : Box W9_0 (gb) (gb10.map (Value.int .u8)) := Box.below x_b9 hN
              clear hB9 hs9 x_b9
              clear hN hW9_0
              clear x_h110
              go_wp2_with fail
              refine (P0 _ _ IsL.none).mono ?_
              rintro e w11 ⟨rfl, hb⟩
              clear P0
              have hB11 : Below w.heap.size w w11 := below_thru hB10 hb
              have hs11 := hB11.size
              have x_b11 : Box w11 (gb) (gb10.map (Value.int .u8)) := Box.below x_b10 hb
              clear hB10 hs10 x_b10
              clear hb
              have d_h2_b := (x_b11).lt
              have d_h2_0 := hs11
              go_upto_region 29 with (refine wpList_store_box (cs := ZF) rfl _ _ _ rfl (Box.newc (l := Rep.zero.v) rfl rfl) rfl rfl SZ.out LZ.out OZ.out ?_; intro W11_0 hW11_0)
              have hN : Below w11.heap.size w11 W11_0 := (hW11_0.below _ _ (by omega) ((Below.refl _ w11).alloc (Nat.le_refl _) _))
              have x_h212 : Box W11_0 (w11.heap.size) (ZF) := hW11_0.box
              have hB12 : Below w.heap.size w W11_0 := below_thru hB11 hN
              have hs12 := hB12.size
              have x_b12 : Box W11_0 (gb) (gb10.map (Value.int .u8)) := Box.below x_b11 hN
              clear hB11 hs11 x_b11
              clear hN hW11_0
              clear x_h212
              have hbm := ((Below.refl W11_0.heap.size W11_0).alloc (Nat.le_refl _) (.cells (wt10.map (Value.int .u8)).toArray 5))
              go_wp2_with fail
              refine (PZ _ _ (i32 _)).mono ?_
              rintro e w50 ⟨rfl, hb0⟩
              have hb := below_thru hbm hb0; clear hbm hb0 PZ i32 mk32
              have hB13 : Below w.heap.size w w50 := below_thru hB12 hb
              have hs13 := hB13.size
              have x_b13 : Box w50 (gb) (gb10.map (Value.int .u8)) := Box.below x_b12 hb
              clear hB12 hs12 x_b12
              clear hb
              have d_h3_b := (x_b13).lt
              have d_h3_0 := hs13
              go_upto_region 30 with (refine wpList_store_box (cs := ZF) rfl _ _ _ rfl (Box.newc (l := Rep.zero.v) rfl rfl) rfl rfl SZ.out LZ.out OZ.out ?_; intro W13_0 hW13_0)
              have hN : Below w50.heap.size w50 W13_0 := (hW13_0.below _ _ (by omega) ((Below.refl _ w50).alloc (Nat.le_refl _) _))
              have x_h314 : Box W13_0 (w50.heap.size) (ZF) := hW13_0.box
              have hB14 : Below w.heap.size w W13_0 := below_thru hB13 hN
              have hs14 := hB14.size
              have x_b14 : Box W13_0 (gb) (gb10.map (Value.int .u8)) := Box.below x_b13 hN
              clear hB13 hs13 x_b13
              clear hN hW13_0
              clear x_h314
              have lq_b := (x_b14).lt
              go_upto_region 31 with (first | (refine wpList_store_cell (k := 1) (ws := gbx.map (Value.int .u8)) (v := .int .u8 1) rfl _ _ _ rfl x_b14 rfl rfl rfl rfl size_u8n (by rw [List.length_map, LG.out]; decide) EX.out ?_; intro S14_0 hS14_0))
              have x_b15 := hS14_0.box
              have hB15 := (hS14_0.below _ _ (by omega) hB14); have hs15 := hB15.size
              clear x_b14 hB14 hs14 lq_b
              clear hS14_0
              go_wp2_with fail
              refine (PX _ _ (IsL.range (xs := gbx) 32 cb rfl x_b15.range (by omega) (by omega))).mono ?_
              rintro e w16 ⟨rfl, hb⟩
              clear PX
              have hB16 : Below w.heap.size w w16 := below_thru hB15 hb
              have hs16 := hB16.size
              have x_b16 : Box w16 (gb) (gbx.map (Value.int .u8)) := Box.below x_b15 hb
              clear hB15 hs15 x_b15
              clear hb
              have d_h4_b := (x_b16).lt
              have d_h4_0 := hs16
              go_upto_region 32 with (refine wpList_store_box (cs := ZF) rfl _ _ _ rfl (Box.newc (l := Rep.zero.v) rfl rfl) rfl rfl SZ.out LZ.out OZ.out ?_; intro W16_0 hW16_0)
              have hN : Below w16.heap.size w16 W16_0 := (hW16_0.below _ _ (by omega) ((Below.refl _ w16).alloc (Nat.le_refl _) _))
              have x_h417 : Box W16_0 (w16.heap.size) (ZF) := hW16_0.box
              have hB17 : Below w.heap.size w W16_0 := below_thru hB16 hN
              have hs17 := hB17.size
              have x_b17 : Box W16_0 (gb) (gbx.map (Value.int .u8)) := Box.below x_b16 hN
              clear hB16 hs16 x_b16
              clear hN hW16_0
              clear x_h417
              have lq_b := (x_b17).lt
              go_upto_region 33 with (first | (refine wpList_store_cell (k := 1) (ws := GM) (v := .int .u8 0) rfl _ _ _ rfl x_b17 rfl rfl rfl rfl size_u8n (by rw [List.length_map, LX1.out]; decide) EM.out ?_; intro S17_0 hS17_0) | (refine wpList_store_cell (k := 31) (ws := gby.map (Value.int .u8)) (v := .int .u8 1) rfl _ _ _ rfl hS17_0.box rfl rfl rfl rfl size_u8n (by rw [NM.out]; decide) EYY.out ?_; intro S17_1 hS17_1))
              have x_b18 := hS17_1.box
              have hB18 := (hS17_1.below _ _ (by omega) (hS17_0.below _ _ (by omega) hB17)); have hs18 := hB18.size
              clear x_b17 hB17 hs17 lq_b
              clear hS17_0 hS17_1
              go_wp2_with fail
              refine (PY _ _ (IsL.range (xs := gby) 32 cb rfl x_b18.range (by omega) (by omega))).mono ?_
              rintro e w19 ⟨rfl, hb⟩
              clear PY
              have hB19 : Below w.heap.size w w19 := below_thru hB18 hb
              have hs19 := hB19.size
              have x_b19 : Box w19 (gb) (gby.map (Value.int .u8)) := Box.below x_b18 hb
              clear hB18 hs18 x_b18
              clear hb
              clear x_b19
              have d_h5_0 := hs19
              go_upto_region 34 with (refine wpList_store_box (cs := ZF) rfl _ _ _ rfl (Box.newc (l := Rep.zero.v) rfl rfl) rfl rfl SZ.out LZ.out OZ.out ?_; intro W19_0 hW19_0)
              have hN : Below w19.heap.size w19 W19_0 := (hW19_0.below _ _ (by omega) ((Below.refl _ w19).alloc (Nat.le_refl _) _))
              have x_h520 : Box W19_0 (w19.heap.size) (ZF) := hW19_0.box
              have hB20 : Below w.heap.size w W19_0 := below_thru hB19 hN
              have hs20 := hB20.size
              clear hB19 hs19
              clear hN hW19_0
              clear x_h520
              go_wp2_with fail
              refine (alive10_is _).mono ?_
              rintro e w21 ⟨rfl, hb⟩
              have hB21 : Below w.heap.size w w21 := below_thru hB20 hb
              have hs21 := hB21.size
              clear hB20 hs20
              clear hb
              go_wp2_with fail
              go_returns
              exact ⟨rfl, hB21⟩

end Go.Proofs.Ytipkgflonioacaa
