/-
  The reference of layer 12, walked: bare, plain, tokenAt, commandAt.
-/
import Derived.Test.YtpccahdbienjeaaDoorIdMath
import Derived.Test.YtpccahdbienjeaaDoorGX1
import Derived.Test.YtpccahdbienjeaaDoorGB1
namespace Go.Proofs.YtpccahdbienjeaaDoor
open Go.RowKit

theorem zd32_12 : zeroD.length = 32 := by decide
def zT12 : List Value := tcell Nums.zero zeroD
theorem build_d12 (W : World) : (Instr.build 29 #[]).run Tryd.prog W = .ok (.agg (zeroD.map (Value.int .u8)).toArray) W := by kernel_rfl
theorem size32_12 : (Tryd.prog.info? 29).map (·.size) = some 32 := by kernel_rfl
theorem size_d12 : (Tryd.prog.info? 29).map (·.size) = some (zeroD.map (Value.int .u8)).length := by rw [List.length_map, zd32_12]; exact size32_12
theorem bare_p (t : Tk) : 4 + (zeroD.map (Value.int .u8)).length ≤ t.v.length := by rw [List.length_map, zd32_12, t.v_len]; decide
theorem bare_w (t : Tk) : t.bare.v = t.v.take 4 ++ zeroD.map (Value.int .u8) ++ t.v.drop (4 + (zeroD.map (Value.int .u8)).length) := by
  rw [List.drop_eq_nil_of_le (by rw [t.v_len, List.length_map, zd32_12]; decide), List.append_nil]
  rfl
theorem plain_p (t : Cmd) : 15 + (zeroD.map (Value.int .u8)).length ≤ (ccell t).length := by rw [List.length_map, zd32_12, ccell_len]; decide
theorem plain_w (t : Cmd) : (ccell t.bare) = (ccell t).take 15 ++ zeroD.map (Value.int .u8) ++ (ccell t).drop (15 + (zeroD.map (Value.int .u8)).length) := by
  rw [List.drop_eq_nil_of_le (by rw [ccell_len, List.length_map, zd32_12]; decide), List.append_nil]
  rfl

set_option maxRecDepth 100000 in
set_option maxHeartbeats 6400000 in
theorem rbare_is (t : Tk) (w : World) : Calls Tryd.prog 39 #[(.agg t.v.toArray)] w fun e w' => e = .returned (.agg t.bare.v.toArray) ∧ Below w.heap.size w w' := by
  have BZ := fun W => build_d12 W; have SZ := Lib.hid size_d12; have OZ := Lib.hid (oneCell_ints (k := .u8) zeroD)
  have SV := Lib.hid (size_tk t); have SU := Lib.hid (size_tk t.bare); have LU : Hid ((zT12).length = (t.bare.v).length) := Lib.hid (show zT12.length = t.bare.v.length by rw [t.bare.v_len]; exact tcell_len Nums.zero zd32_12); have OU := Lib.hid (one_tk t.bare)
  have P1 := Lib.hid (bare_p t); have P2 := Lib.hid (bare_w t)
  obtain ⟨Z, hZ⟩ : ∃ X, zeroD.map (Value.int .u8) = X := ⟨_, rfl⟩
  rw [hZ] at BZ SZ OZ P1 P2
  clear hZ
  obtain ⟨U, hU⟩ : ∃ X, t.bare.v = X := ⟨_, rfl⟩
  rw [hU] at SU LU OU P2 ⊢
  clear hU
  obtain ⟨V, hV⟩ : ∃ X, t.v = X := ⟨_, rfl⟩
  rw [hV] at SV P1 P2 ⊢
  clear hV
  go_enter Tryd.func39, Tryd.ntmps39
  go_upto_region 1 with fail
  refine F_gen (F := fun W => Code.wp _ _ _ _ W) (J := fun W => Box W (w.heap.size) (V) ∧ Box W (w.heap.size + 1) (zT12) ∧ Below w.heap.size w W) (And.intro (Box.alloc (Box.newc rfl rfl) _) (And.intro (Box.newc rfl (by simp)) (by go_grown))) ?_
  intro w0 ⟨e_t, e_r, hB0⟩
  have hs0 := hB0.size
  have x_t0 := e_t; clear e_t
  have x_r0 := e_r; clear e_r
  have lr_t := (x_t0).lt
  have lr_r := (x_r0).lt
  go_upto_region 2 with (first | (refine wpList_build9 rfl 29 _ rfl (us := #[]) (by rfl) (BZ _) ?_) | (refine wpList_store_part (cs := Z) (ws := U) rfl _ _ _ rfl x_t0 rfl rfl SZ.out P1.out P2.out OZ.out ?_; intro W8 hW8))
  have x_r1 : Box W8 (w.heap.size + 1) (zT12) := hW8.past _ _ (by omega) x_r0
  have x_t1 : Box W8 (w.heap.size) (U) := hW8.box
  have hB1 : Below w.heap.size w W8 := hW8.below _ _ (by omega) hB0
  have hs1 := hB1.size
  clear hW8 hB0 hs0 x_t0 x_r0 lr_t lr_r 
  have lq := (x_r1).lt
  go_wp2_with (first | (refine wpList_load_box9 rfl _ _ rfl x_t1 rfl Tryd.underlying31 rfl SU.out ?_) | (refine wpList_store_box (cs := U) rfl _ _ _ rfl x_r1 rfl rfl SU.out LU.out OU.out ?_; intro W99 hW99))
  exact bodyPost_ret (results_box Tryd.results39 hW99.box rfl Tryd.underlying31 rfl SU.out) rfl ⟨rfl, hW99.below _ _ (by omega) hB1⟩

set_option maxRecDepth 100000 in
set_option maxHeartbeats 6400000 in
theorem rplain_is (t : Cmd) (w : World) : Calls Tryd.prog 38 #[(.agg (ccell t).toArray)] w fun e w' => e = .returned (.agg (ccell t.bare).toArray) ∧ Below w.heap.size w w' := by
  have BZ := fun W => build_d12 W; have SZ := Lib.hid size_d12; have OZ := Lib.hid (oneCell_ints (k := .u8) zeroD)
  have SV := Lib.hid (size_cmd t); have SU := Lib.hid (size_cmd t.bare); have LU : Hid ((ccell Cmd.zero).length = ((ccell t.bare)).length) := Lib.hid (len_cmd Cmd.zero t.bare); have OU := Lib.hid (one_cmd t.bare)
  have P1 := Lib.hid (plain_p t); have P2 := Lib.hid (plain_w t)
  obtain ⟨Z, hZ⟩ : ∃ X, zeroD.map (Value.int .u8) = X := ⟨_, rfl⟩
  rw [hZ] at BZ SZ OZ P1 P2
  clear hZ
  obtain ⟨U, hU⟩ : ∃ X, (ccell t.bare) = X := ⟨_, rfl⟩
  rw [hU] at SU LU OU P2 ⊢
  clear hU
  obtain ⟨V, hV⟩ : ∃ X, (ccell t) = X := ⟨_, rfl⟩
  rw [hV] at SV P1 P2 ⊢
  clear hV
  go_enter Tryd.func38, Tryd.ntmps38
  go_upto_region 1 with fail
  refine F_gen (F := fun W => Code.wp _ _ _ _ W) (J := fun W => Box W (w.heap.size) (V) ∧ Box W (w.heap.size + 1) (ccell Cmd.zero) ∧ Below w.heap.size w W) (And.intro (Box.alloc (Box.newc rfl rfl) _) (And.intro (Box.newc rfl (by simp)) (by go_grown))) ?_
  intro w0 ⟨e_t, e_r, hB0⟩
  have hs0 := hB0.size
  have x_t0 := e_t; clear e_t
  have x_r0 := e_r; clear e_r
  have lr_t := (x_t0).lt
  have lr_r := (x_r0).lt
  go_upto_region 2 with (first | (refine wpList_build9 rfl 29 _ rfl (us := #[]) (by rfl) (BZ _) ?_) | (refine wpList_store_part (cs := Z) (ws := U) rfl _ _ _ rfl x_t0 rfl rfl SZ.out P1.out P2.out OZ.out ?_; intro W8 hW8))
  have x_r1 : Box W8 (w.heap.size + 1) (ccell Cmd.zero) := hW8.past _ _ (by omega) x_r0
  have x_t1 : Box W8 (w.heap.size) (U) := hW8.box
  have hB1 : Below w.heap.size w W8 := hW8.below _ _ (by omega) hB0
  have hs1 := hB1.size
  clear hW8 hB0 hs0 x_t0 x_r0 lr_t lr_r 
  have lq := (x_r1).lt
  go_wp2_with (first | (refine wpList_load_box9 rfl _ _ rfl x_t1 rfl Tryd.underlying39 rfl SU.out ?_) | (refine wpList_store_box (cs := U) rfl _ _ _ rfl x_r1 rfl rfl SU.out LU.out OU.out ?_; intro W99 hW99))
  exact bodyPost_ret (results_box Tryd.results38 hW99.box rfl Tryd.underlying39 rfl SU.out) rfl ⟨rfl, hW99.below _ _ (by omega) hB1⟩

set_option maxRecDepth 100000 in
set_option maxHeartbeats 6400000 in
theorem rtat_is {v : Value} {l : List Tk} (t : Tk) {i : Int} (w : World) (h1 : IsR LT w v l) (hF : Fnd (fun u : Tk => u.bare = t.bare) l i) : Calls Tryd.prog 24 #[v, (.agg t.v.toArray)] w fun e w' => e = .returned (.int .i64 i) ∧ Below w.heap.size w w' := by
  obtain ⟨a1, c1, rfl, hr1⟩ := id h1
  have m1 := hr1.most; have r1 := hr1.room; have H1 := Lib.hid h1; have HF := Lib.hid hF
  clear h1 hr1 hF
  have BT := fun W => rbare_is t W; have SV := Lib.hid (size_tk t)
  obtain ⟨V, hV⟩ : ∃ X, t.v = X := ⟨_, rfl⟩
  rw [hV] at BT SV ⊢
  clear hV
  go_enter Tryd.func24, Tryd.ntmps24
  go_upto_region 1 with fail
  refine F_gen (F := fun W => Code.wp _ _ _ _ W) (J := fun W => Box W (w.heap.size) (V) ∧ Below w.heap.size w W) (And.intro (Box.newc rfl rfl) (by go_grown)) ?_
  intro w0 ⟨e_t, hB0⟩
  have hs0 := hB0.size
  have x_t0 := e_t; clear e_t
  go_wp2_with fail
  go_loopw [5] (fun i5 wr => ∃ k : Nat, k ≤ l.length ∧ i5 = .int .i64 k ∧ Hid (NoUpto (fun u : Tk => u.bare = t.bare) l k) ∧ Box wr (w.heap.size) V ∧ Below w.heap.size w wr) (fun i5 _ => l.length - (intOf i5).toNat)
  case atStart => exact ⟨0, Nat.zero_le _, rfl, Lib.hid (NoUpto.zero _ _), x_t0, hB0⟩
  case round =>
    clear x_t0 hB0 hs0
    obtain ⟨k, hk, rfl, HE, x_t, hB⟩ := hrel
    have hs := hB.size
    by_cases hlt : k < l.length
    · obtain ⟨b1, o1, rfl, hR1⟩ := H1.out.get 36 rfl (List.getElem?_eq_getElem hlt)
      have x1 := range_below hR1 hB
      have HS := Lib.hid (fun hp => HE.out.succ hlt hp); have HH := Lib.hid (fun hp => HE.out.here hlt hp)
      obtain ⟨f, hf⟩ : ∃ f, l[k] = f := ⟨_, rfl⟩
      rw [hf] at x1 HS HH
      obtain ⟨q, hq⟩ := bool_of (f.bare = t.bare)
      have EQ := fun W => eq_tk (s := f.bare) (t := t.bare) hq W
      have BF := fun W => rbare_is f W; have SF := Lib.hid (size_tk f)
      obtain ⟨UT, hUT⟩ : ∃ X, t.bare.v = X := ⟨_, rfl⟩; obtain ⟨UF, hUF⟩ : ∃ X, f.bare.v = X := ⟨_, rfl⟩; obtain ⟨VF, hVF⟩ : ∃ X, f.v = X := ⟨_, rfl⟩
      rw [show LT.f f = VF from hVF] at x1; rw [hVF] at BF SF; rw [hUT] at BT EQ; rw [hUF] at BF EQ
      clear hR1 hf hUT hUF hVF
      have i0 : (0 : Int) ≤ (k : Int) := (by omega); have i1 : (k : Int) < (l.length : Int) := (by omega)
      cases q with
      | true =>
        have HX := Lib.hid (show (k : Int) = i from (HH.out (hq.1 rfl)).uniq HF.out)
        clear hq HS HH HE
        go_upto_region 4 with fail
        refine wp_region_held_drew (S := fun w' => w'.rangeAt b1 (o1 + k * 36) VF ∧ Box w' w.heap.size V) (by kernel_rfl) ⟨range_below x1 ((Below.refl _ _).drew), x_t.drew⟩ (fun _ => ?_)
        refine F_drew (F := fun W => wpAnyH _ _ _ _ _ _ _ _ W) ?_
        intro W0 hb0
        have hx0 := And.intro (range_below x1 hb0) (Box.below x_t hb0); have hB0 := below_thru hB hb0
        clear x1 x_t hB hb0 hs
        refine takeH 0 12 (v := ?vs0_1) rfl (by rfl) (by kernel_rfl) (by kernel_rfl) (by kernel_rfl) (fun _ _ _ h => h) (Or.inl ⟨by rfl, ?_⟩) (hx0) ?_
        rotate_left
        · intro wq hSq
          go_simp
          exact rfl
        try simp only [Act.put, List.setIfInBounds_toArray, List.set_cons_zero, List.set_cons_succ]
        refine takeH 1 13 (v := ?vs1_2) rfl (by rfl) (by kernel_rfl) (by kernel_rfl) (by kernel_rfl) (fun _ _ _ h => h) (Or.inl ⟨by rfl, ?_⟩) (hx0) ?_
        rotate_left
        · intro wq hSq
          go_simp
          exact rfl
        try simp only [Act.put, List.setIfInBounds_toArray, List.set_cons_zero, List.set_cons_succ]
        refine takeH 2 14 (v := ?vs2_3) rfl (by rfl) (by kernel_rfl) (by kernel_rfl) (by kernel_rfl) (fun _ _ _ h => h) (Or.inl ⟨by rfl, ?_⟩) (hx0) ?_
        rotate_left
        · intro wq hSq
          go_simp
          exact rfl
        try simp only [Act.put, List.setIfInBounds_toArray, List.set_cons_zero, List.set_cons_succ]
        refine takeH 3 15 (v := .agg VF.toArray) rfl (by rfl) (by kernel_rfl) (by kernel_rfl) (by kernel_rfl) (fun _ _ _ h => h) (yieldsIf_load_mid (by rfl) _ _ rfl _ _ rfl VF _ (fun wq hq => hq.1) Tryd.underlying31 rfl SF.out) (hx0) ?_
        try simp only [Act.put, List.setIfInBounds_toArray, List.set_cons_zero, List.set_cons_succ]
        refine takeH 5 17 (v := .agg V.toArray) rfl (by rfl) (by kernel_rfl) (by kernel_rfl) (by kernel_rfl) (fun _ _ _ h => h) (yieldsIf_load_mid (by rfl) _ _ rfl _ _ rfl V _ (fun wq hq => Box.range hq.2) Tryd.underlying31 rfl SV.out) (hx0) ?_
        try simp only [Act.put, List.setIfInBounds_toArray, List.set_cons_zero, List.set_cons_succ]
        refine wpAnyH_ready (rs := [4]) (by kernel_rfl) (by simp) (AllReadyH.cons rfl (fun K hK => ?_) AllReadyH.nil)
        go_simp
        refine (BF _).mono ?_
        rintro e W4 ⟨rfl, hb4⟩
        have hx4 := And.intro (range_below hx0.1 hb4) (Box.below hx0.2 hb4); have hB4 := below_thru hB0 hb4
        clear hx0 hB0 hb4
        refine hK.out _ _ hx4 (fun _ => ?_); clear hK
        refine wpAnyH_ready (rs := [6]) (by kernel_rfl) (by simp) (AllReadyH.cons rfl (fun K hK => ?_) AllReadyH.nil)
        go_simp
        refine (BT _).mono ?_
        rintro e W5 ⟨rfl, hb5⟩
        have hx5 := And.intro (range_below hx4.1 hb5) (Box.below hx4.2 hb5); have hB5 := below_thru hB4 hb5
        clear hx4 hB4 hb5
        refine hK.out _ _ hx5 (fun _ => ?_); clear hK
        refine takeH 7 19 (v := ?vs7_6) rfl (by rfl) (by kernel_rfl) (by kernel_rfl) (by kernel_rfl) (fun _ _ _ h => h) (Or.inl ⟨by rfl, ?_⟩) (hx5) ?_
        rotate_left
        · intro wq hSq
          go_simp
          exact rfl
        try simp only [Act.put, List.setIfInBounds_toArray, List.set_cons_zero, List.set_cons_succ]
        refine wpAnyH_done (by kernel_rfl) ?_ _
        go_wp2_with fail
        go_returns
        exact ⟨ret_i12 HX.out, hB5⟩
      | false =>
        have HN := Lib.hid (HS.out (fun e => Bool.false_ne_true (hq.2 e)))
        clear hq HS HH HE
        go_upto_region 4 with fail
        refine wp_region_held_drew (S := fun w' => w'.rangeAt b1 (o1 + k * 36) VF ∧ Box w' w.heap.size V) (by kernel_rfl) ⟨range_below x1 ((Below.refl _ _).drew), x_t.drew⟩ (fun _ => ?_)
        refine F_drew (F := fun W => wpAnyH _ _ _ _ _ _ _ _ W) ?_
        intro W0 hb0
        have hx0 := And.intro (range_below x1 hb0) (Box.below x_t hb0); have hB0 := below_thru hB hb0
        clear x1 x_t hB hb0 hs
        refine takeH 0 12 (v := ?vu0_1) rfl (by rfl) (by kernel_rfl) (by kernel_rfl) (by kernel_rfl) (fun _ _ _ h => h) (Or.inl ⟨by rfl, ?_⟩) (hx0) ?_
        rotate_left
        · intro wq hSq
          go_simp
          exact rfl
        try simp only [Act.put, List.setIfInBounds_toArray, List.set_cons_zero, List.set_cons_succ]
        refine takeH 1 13 (v := ?vu1_2) rfl (by rfl) (by kernel_rfl) (by kernel_rfl) (by kernel_rfl) (fun _ _ _ h => h) (Or.inl ⟨by rfl, ?_⟩) (hx0) ?_
        rotate_left
        · intro wq hSq
          go_simp
          exact rfl
        try simp only [Act.put, List.setIfInBounds_toArray, List.set_cons_zero, List.set_cons_succ]
        refine takeH 2 14 (v := ?vu2_3) rfl (by rfl) (by kernel_rfl) (by kernel_rfl) (by kernel_rfl) (fun _ _ _ h => h) (Or.inl ⟨by rfl, ?_⟩) (hx0) ?_
        rotate_left
        · intro wq hSq
          go_simp
          exact rfl
        try simp only [Act.put, List.setIfInBounds_toArray, List.set_cons_zero, List.set_cons_succ]
        refine takeH 3 15 (v := .agg VF.toArray) rfl (by rfl) (by kernel_rfl) (by kernel_rfl) (by kernel_rfl) (fun _ _ _ h => h) (yieldsIf_load_mid (by rfl) _ _ rfl _ _ rfl VF _ (fun wq hq => hq.1) Tryd.underlying31 rfl SF.out) (hx0) ?_
        try simp only [Act.put, List.setIfInBounds_toArray, List.set_cons_zero, List.set_cons_succ]
        refine takeH 5 17 (v := .agg V.toArray) rfl (by rfl) (by kernel_rfl) (by kernel_rfl) (by kernel_rfl) (fun _ _ _ h => h) (yieldsIf_load_mid (by rfl) _ _ rfl _ _ rfl V _ (fun wq hq => Box.range hq.2) Tryd.underlying31 rfl SV.out) (hx0) ?_
        try simp only [Act.put, List.setIfInBounds_toArray, List.set_cons_zero, List.set_cons_succ]
        refine wpAnyH_ready (rs := [4]) (by kernel_rfl) (by simp) (AllReadyH.cons rfl (fun K hK => ?_) AllReadyH.nil)
        go_simp
        refine (BF _).mono ?_
        rintro e W4 ⟨rfl, hb4⟩
        have hx4 := And.intro (range_below hx0.1 hb4) (Box.below hx0.2 hb4); have hB4 := below_thru hB0 hb4
        clear hx0 hB0 hb4
        refine hK.out _ _ hx4 (fun _ => ?_); clear hK
        refine wpAnyH_ready (rs := [6]) (by kernel_rfl) (by simp) (AllReadyH.cons rfl (fun K hK => ?_) AllReadyH.nil)
        go_simp
        refine (BT _).mono ?_
        rintro e W5 ⟨rfl, hb5⟩
        have hx5 := And.intro (range_below hx4.1 hb5) (Box.below hx4.2 hb5); have hB5 := below_thru hB4 hb5
        clear hx4 hB4 hb5
        refine hK.out _ _ hx5 (fun _ => ?_); clear hK
        refine takeH 7 19 (v := ?vu7_6) rfl (by rfl) (by kernel_rfl) (by kernel_rfl) (by kernel_rfl) (fun _ _ _ h => h) (Or.inl ⟨by rfl, ?_⟩) (hx5) ?_
        rotate_left
        · intro wq hSq
          go_simp
          exact rfl
        try simp only [Act.put, List.setIfInBounds_toArray, List.set_cons_zero, List.set_cons_succ]
        refine wpAnyH_done (by kernel_rfl) ?_ _
        go_wp2_with fail
        go_roundw
        case rel => exact ⟨k + 1, by omega, by go_num, HN, hx5.2, hB5⟩
        case measure => simp [intOf]; omega
    · have HX := Lib.hid (show (-1 : Int) = i from (HE.out.all (by omega)).uniq HF.out)
      go_wp2_with fail
      go_returns
      exact ⟨ret_i12 HX.out, hB⟩

set_option maxRecDepth 100000 in
set_option maxHeartbeats 6400000 in
theorem rcat_is {v : Value} {l : List Cmd} (t : Cmd) {i : Int} (w : World) (h1 : IsR LC w v l) (hF : Fnd (fun u : Cmd => u.bare = t.bare) l i) : Calls Tryd.prog 23 #[v, (.agg (ccell t).toArray)] w fun e w' => e = .returned (.int .i64 i) ∧ Below w.heap.size w w' := by
  obtain ⟨a1, c1, rfl, hr1⟩ := id h1
  have m1 := hr1.most; have r1 := hr1.room; have H1 := Lib.hid h1; have HF := Lib.hid hF
  clear h1 hr1 hF
  have BT := fun W => rplain_is t W; have SV := Lib.hid (size_cmd t)
  obtain ⟨V, hV⟩ : ∃ X, (ccell t) = X := ⟨_, rfl⟩
  rw [hV] at BT SV ⊢
  clear hV
  go_enter Tryd.func23, Tryd.ntmps23
  go_upto_region 1 with fail
  refine F_gen (F := fun W => Code.wp _ _ _ _ W) (J := fun W => Box W (w.heap.size) (V) ∧ Below w.heap.size w W) (And.intro (Box.newc rfl rfl) (by go_grown)) ?_
  intro w0 ⟨e_t, hB0⟩
  have hs0 := hB0.size
  have x_t0 := e_t; clear e_t
  go_wp2_with fail
  go_loopw [5] (fun i5 wr => ∃ k : Nat, k ≤ l.length ∧ i5 = .int .i64 k ∧ Hid (NoUpto (fun u : Cmd => u.bare = t.bare) l k) ∧ Box wr (w.heap.size) V ∧ Below w.heap.size w wr) (fun i5 _ => l.length - (intOf i5).toNat)
  case atStart => exact ⟨0, Nat.zero_le _, rfl, Lib.hid (NoUpto.zero _ _), x_t0, hB0⟩
  case round =>
    clear x_t0 hB0 hs0
    obtain ⟨k, hk, rfl, HE, x_t, hB⟩ := hrel
    have hs := hB.size
    by_cases hlt : k < l.length
    · obtain ⟨b1, o1, rfl, hR1⟩ := H1.out.get 47 rfl (List.getElem?_eq_getElem hlt)
      have x1 := range_below hR1 hB
      have HS := Lib.hid (fun hp => HE.out.succ hlt hp); have HH := Lib.hid (fun hp => HE.out.here hlt hp)
      obtain ⟨f, hf⟩ : ∃ f, l[k] = f := ⟨_, rfl⟩
      rw [hf] at x1 HS HH
      obtain ⟨q, hq⟩ := bool_of (f.bare = t.bare)
      have EQ := fun W => eq_cm (c := f.bare) (d := t.bare) hq W
      have BF := fun W => rplain_is f W; have SF := Lib.hid (size_cmd f)
      obtain ⟨UT, hUT⟩ : ∃ X, (ccell t.bare) = X := ⟨_, rfl⟩; obtain ⟨UF, hUF⟩ : ∃ X, (ccell f.bare) = X := ⟨_, rfl⟩; obtain ⟨VF, hVF⟩ : ∃ X, (ccell f) = X := ⟨_, rfl⟩
      rw [show LC.f f = VF from hVF] at x1; rw [hVF] at BF SF; rw [hUT] at BT EQ; rw [hUF] at BF EQ
      clear hR1 hf hUT hUF hVF
      have i0 : (0 : Int) ≤ (k : Int) := (by omega); have i1 : (k : Int) < (l.length : Int) := (by omega)
      cases q with
      | true =>
        have HX := Lib.hid (show (k : Int) = i from (HH.out (hq.1 rfl)).uniq HF.out)
        clear hq HS HH HE
        go_upto_region 4 with fail
        refine wp_region_held_drew (S := fun w' => w'.rangeAt b1 (o1 + k * 47) VF ∧ Box w' w.heap.size V) (by kernel_rfl) ⟨range_below x1 ((Below.refl _ _).drew), x_t.drew⟩ (fun _ => ?_)
        refine F_drew (F := fun W => wpAnyH _ _ _ _ _ _ _ _ W) ?_
        intro W0 hb0
        have hx0 := And.intro (range_below x1 hb0) (Box.below x_t hb0); have hB0 := below_thru hB hb0
        clear x1 x_t hB hb0 hs
        refine takeH 0 12 (v := ?vs0_1) rfl (by rfl) (by kernel_rfl) (by kernel_rfl) (by kernel_rfl) (fun _ _ _ h => h) (Or.inl ⟨by rfl, ?_⟩) (hx0) ?_
        rotate_left
        · intro wq hSq
          go_simp
          exact rfl
        try simp only [Act.put, List.setIfInBounds_toArray, List.set_cons_zero, List.set_cons_succ]
        refine takeH 1 13 (v := ?vs1_2) rfl (by rfl) (by kernel_rfl) (by kernel_rfl) (by kernel_rfl) (fun _ _ _ h => h) (Or.inl ⟨by rfl, ?_⟩) (hx0) ?_
        rotate_left
        · intro wq hSq
          go_simp
          exact rfl
        try simp only [Act.put, List.setIfInBounds_toArray, List.set_cons_zero, List.set_cons_succ]
        refine takeH 2 14 (v := ?vs2_3) rfl (by rfl) (by kernel_rfl) (by kernel_rfl) (by kernel_rfl) (fun _ _ _ h => h) (Or.inl ⟨by rfl, ?_⟩) (hx0) ?_
        rotate_left
        · intro wq hSq
          go_simp
          exact rfl
        try simp only [Act.put, List.setIfInBounds_toArray, List.set_cons_zero, List.set_cons_succ]
        refine takeH 3 15 (v := .agg VF.toArray) rfl (by rfl) (by kernel_rfl) (by kernel_rfl) (by kernel_rfl) (fun _ _ _ h => h) (yieldsIf_load_mid (by rfl) _ _ rfl _ _ rfl VF _ (fun wq hq => hq.1) Tryd.underlying39 rfl SF.out) (hx0) ?_
        try simp only [Act.put, List.setIfInBounds_toArray, List.set_cons_zero, List.set_cons_succ]
        refine takeH 5 17 (v := .agg V.toArray) rfl (by rfl) (by kernel_rfl) (by kernel_rfl) (by kernel_rfl) (fun _ _ _ h => h) (yieldsIf_load_mid (by rfl) _ _ rfl _ _ rfl V _ (fun wq hq => Box.range hq.2) Tryd.underlying39 rfl SV.out) (hx0) ?_
        try simp only [Act.put, List.setIfInBounds_toArray, List.set_cons_zero, List.set_cons_succ]
        refine wpAnyH_ready (rs := [4]) (by kernel_rfl) (by simp) (AllReadyH.cons rfl (fun K hK => ?_) AllReadyH.nil)
        go_simp
        refine (BF _).mono ?_
        rintro e W4 ⟨rfl, hb4⟩
        have hx4 := And.intro (range_below hx0.1 hb4) (Box.below hx0.2 hb4); have hB4 := below_thru hB0 hb4
        clear hx0 hB0 hb4
        refine hK.out _ _ hx4 (fun _ => ?_); clear hK
        refine wpAnyH_ready (rs := [6]) (by kernel_rfl) (by simp) (AllReadyH.cons rfl (fun K hK => ?_) AllReadyH.nil)
        go_simp
        refine (BT _).mono ?_
        rintro e W5 ⟨rfl, hb5⟩
        have hx5 := And.intro (range_below hx4.1 hb5) (Box.below hx4.2 hb5); have hB5 := below_thru hB4 hb5
        clear hx4 hB4 hb5
        refine hK.out _ _ hx5 (fun _ => ?_); clear hK
        refine takeH 7 19 (v := ?vs7_6) rfl (by rfl) (by kernel_rfl) (by kernel_rfl) (by kernel_rfl) (fun _ _ _ h => h) (Or.inl ⟨by rfl, ?_⟩) (hx5) ?_
        rotate_left
        · intro wq hSq
          go_simp
          exact rfl
        try simp only [Act.put, List.setIfInBounds_toArray, List.set_cons_zero, List.set_cons_succ]
        refine wpAnyH_done (by kernel_rfl) ?_ _
        go_wp2_with fail
        go_returns
        exact ⟨ret_i12 HX.out, hB5⟩
      | false =>
        have HN := Lib.hid (HS.out (fun e => Bool.false_ne_true (hq.2 e)))
        clear hq HS HH HE
        go_upto_region 4 with fail
        refine wp_region_held_drew (S := fun w' => w'.rangeAt b1 (o1 + k * 47) VF ∧ Box w' w.heap.size V) (by kernel_rfl) ⟨range_below x1 ((Below.refl _ _).drew), x_t.drew⟩ (fun _ => ?_)
        refine F_drew (F := fun W => wpAnyH _ _ _ _ _ _ _ _ W) ?_
        intro W0 hb0
        have hx0 := And.intro (range_below x1 hb0) (Box.below x_t hb0); have hB0 := below_thru hB hb0
        clear x1 x_t hB hb0 hs
        refine takeH 0 12 (v := ?vu0_1) rfl (by rfl) (by kernel_rfl) (by kernel_rfl) (by kernel_rfl) (fun _ _ _ h => h) (Or.inl ⟨by rfl, ?_⟩) (hx0) ?_
        rotate_left
        · intro wq hSq
          go_simp
          exact rfl
        try simp only [Act.put, List.setIfInBounds_toArray, List.set_cons_zero, List.set_cons_succ]
        refine takeH 1 13 (v := ?vu1_2) rfl (by rfl) (by kernel_rfl) (by kernel_rfl) (by kernel_rfl) (fun _ _ _ h => h) (Or.inl ⟨by rfl, ?_⟩) (hx0) ?_
        rotate_left
        · intro wq hSq
          go_simp
          exact rfl
        try simp only [Act.put, List.setIfInBounds_toArray, List.set_cons_zero, List.set_cons_succ]
        refine takeH 2 14 (v := ?vu2_3) rfl (by rfl) (by kernel_rfl) (by kernel_rfl) (by kernel_rfl) (fun _ _ _ h => h) (Or.inl ⟨by rfl, ?_⟩) (hx0) ?_
        rotate_left
        · intro wq hSq
          go_simp
          exact rfl
        try simp only [Act.put, List.setIfInBounds_toArray, List.set_cons_zero, List.set_cons_succ]
        refine takeH 3 15 (v := .agg VF.toArray) rfl (by rfl) (by kernel_rfl) (by kernel_rfl) (by kernel_rfl) (fun _ _ _ h => h) (yieldsIf_load_mid (by rfl) _ _ rfl _ _ rfl VF _ (fun wq hq => hq.1) Tryd.underlying39 rfl SF.out) (hx0) ?_
        try simp only [Act.put, List.setIfInBounds_toArray, List.set_cons_zero, List.set_cons_succ]
        refine takeH 5 17 (v := .agg V.toArray) rfl (by rfl) (by kernel_rfl) (by kernel_rfl) (by kernel_rfl) (fun _ _ _ h => h) (yieldsIf_load_mid (by rfl) _ _ rfl _ _ rfl V _ (fun wq hq => Box.range hq.2) Tryd.underlying39 rfl SV.out) (hx0) ?_
        try simp only [Act.put, List.setIfInBounds_toArray, List.set_cons_zero, List.set_cons_succ]
        refine wpAnyH_ready (rs := [4]) (by kernel_rfl) (by simp) (AllReadyH.cons rfl (fun K hK => ?_) AllReadyH.nil)
        go_simp
        refine (BF _).mono ?_
        rintro e W4 ⟨rfl, hb4⟩
        have hx4 := And.intro (range_below hx0.1 hb4) (Box.below hx0.2 hb4); have hB4 := below_thru hB0 hb4
        clear hx0 hB0 hb4
        refine hK.out _ _ hx4 (fun _ => ?_); clear hK
        refine wpAnyH_ready (rs := [6]) (by kernel_rfl) (by simp) (AllReadyH.cons rfl (fun K hK => ?_) AllReadyH.nil)
        go_simp
        refine (BT _).mono ?_
        rintro e W5 ⟨rfl, hb5⟩
        have hx5 := And.intro (range_below hx4.1 hb5) (Box.below hx4.2 hb5); have hB5 := below_thru hB4 hb5
        clear hx4 hB4 hb5
        refine hK.out _ _ hx5 (fun _ => ?_); clear hK
        refine takeH 7 19 (v := ?vu7_6) rfl (by rfl) (by kernel_rfl) (by kernel_rfl) (by kernel_rfl) (fun _ _ _ h => h) (Or.inl ⟨by rfl, ?_⟩) (hx5) ?_
        rotate_left
        · intro wq hSq
          go_simp
          exact rfl
        try simp only [Act.put, List.setIfInBounds_toArray, List.set_cons_zero, List.set_cons_succ]
        refine wpAnyH_done (by kernel_rfl) ?_ _
        go_wp2_with fail
        go_roundw
        case rel => exact ⟨k + 1, by omega, by go_num, HN, hx5.2, hB5⟩
        case measure => simp [intOf]; omega
    · have HX := Lib.hid (show (-1 : Int) = i from (HE.out.all (by omega)).uniq HF.out)
      go_wp2_with fail
      go_returns
      exact ⟨ret_i12 HX.out, hB⟩


end Go.Proofs.YtpccahdbienjeaaDoor
