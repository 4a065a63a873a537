/-
  FieldBack, walked.
-/
import Derived.Test.YtpjonhfphfkdiaaRea07
namespace Go.Proofs.Ytpjonhfphfkdiaa
open Go.RowKit

set_option maxRecDepth 100000 in
set_option maxHeartbeats 6400000 in
theorem back_neg {v u t : Value} {fs : List Fd} {ks bs : List Int} (w : World) (h1 : IsR LF w v fs) (h2 : IsL w .u8 u ks) (h3 : IsL w .u8 t bs) (hkb : Byts ks) (hbb : Byts bs) (hl : ¬ 60 < fs.length) (hm : ¬ 60 < ks.length) (hn : ¬ 1500 < bs.length) (q1 : ¬ rowE fs = 0) : Calls Try.prog 6 #[v, u, t] w fun e w' => e = .returned (.bool true) ∧ Below w.heap.size w w' := by
  obtain ⟨a0, c0, rfl, hr0⟩ := id h1
  have i1 := hr0.room
  have i2 := hr0.most
  obtain ⟨a1, c1, rfl, hr1, _⟩ := id h2
  have j1 := hr1.room
  have j2 := hr1.most
  obtain ⟨a2, c2, rfl, hr2, _⟩ := id h3
  have k1 := hr2.room
  have k2 := hr2.most
  have HF := Lib.hid h1
  have HK := Lib.hid h2
  have HB := Lib.hid h3
  have A := fun (W : World) (a b : Value) (h1 : IsL W .u8 a ks) (h2 : IsL W .u8 b bs) => read_is W h1 h2 hkb hbb
  have r0 := rea_zero hkb hbb
  have r1 := rea_cases ks bs
  obtain ⟨F, hF⟩ : ∃ F, reaF ks bs = F := ⟨_, rfl⟩
  obtain ⟨E, hE⟩ : ∃ E, reaE ks bs = E := ⟨_, rfl⟩
  rw [hF, hE] at A r0
  rw [hE] at r1
  have HR0 := Lib.hid r0
  have HR1 := Lib.hid r1
  clear hr0 hr1 hr2 h1 h2 h3 hkb hbb hF hE r0 r1
  have d1 : decide ((60 : Int) < (fs.length : Int)) = false := decide_eq_false (by omega)
  have d2 : decide ((60 : Int) < (ks.length : Int)) = false := decide_eq_false (by omega)
  have d3 : decide ((1500 : Int) < (bs.length : Int)) = false := decide_eq_false (by omega)
  have R := fun (W : World) (h : IsR LF W (.slice a0 fs.length c0) fs) => rrow_is W h
  obtain ⟨r, hr⟩ : ∃ r, rowE fs = r := ⟨_, rfl⟩
  rw [hr] at R q1
  have d4 : (r == 0) = false := by simpa using q1
  clear hr q1 hl hm hn
  go_enter Try.func6, Try.ntmps6
  go_wp2_with fail
  refine (R _ HF.out).mono ?_
  rintro e wt ⟨rfl, hBt⟩
  have HKt := Lib.hid (HK.out.below hBt)
  have HBt := Lib.hid (HB.out.below hBt)
  clear R HF HK HB
  have Ht := hBt.size
  by_cases hz : E = 0
  · obtain ⟨er, ev, ek⟩ := HR0.out hz
    rw [hz] at A
    have WM := fun (W : World) (a : Value) (h : IsR LF W a F) => write_is W h
    rw [rowV_ok er, er, ev] at WM
    have KM := fun (W : World) (a : Value) (h : IsR LF W a F) => rkinds_is W h (by have := (rowE_zero er).1; omega)
    rw [ek] at KM
    clear er ev ek hz
    go_wp2_with fail
    refine (A _ _ _ HKt.out HBt.out).mono ?_
    rintro e y1 ⟨vm, rfl, hom, hb1⟩
    have hM := IsR.own hom rfl rfl
    have HM1 := Lib.hid hM
    have HK1 := Lib.hid (HKt.out.below hb1)
    have HB1 := Lib.hid (HBt.out.below hb1)
    have hB1 := below_thru hBt hb1
    clear hom hM hb1 HKt HBt hBt Ht A
    go_wp2_with fail
    refine (WM _ _ HM1.out).mono ?_
    rintro e y2 ⟨vc, rfl, hc2, hb2⟩
    have HM2 := Lib.hid (HM1.out.below hb2)
    have HK2 := Lib.hid (HK1.out.below hb2)
    have HB2 := Lib.hid (HB1.out.below hb2)
    have HC2 := Lib.hid hc2
    have hB2 := below_thru hB1 hb2
    clear hc2 hb2 HM1 HK1 HB1 hB1 WM
    go_wp2_with fail
    refine (KM _ _ HM2.out).mono ?_
    rintro e y3 ⟨vk, rfl, hk3, hb3⟩
    have HK3 := Lib.hid (HK2.out.below hb3)
    have HB3 := Lib.hid (HB2.out.below hb3)
    have HC3 := Lib.hid (HC2.out.below hb3)
    have hB3 := below_thru hB2 hb3
    clear hb3 HM2 HK2 HB2 HC2 hB2 KM
    go_wp2_with fail
    refine (sameb_tt _ hk3 HK3.out).mono ?_
    rintro e y4 ⟨rfl, hb4⟩
    go_wp2_with fail
    refine (sameb_tt _ (HC3.out.below hb4) (HB3.out.below hb4)).mono ?_
    rintro e y5 ⟨rfl, hb5⟩
    go_wp2_with fail
    refine (alive_is _).mono ?_
    rintro e y6 ⟨rfl, hb6⟩
    go_wp2_with fail
    go_returns
    exact ⟨rfl, below_thru (below_thru (below_thru hB3 hb4) hb5) hb6⟩
  · have hne : (E != 0) = true := by simpa using hz
    rcases HR1.out with q | q | q | q
    · exact absurd q hz
    all_goals
      subst q
      clear hne hz
      go_wp2_with fail
      refine (A _ _ _ HKt.out HBt.out).mono ?_
      rintro e y1 ⟨vm, rfl, hom, hb1⟩
      go_wp2_with fail
      refine (alive_is _).mono ?_
      rintro e y6 ⟨rfl, hb6⟩
      go_wp2_with fail
      go_returns
      exact ⟨rfl, below_thru (below_thru hBt hb1) hb6⟩

set_option maxRecDepth 100000 in
set_option maxHeartbeats 6400000 in
theorem back_posA {v u t : Value} {fs : List Fd} {ks bs : List Int} (w : World) (h1 : IsR LF w v fs) (h2 : IsL w .u8 u ks) (h3 : IsL w .u8 t bs) (hkb : Byts ks) (hbb : Byts bs) (hl : ¬ 60 < fs.length) (hm : ¬ 60 < ks.length) (hn : ¬ 1500 < bs.length) (q1 : rowE fs = 0) (hp : 0 < (rowB fs).length) : Calls Try.prog 6 #[v, u, t] w fun e w' => e = .returned (.bool true) ∧ Below w.heap.size w w' := by
  obtain ⟨a0, c0, rfl, hr0⟩ := id h1
  have i1 := hr0.room
  have i2 := hr0.most
  obtain ⟨a1, c1, rfl, hr1, _⟩ := id h2
  have j1 := hr1.room
  have j2 := hr1.most
  obtain ⟨a2, c2, rfl, hr2, _⟩ := id h3
  have k1 := hr2.room
  have k2 := hr2.most
  have HF := Lib.hid h1
  have HK := Lib.hid h2
  have HB := Lib.hid h3
  have A := fun (W : World) (a b : Value) (h1 : IsL W .u8 a ks) (h2 : IsL W .u8 b bs) => read_is W h1 h2 hkb hbb
  have r0 := rea_zero hkb hbb
  have r1 := rea_cases ks bs
  obtain ⟨F, hF⟩ : ∃ F, reaF ks bs = F := ⟨_, rfl⟩
  obtain ⟨E, hE⟩ : ∃ E, reaE ks bs = E := ⟨_, rfl⟩
  rw [hF, hE] at A r0
  rw [hE] at r1
  have HR0 := Lib.hid r0
  have HR1 := Lib.hid r1
  clear hr0 hr1 hr2 h1 h2 h3 hkb hbb hF hE r0 r1
  have d1 : decide ((60 : Int) < (fs.length : Int)) = false := decide_eq_false (by omega)
  have d2 : decide ((60 : Int) < (ks.length : Int)) = false := decide_eq_false (by omega)
  have d3 : decide ((1500 : Int) < (bs.length : Int)) = false := decide_eq_false (by omega)
  have R := fun (W : World) (h : IsR LF W (.slice a0 fs.length c0) fs) => rrow_is W h
  rw [q1] at R
  have WR := fun (W : World) (h : IsR LF W (.slice a0 fs.length c0) fs) => write_is W h
  have SZ := fun (W : World) (h : IsR LF W (.slice a0 fs.length c0) fs) => size_is W h
  rw [rowV_ok q1, q1] at WR SZ
  have lf := (rowE_zero q1).1
  have KK := fun (W : World) (h : IsR LF W (.slice a0 fs.length c0) fs) => rkinds_is W h (by omega)
  have RB := fun (W : World) (a b : Value) (h1 : IsL W .u8 a (fs.map Fd.k)) (h2 : IsL W .u8 b (rowB fs)) => read_is W h1 h2 (kinds_byts fs) (rowB_byts fs)
  rw [(rea_row q1).1, (rea_row q1).2] at RB
  have RM := fun (W : World) (a b : Value) (h1 : IsL W .u8 a (fs.map Fd.k)) (h2 : IsL W .u8 b (rowB fs ++ [0])) => read_is W h1 h2 (kinds_byts fs) ((rowB_byts fs).append (fun x hx => by simp at hx; omega))
  rw [rea_more q1] at RM
  obtain ⟨F2, hF2⟩ : ∃ F2, reaF (fs.map Fd.k) (rowB fs ++ [0]) = F2 := ⟨_, rfl⟩
  rw [hF2] at RM
  have RL := fun (hp : 0 < (rowB fs).length) (W : World) (a b : Value) (h1 : IsL W .u8 a (fs.map Fd.k)) (h2 : IsL W .u8 b ((rowB fs).take ((rowB fs).length - 1))) => (read_is W h1 h2 (kinds_byts fs) ((rowB_byts fs).take _) : Calls Try.prog 14 #[a, b] W _)
  have rl : 0 < (rowB fs).length → reaE (fs.map Fd.k) ((rowB fs).take ((rowB fs).length - 1)) = 12 := fun hp => rea_less q1 ((rowB_byts fs).take _) (by rw [List.length_take]; omega)
  obtain ⟨F3, hF3⟩ : ∃ F3, reaF (fs.map Fd.k) ((rowB fs).take ((rowB fs).length - 1)) = F3 := ⟨_, rfl⟩
  rw [hF3] at RL
  have S := fun (W : World) (a b : Value) (h1 : IsR LF W a fs) (h2 : IsR LF W b fs) => rsame_is W h1 h2
  rw [show sameF fs fs = true from decide_eq_true rfl] at S
  have bf := rowB_le fs
  obtain ⟨X, hX⟩ : ∃ X, rowB fs = X := ⟨_, rfl⟩
  obtain ⟨K, hK⟩ : ∃ K, fs.map Fd.k = K := ⟨_, rfl⟩
  rw [hX] at WR SZ
  rw [hX, hK] at RB RM RL rl
  rw [hX] at bf hp
  rw [hK] at KK
  have xl : X.length ≤ 1280 := by omega
  have RL2 := Lib.hid (fun (hp : 0 < X.length) => by have := RL hp; rw [rl hp] at this; exact this)
  obtain ⟨ti, hin, hz0, hz1, hz2⟩ := info_parts info_u8'
  clear q1 hF2 hF3 hX hK bf hl hm hn RL rl
  go_enter Try.func6, Try.ntmps6
  go_wp2_with fail
  refine (R _ HF.out).mono ?_
  rintro e w1 ⟨rfl, hb1⟩
  have F1 := Lib.hid (HF.out.below hb1)
  go_wp2_with fail
  refine (WR _ F1.out).mono ?_
  rintro e w2 ⟨v2, rfl, hx2, hb2⟩
  have hB2 := below_thru hb1 hb2
  have G2 := Lib.hid (HF.out.below hB2)
  have X2 := Lib.hid hx2
  clear R WR F1 hx2 hb1 hb2
  go_wp2_with fail
  refine (SZ _ G2.out).mono ?_
  rintro e w3 ⟨rfl, hb3⟩
  have hB3 := below_thru hB2 hb3
  have G3 := Lib.hid (HF.out.below hB3)
  have X3 := Lib.hid (X2.out.below hb3)
  clear SZ G2 X2 hb3 hB2
  go_wp2_with fail
  refine (KK _ G3.out).mono ?_
  rintro e w4 ⟨v4, rfl, hk4, hb4⟩
  go_wp2_with fail
  refine (RB _ _ _ hk4 (X3.out.below hb4)).mono ?_
  rintro e w5 ⟨v5, rfl, ho5, hb5⟩
  have hg5 := below_thru hb4 hb5
  have hB5 := below_thru hB3 hg5
  have G5 := Lib.hid (HF.out.below hB5)
  have X5 := Lib.hid (X3.out.below hg5)
  have M5 := Lib.hid (IsR.own ho5 rfl rfl)
  clear RB hk4 hb4 ho5 hb5 hg5 hB3 G3 X3
  go_wp2_with fail
  refine (KK _ G5.out).mono ?_
  rintro e w6 ⟨v6, rfl, hk6, hb6⟩
  have hB6 := below_thru hB5 hb6
  have X6 := Lib.hid (X5.out.below hb6)
  have M6 := Lib.hid (M5.out.below hb6)
  have K6 := Lib.hid hk6
  have hs6 := hB6.size
  clear hk6 hb6 hB5 G5 X5 M5
  obtain ⟨a3, c3, rfl, hrx, _⟩ := id X6.out
  have m1 := hrx.room
  have m2 := hrx.most
  clear hrx
  go_wp2_with (first | (at_builtin; refine wpList_append_built rfl _ _ 33 rfl 5 ti (.int .u8 0) 1 .u8 Try.underlying33 hin hz0 hz1 hz2 rfl [] X _ (.slice a3 X.length c3) _ _ _ rfl rfl rfl rfl rfl rfl X6.out (by unfold maxLen; simp; omega) (by simp; omega) ?_; intro v7 w7 ho7 hb7) | (at_builtin; refine wpList_append_ints rfl _ _ 33 rfl w6.heap.size 5 ti (.int .u8 0) 1 .u8 Try.underlying33 hin hz0 hz1 hz2 rfl _ X.length _ rfl (ownR_below ho7 ((Below.refl w7.heap.size w7).alloc (Nat.le_refl _) (.cells #[.int .u8 0] 5))) _ 1 [0] rfl ((IsL.built [0] rfl rfl rfl rfl (by simp)).ints) (fun h => by cases h) (by unfold maxLen; simp; omega) (by simp; omega) (by have := hb7.size; simp; omega) ?_; intro v8 w8 ho8 hg8))
  have hb8 : Below w6.heap.size w6 w8 := (hb7.alloc hb7.size _).grown hg8 (by have := hb7.size; simp; omega) (own_block (ownR_below ho7 ((Below.refl w7.heap.size w7).alloc (Nat.le_refl _) (.cells #[.int .u8 0] 5))))
  have Z8 := Lib.hid (show IsL w8 .u8 v8 (X ++ [0]) from IsL.own (by rw [List.map_append]; exact ho8) (by rw [List.length_append]))
  have hB8 := below_thru hB6 hb8
  have X8 := Lib.hid (X6.out.below hb8)
  have M8 := Lib.hid (M6.out.below hb8)
  have K8 := Lib.hid (K6.out.below hb8)
  clear ho7 hb7 ho8 hg8 hB6 X6 M6 K6 hb8 hs6
  refine (RM _ _ _ K8.out Z8.out).mono ?_
  rintro e w9 ⟨v9, rfl, ho9, hb9⟩
  have hB9 := below_thru hB8 hb9
  have X9 := Lib.hid (X8.out.below hb9)
  have M9 := Lib.hid (M8.out.below hb9)
  have G9 := Lib.hid (HF.out.below hB9)
  clear RM ho9 hb9 hB8 X8 M8 K8 Z8
  go_wp2_with fail
  refine (S _ _ _ G9.out M9.out).mono ?_
  rintro e w10 ⟨rfl, hb10⟩
  have hB10 := below_thru hB9 hb10
  have X10 := Lib.hid (X9.out.below hb10)
  have G10 := Lib.hid (HF.out.below hB10)
  clear S hb10 hB9 X9 M9 G9
  have RL3 := RL2.out hp
  obtain ⟨M, hM⟩ : ∃ M, X.length - 1 = M := ⟨_, rfl⟩
  rw [hM] at RL3
  have hw5 : IntKind.i64.wrap ((X.length : Int) - 1) = (M : Int) := by rw [IntKind.wrap_i64]; omega
  have iM0 : (0 : Int) ≤ (M : Int) := by omega
  have iM1 : (M : Int) ≤ (c3 : Int) := by omega
  have dp : decide (0 < X.length) = true := decide_eq_true hp
  have XT := Lib.hid (X10.out.taken (m := M) (by omega))
  clear RL2
  go_upto_region 11 with fail
  refine wp_region_held_drew (S := fun _ => True) (by kernel_rfl) trivial (fun _ => ?_)
  refine F_drew (F := fun W => wpAnyH _ _ _ _ _ _ _ _ W) ?_
  intro W0 hb0
  have hB0 := below_thru hB10 hb0; have hx0 := XT.out.below hb0
  refine takeH 0 96 (v := ?vb0_1) rfl (by rfl) (by kernel_rfl) (by kernel_rfl) (by kernel_rfl) (fun _ _ _ h => h) (Or.inl ⟨by rfl, ?_⟩) (trivial) ?_
  rotate_left
  · intro wq hSq
    go_simp
    exact rfl
  try simp only [Act.put, List.setIfInBounds_toArray, List.set_cons_zero, List.set_cons_succ]
  refine takeH 2 98 (v := ?vb2_2) rfl (by rfl) (by kernel_rfl) (by kernel_rfl) (by kernel_rfl) (fun _ _ _ h => h) (Or.inl ⟨by rfl, ?_⟩) (trivial) ?_
  rotate_left
  · intro wq hSq
    go_simp
    exact rfl
  try simp only [Act.put, List.setIfInBounds_toArray, List.set_cons_zero, List.set_cons_succ]
  refine takeH 3 99 (v := ?vb3_3) rfl (by rfl) (by kernel_rfl) (by kernel_rfl) (by kernel_rfl) (fun _ _ _ h => h) (Or.inl ⟨by rfl, ?_⟩) (trivial) ?_
  rotate_left
  · intro wq hSq
    go_simp
    exact rfl
  try simp only [Act.put, List.setIfInBounds_toArray, List.set_cons_zero, List.set_cons_succ]
  refine takeH 4 100 (v := ?vb4_4) rfl (by rfl) (by kernel_rfl) (by kernel_rfl) (by kernel_rfl) (fun _ _ _ h => h) (Or.inl ⟨by rfl, ?_⟩) (trivial) ?_
  rotate_left
  · intro wq hSq
    go_simp
    exact rfl
  try simp only [Act.put, List.setIfInBounds_toArray, List.set_cons_zero, List.set_cons_succ]
  refine takeH 5 101 (v := ?vb5_5) rfl (by rfl) (by kernel_rfl) (by kernel_rfl) (by kernel_rfl) (fun _ _ _ h => h) (Or.inl ⟨by rfl, ?_⟩) (trivial) ?_
  rotate_left
  · intro wq hSq
    go_simp
    exact rfl
  try simp only [Act.put, List.setIfInBounds_toArray, List.set_cons_zero, List.set_cons_succ]
  refine takeH 6 102 (v := ?vb6_6) rfl (by rfl) (by kernel_rfl) (by kernel_rfl) (by kernel_rfl) (fun _ _ _ h => h) (Or.inl ⟨by rfl, ?_⟩) (trivial) ?_
  rotate_left
  · intro wq hSq
    go_simp
    exact rfl
  try simp only [Act.put, List.setIfInBounds_toArray, List.set_cons_zero, List.set_cons_succ]
  refine wpAnyH_ready (rs := [1]) (by kernel_rfl) (by simp) (AllReadyH.cons rfl (fun K hK => ?_) AllReadyH.nil)
  go_simp
  refine (KK _ (HF.out.below hB0)).mono ?_
  rintro e W7 ⟨vk, rfl, hkk, hb7⟩
  have hB7 := below_thru hB0 hb7; have hx7 := hx0.below hb7
  refine hK.out _ _ trivial (fun _ => ?_); clear hK K
  refine wpAnyH_ready (rs := [7]) (by kernel_rfl) (by simp) (AllReadyH.cons rfl (fun K hK => ?_) AllReadyH.nil)
  go_simp
  refine (RL3 _ _ _ hkk hx7).mono ?_
  rintro e W8 ⟨vr, rfl, hor, hb8⟩
  have hB8 := below_thru hB7 hb8
  refine hK.out _ _ trivial (fun _ => ?_); clear hK K
  refine takeH 8 95 (v := ?vb8_9) rfl (by rfl) (by kernel_rfl) (by kernel_rfl) (by kernel_rfl) (fun _ _ _ h => h) (Or.inl ⟨by rfl, ?_⟩) (trivial) ?_
  rotate_left
  · intro wq hSq
    go_simp
    exact rfl
  try simp only [Act.put, List.setIfInBounds_toArray, List.set_cons_zero, List.set_cons_succ]
  refine takeH 9 104 (v := ?vb9_10) rfl (by rfl) (by kernel_rfl) (by kernel_rfl) (by kernel_rfl) (fun _ _ _ h => h) (Or.inl ⟨by rfl, ?_⟩) (trivial) ?_
  rotate_left
  · intro wq hSq
    go_simp
    exact rfl
  try simp only [Act.put, List.setIfInBounds_toArray, List.set_cons_zero, List.set_cons_succ]
  refine takeH 10 105 (v := ?vb10_11) rfl (by rfl) (by kernel_rfl) (by kernel_rfl) (by kernel_rfl) (fun _ _ _ h => h) (Or.inl ⟨by rfl, ?_⟩) (trivial) ?_
  rotate_left
  · intro wq hSq
    go_simp
    exact rfl
  try simp only [Act.put, List.setIfInBounds_toArray, List.set_cons_zero, List.set_cons_succ]
  refine takeH 11 15 (v := ?vb11_12) rfl (by rfl) (by kernel_rfl) (by kernel_rfl) (by kernel_rfl) (fun _ _ _ h => h) (Or.inl ⟨by rfl, ?_⟩) (trivial) ?_
  rotate_left
  · intro wq hSq
    go_simp
    exact rfl
  try simp only [Act.put, List.setIfInBounds_toArray, List.set_cons_zero, List.set_cons_succ]
  refine takeH 12 16 (v := ?vb12_13) rfl (by rfl) (by kernel_rfl) (by kernel_rfl) (by kernel_rfl) (fun _ _ _ h => h) (Or.inl ⟨by rfl, ?_⟩) (trivial) ?_
  rotate_left
  · intro wq hSq
    go_simp
    exact rfl
  try simp only [Act.put, List.setIfInBounds_toArray, List.set_cons_zero, List.set_cons_succ]
  refine wpAnyH_done (by kernel_rfl) ?_ _
  obtain ⟨wt, hwt⟩ : ∃ wt, W8 = wt := ⟨_, rfl⟩
  subst hwt
  have hBt := hB8
  have HKt := Lib.hid (HK.out.below hBt)
  have HBt := Lib.hid (HB.out.below hBt)
  clear X10 G10 XT HF HK HB RL3
  have Ht := hBt.size
  by_cases hz : E = 0
  · obtain ⟨er, ev, ek⟩ := HR0.out hz
    rw [hz] at A
    have WM := fun (W : World) (a : Value) (h : IsR LF W a F) => write_is W h
    rw [rowV_ok er, er, ev] at WM
    have KM := fun (W : World) (a : Value) (h : IsR LF W a F) => rkinds_is W h (by have := (rowE_zero er).1; omega)
    rw [ek] at KM
    clear er ev ek hz
    go_wp2_with fail
    refine (A _ _ _ HKt.out HBt.out).mono ?_
    rintro e y1 ⟨vm, rfl, hom, hb1⟩
    have hM := IsR.own hom rfl rfl
    have HM1 := Lib.hid hM
    have HK1 := Lib.hid (HKt.out.below hb1)
    have HB1 := Lib.hid (HBt.out.below hb1)
    have hB1 := below_thru hBt hb1
    clear hom hM hb1 HKt HBt hBt Ht A
    go_wp2_with fail
    refine (WM _ _ HM1.out).mono ?_
    rintro e y2 ⟨vc, rfl, hc2, hb2⟩
    have HM2 := Lib.hid (HM1.out.below hb2)
    have HK2 := Lib.hid (HK1.out.below hb2)
    have HB2 := Lib.hid (HB1.out.below hb2)
    have HC2 := Lib.hid hc2
    have hB2 := below_thru hB1 hb2
    clear hc2 hb2 HM1 HK1 HB1 hB1 WM
    go_wp2_with fail
    refine (KM _ _ HM2.out).mono ?_
    rintro e y3 ⟨vk, rfl, hk3, hb3⟩
    have HK3 := Lib.hid (HK2.out.below hb3)
    have HB3 := Lib.hid (HB2.out.below hb3)
    have HC3 := Lib.hid (HC2.out.below hb3)
    have hB3 := below_thru hB2 hb3
    clear hb3 HM2 HK2 HB2 HC2 hB2 KM
    go_wp2_with fail
    refine (sameb_tt _ hk3 HK3.out).mono ?_
    rintro e y4 ⟨rfl, hb4⟩
    go_wp2_with fail
    refine (sameb_tt _ (HC3.out.below hb4) (HB3.out.below hb4)).mono ?_
    rintro e y5 ⟨rfl, hb5⟩
    go_wp2_with fail
    refine (alive_is _).mono ?_
    rintro e y6 ⟨rfl, hb6⟩
    go_wp2_with fail
    go_returns
    exact ⟨rfl, below_thru (below_thru (below_thru hB3 hb4) hb5) hb6⟩
  · have hne : (E != 0) = true := by simpa using hz
    rcases HR1.out with q | q | q | q
    · exact absurd q hz
    all_goals
      subst q
      clear hne hz
      go_wp2_with fail
      refine (A _ _ _ HKt.out HBt.out).mono ?_
      rintro e y1 ⟨vm, rfl, hom, hb1⟩
      go_wp2_with fail
      refine (alive_is _).mono ?_
      rintro e y6 ⟨rfl, hb6⟩
      go_wp2_with fail
      go_returns
      exact ⟨rfl, below_thru (below_thru hBt hb1) hb6⟩


set_option maxRecDepth 100000 in
set_option maxHeartbeats 6400000 in
theorem back_posB {v u t : Value} {fs : List Fd} {ks bs : List Int} (w : World) (h1 : IsR LF w v fs) (h2 : IsL w .u8 u ks) (h3 : IsL w .u8 t bs) (hkb : Byts ks) (hbb : Byts bs) (hl : ¬ 60 < fs.length) (hm : ¬ 60 < ks.length) (hn : ¬ 1500 < bs.length) (q1 : rowE fs = 0) (hp : ¬ 0 < (rowB fs).length) : Calls Try.prog 6 #[v, u, t] w fun e w' => e = .returned (.bool true) ∧ Below w.heap.size w w' := by
  obtain ⟨a0, c0, rfl, hr0⟩ := id h1
  have i1 := hr0.room
  have i2 := hr0.most
  obtain ⟨a1, c1, rfl, hr1, _⟩ := id h2
  have j1 := hr1.room
  have j2 := hr1.most
  obtain ⟨a2, c2, rfl, hr2, _⟩ := id h3
  have k1 := hr2.room
  have k2 := hr2.most
  have HF := Lib.hid h1
  have HK := Lib.hid h2
  have HB := Lib.hid h3
  have A := fun (W : World) (a b : Value) (h1 : IsL W .u8 a ks) (h2 : IsL W .u8 b bs) => read_is W h1 h2 hkb hbb
  have r0 := rea_zero hkb hbb
  have r1 := rea_cases ks bs
  obtain ⟨F, hF⟩ : ∃ F, reaF ks bs = F := ⟨_, rfl⟩
  obtain ⟨E, hE⟩ : ∃ E, reaE ks bs = E := ⟨_, rfl⟩
  rw [hF, hE] at A r0
  rw [hE] at r1
  have HR0 := Lib.hid r0
  have HR1 := Lib.hid r1
  clear hr0 hr1 hr2 h1 h2 h3 hkb hbb hF hE r0 r1
  have d1 : decide ((60 : Int) < (fs.length : Int)) = false := decide_eq_false (by omega)
  have d2 : decide ((60 : Int) < (ks.length : Int)) = false := decide_eq_false (by omega)
  have d3 : decide ((1500 : Int) < (bs.length : Int)) = false := decide_eq_false (by omega)
  have R := fun (W : World) (h : IsR LF W (.slice a0 fs.length c0) fs) => rrow_is W h
  rw [q1] at R
  have WR := fun (W : World) (h : IsR LF W (.slice a0 fs.length c0) fs) => write_is W h
  have SZ := fun (W : World) (h : IsR LF W (.slice a0 fs.length c0) fs) => size_is W h
  rw [rowV_ok q1, q1] at WR SZ
  have lf := (rowE_zero q1).1
  have KK := fun (W : World) (h : IsR LF W (.slice a0 fs.length c0) fs) => rkinds_is W h (by omega)
  have RB := fun (W : World) (a b : Value) (h1 : IsL W .u8 a (fs.map Fd.k)) (h2 : IsL W .u8 b (rowB fs)) => read_is W h1 h2 (kinds_byts fs) (rowB_byts fs)
  rw [(rea_row q1).1, (rea_row q1).2] at RB
  have RM := fun (W : World) (a b : Value) (h1 : IsL W .u8 a (fs.map Fd.k)) (h2 : IsL W .u8 b (rowB fs ++ [0])) => read_is W h1 h2 (kinds_byts fs) ((rowB_byts fs).append (fun x hx => by simp at hx; omega))
  rw [rea_more q1] at RM
  obtain ⟨F2, hF2⟩ : ∃ F2, reaF (fs.map Fd.k) (rowB fs ++ [0]) = F2 := ⟨_, rfl⟩
  rw [hF2] at RM
  have RL := fun (hp : 0 < (rowB fs).length) (W : World) (a b : Value) (h1 : IsL W .u8 a (fs.map Fd.k)) (h2 : IsL W .u8 b ((rowB fs).take ((rowB fs).length - 1))) => (read_is W h1 h2 (kinds_byts fs) ((rowB_byts fs).take _) : Calls Try.prog 14 #[a, b] W _)
  have rl : 0 < (rowB fs).length → reaE (fs.map Fd.k) ((rowB fs).take ((rowB fs).length - 1)) = 12 := fun hp => rea_less q1 ((rowB_byts fs).take _) (by rw [List.length_take]; omega)
  obtain ⟨F3, hF3⟩ : ∃ F3, reaF (fs.map Fd.k) ((rowB fs).take ((rowB fs).length - 1)) = F3 := ⟨_, rfl⟩
  rw [hF3] at RL
  have S := fun (W : World) (a b : Value) (h1 : IsR LF W a fs) (h2 : IsR LF W b fs) => rsame_is W h1 h2
  rw [show sameF fs fs = true from decide_eq_true rfl] at S
  have bf := rowB_le fs
  obtain ⟨X, hX⟩ : ∃ X, rowB fs = X := ⟨_, rfl⟩
  obtain ⟨K, hK⟩ : ∃ K, fs.map Fd.k = K := ⟨_, rfl⟩
  rw [hX] at WR SZ
  rw [hX, hK] at RB RM RL rl
  rw [hX] at bf hp
  rw [hK] at KK
  have xl : X.length ≤ 1280 := by omega
  have RL2 := Lib.hid (fun (hp : 0 < X.length) => by have := RL hp; rw [rl hp] at this; exact this)
  obtain ⟨ti, hin, hz0, hz1, hz2⟩ := info_parts info_u8'
  clear q1 hF2 hF3 hX hK bf hl hm hn RL rl
  go_enter Try.func6, Try.ntmps6
  go_wp2_with fail
  refine (R _ HF.out).mono ?_
  rintro e w1 ⟨rfl, hb1⟩
  have F1 := Lib.hid (HF.out.below hb1)
  go_wp2_with fail
  refine (WR _ F1.out).mono ?_
  rintro e w2 ⟨v2, rfl, hx2, hb2⟩
  have hB2 := below_thru hb1 hb2
  have G2 := Lib.hid (HF.out.below hB2)
  have X2 := Lib.hid hx2
  clear R WR F1 hx2 hb1 hb2
  go_wp2_with fail
  refine (SZ _ G2.out).mono ?_
  rintro e w3 ⟨rfl, hb3⟩
  have hB3 := below_thru hB2 hb3
  have G3 := Lib.hid (HF.out.below hB3)
  have X3 := Lib.hid (X2.out.below hb3)
  clear SZ G2 X2 hb3 hB2
  go_wp2_with fail
  refine (KK _ G3.out).mono ?_
  rintro e w4 ⟨v4, rfl, hk4, hb4⟩
  go_wp2_with fail
  refine (RB _ _ _ hk4 (X3.out.below hb4)).mono ?_
  rintro e w5 ⟨v5, rfl, ho5, hb5⟩
  have hg5 := below_thru hb4 hb5
  have hB5 := below_thru hB3 hg5
  have G5 := Lib.hid (HF.out.below hB5)
  have X5 := Lib.hid (X3.out.below hg5)
  have M5 := Lib.hid (IsR.own ho5 rfl rfl)
  clear RB hk4 hb4 ho5 hb5 hg5 hB3 G3 X3
  go_wp2_with fail
  refine (KK _ G5.out).mono ?_
  rintro e w6 ⟨v6, rfl, hk6, hb6⟩
  have hB6 := below_thru hB5 hb6
  have X6 := Lib.hid (X5.out.below hb6)
  have M6 := Lib.hid (M5.out.below hb6)
  have K6 := Lib.hid hk6
  have hs6 := hB6.size
  clear hk6 hb6 hB5 G5 X5 M5
  obtain ⟨a3, c3, rfl, hrx, _⟩ := id X6.out
  have m1 := hrx.room
  have m2 := hrx.most
  clear hrx
  go_wp2_with (first | (at_builtin; refine wpList_append_built rfl _ _ 33 rfl 5 ti (.int .u8 0) 1 .u8 Try.underlying33 hin hz0 hz1 hz2 rfl [] X _ (.slice a3 X.length c3) _ _ _ rfl rfl rfl rfl rfl rfl X6.out (by unfold maxLen; simp; omega) (by simp; omega) ?_; intro v7 w7 ho7 hb7) | (at_builtin; refine wpList_append_ints rfl _ _ 33 rfl w6.heap.size 5 ti (.int .u8 0) 1 .u8 Try.underlying33 hin hz0 hz1 hz2 rfl _ X.length _ rfl (ownR_below ho7 ((Below.refl w7.heap.size w7).alloc (Nat.le_refl _) (.cells #[.int .u8 0] 5))) _ 1 [0] rfl ((IsL.built [0] rfl rfl rfl rfl (by simp)).ints) (fun h => by cases h) (by unfold maxLen; simp; omega) (by simp; omega) (by have := hb7.size; simp; omega) ?_; intro v8 w8 ho8 hg8))
  have hb8 : Below w6.heap.size w6 w8 := (hb7.alloc hb7.size _).grown hg8 (by have := hb7.size; simp; omega) (own_block (ownR_below ho7 ((Below.refl w7.heap.size w7).alloc (Nat.le_refl _) (.cells #[.int .u8 0] 5))))
  have Z8 := Lib.hid (show IsL w8 .u8 v8 (X ++ [0]) from IsL.own (by rw [List.map_append]; exact ho8) (by rw [List.length_append]))
  have hB8 := below_thru hB6 hb8
  have X8 := Lib.hid (X6.out.below hb8)
  have M8 := Lib.hid (M6.out.below hb8)
  have K8 := Lib.hid (K6.out.below hb8)
  clear ho7 hb7 ho8 hg8 hB6 X6 M6 K6 hb8 hs6
  refine (RM _ _ _ K8.out Z8.out).mono ?_
  rintro e w9 ⟨v9, rfl, ho9, hb9⟩
  have hB9 := below_thru hB8 hb9
  have X9 := Lib.hid (X8.out.below hb9)
  have M9 := Lib.hid (M8.out.below hb9)
  have G9 := Lib.hid (HF.out.below hB9)
  clear RM ho9 hb9 hB8 X8 M8 K8 Z8
  go_wp2_with fail
  refine (S _ _ _ G9.out M9.out).mono ?_
  rintro e w10 ⟨rfl, hb10⟩
  have hB10 := below_thru hB9 hb10
  have X10 := Lib.hid (X9.out.below hb10)
  have G10 := Lib.hid (HF.out.below hB10)
  clear S hb10 hB9 X9 M9 G9
  have dp : decide (0 < X.length) = false := decide_eq_false hp
  obtain ⟨wt, hwt⟩ : ∃ wt, w10 = wt := ⟨_, rfl⟩
  subst hwt
  have hBt := hB10
  have HKt := Lib.hid (HK.out.below hB10)
  have HBt := Lib.hid (HB.out.below hB10)
  clear RL2 X10 G10 HF HK HB hB10
  have Ht := hBt.size
  by_cases hz : E = 0
  · obtain ⟨er, ev, ek⟩ := HR0.out hz
    rw [hz] at A
    have WM := fun (W : World) (a : Value) (h : IsR LF W a F) => write_is W h
    rw [rowV_ok er, er, ev] at WM
    have KM := fun (W : World) (a : Value) (h : IsR LF W a F) => rkinds_is W h (by have := (rowE_zero er).1; omega)
    rw [ek] at KM
    clear er ev ek hz
    go_wp2_with fail
    refine (A _ _ _ HKt.out HBt.out).mono ?_
    rintro e y1 ⟨vm, rfl, hom, hb1⟩
    have hM := IsR.own hom rfl rfl
    have HM1 := Lib.hid hM
    have HK1 := Lib.hid (HKt.out.below hb1)
    have HB1 := Lib.hid (HBt.out.below hb1)
    have hB1 := below_thru hBt hb1
    clear hom hM hb1 HKt HBt hBt Ht A
    go_wp2_with fail
    refine (WM _ _ HM1.out).mono ?_
    rintro e y2 ⟨vc, rfl, hc2, hb2⟩
    have HM2 := Lib.hid (HM1.out.below hb2)
    have HK2 := Lib.hid (HK1.out.below hb2)
    have HB2 := Lib.hid (HB1.out.below hb2)
    have HC2 := Lib.hid hc2
    have hB2 := below_thru hB1 hb2
    clear hc2 hb2 HM1 HK1 HB1 hB1 WM
    go_wp2_with fail
    refine (KM _ _ HM2.out).mono ?_
    rintro e y3 ⟨vk, rfl, hk3, hb3⟩
    have HK3 := Lib.hid (HK2.out.below hb3)
    have HB3 := Lib.hid (HB2.out.below hb3)
    have HC3 := Lib.hid (HC2.out.below hb3)
    have hB3 := below_thru hB2 hb3
    clear hb3 HM2 HK2 HB2 HC2 hB2 KM
    go_wp2_with fail
    refine (sameb_tt _ hk3 HK3.out).mono ?_
    rintro e y4 ⟨rfl, hb4⟩
    go_wp2_with fail
    refine (sameb_tt _ (HC3.out.below hb4) (HB3.out.below hb4)).mono ?_
    rintro e y5 ⟨rfl, hb5⟩
    go_wp2_with fail
    refine (alive_is _).mono ?_
    rintro e y6 ⟨rfl, hb6⟩
    go_wp2_with fail
    go_returns
    exact ⟨rfl, below_thru (below_thru (below_thru hB3 hb4) hb5) hb6⟩
  · have hne : (E != 0) = true := by simpa using hz
    rcases HR1.out with q | q | q | q
    · exact absurd q hz
    all_goals
      subst q
      clear hne hz
      go_wp2_with fail
      refine (A _ _ _ HKt.out HBt.out).mono ?_
      rintro e y1 ⟨vm, rfl, hom, hb1⟩
      go_wp2_with fail
      refine (alive_is _).mono ?_
      rintro e y6 ⟨rfl, hb6⟩
      go_wp2_with fail
      go_returns
      exact ⟨rfl, below_thru (below_thru hBt hb1) hb6⟩

set_option maxRecDepth 100000 in
set_option maxHeartbeats 6400000 in
theorem back_is {v u t : Value} {fs : List Fd} {ks bs : List Int} (w : World) (h1 : IsR LF w v fs) (h2 : IsL w .u8 u ks) (h3 : IsL w .u8 t bs) (hkb : Byts ks) (hbb : Byts bs) : Calls Try.prog 6 #[v, u, t] w fun e w' => e = .returned (.bool true) ∧ Below w.heap.size w w' := by
  have h1' := h1
  have h2' := h2
  have h3' := h3
  have hkb' := hkb
  have hbb' := hbb
  obtain ⟨a0, c0, rfl, hr0⟩ := id h1
  have i1 := hr0.room
  have i2 := hr0.most
  obtain ⟨a1, c1, rfl, hr1, _⟩ := id h2
  have j1 := hr1.room
  have j2 := hr1.most
  obtain ⟨a2, c2, rfl, hr2, _⟩ := id h3
  have k1 := hr2.room
  have k2 := hr2.most
  have HF := Lib.hid h1
  have HK := Lib.hid h2
  have HB := Lib.hid h3
  have A := fun (W : World) (a b : Value) (h1 : IsL W .u8 a ks) (h2 : IsL W .u8 b bs) => read_is W h1 h2 hkb hbb
  have r0 := rea_zero hkb hbb
  have r1 := rea_cases ks bs
  obtain ⟨F, hF⟩ : ∃ F, reaF ks bs = F := ⟨_, rfl⟩
  obtain ⟨E, hE⟩ : ∃ E, reaE ks bs = E := ⟨_, rfl⟩
  rw [hF, hE] at A r0
  rw [hE] at r1
  have HR0 := Lib.hid r0
  have HR1 := Lib.hid r1
  clear hr0 hr1 hr2 h1 h2 h3 hkb hbb hF hE r0 r1
  by_cases hl : 60 < fs.length
  · have dd : decide ((60 : Int) < (fs.length : Int)) = true := decide_eq_true (by omega)
    clear A HR0 HR1 HF HK HB
    go_enter Try.func6, Try.ntmps6
    go_wp2_with fail
    refine (alive_is _).mono ?_
    rintro e w1 ⟨rfl, hb1⟩
    go_wp2_with fail
    go_returns
    exact ⟨rfl, hb1⟩
  have d1 : decide ((60 : Int) < (fs.length : Int)) = false := decide_eq_false (by omega)
  by_cases hm : 60 < ks.length
  · have dd : decide ((60 : Int) < (ks.length : Int)) = true := decide_eq_true (by omega)
    clear A HR0 HR1 HF HK HB
    go_enter Try.func6, Try.ntmps6
    go_wp2_with fail
    refine (alive_is _).mono ?_
    rintro e w1 ⟨rfl, hb1⟩
    go_wp2_with fail
    go_returns
    exact ⟨rfl, hb1⟩
  have d2 : decide ((60 : Int) < (ks.length : Int)) = false := decide_eq_false (by omega)
  by_cases hn : 1500 < bs.length
  · have dd : decide ((1500 : Int) < (bs.length : Int)) = true := decide_eq_true (by omega)
    clear A HR0 HR1 HF HK HB
    go_enter Try.func6, Try.ntmps6
    go_wp2_with fail
    refine (alive_is _).mono ?_
    rintro e w1 ⟨rfl, hb1⟩
    go_wp2_with fail
    go_returns
    exact ⟨rfl, hb1⟩
  have d3 : decide ((1500 : Int) < (bs.length : Int)) = false := decide_eq_false (by omega)
  clear HF HK HB HR0 HR1 A
  rcases Decidable.em (rowE fs = 0) with q1 | q1
  · rcases Decidable.em (0 < (rowB fs).length) with hp | hp
    · exact back_posA w h1' h2' h3' hkb' hbb' hl hm hn q1 hp
    · exact back_posB w h1' h2' h3' hkb' hbb' hl hm hn q1 hp
  · exact back_neg w h1' h2' h3' hkb' hbb' hl hm hn q1

end Go.Proofs.Ytpjonhfphfkdiaa
