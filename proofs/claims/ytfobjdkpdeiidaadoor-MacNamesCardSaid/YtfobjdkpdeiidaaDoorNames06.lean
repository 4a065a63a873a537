/-
  MacNames, walked: it returns true.
-/
import Derived.Test.YtfobjdkpdeiidaaDoorIs06
import Derived.Test.YtfobjdkpdeiidaaDoorMRefC
import Derived.Test.YtfobjdkpdeiidaaDoorSums06
namespace Go.Proofs.YtfobjdkpdeiidaaDoor
open Go.RowKit

theorem made_big (m : Nat) (n : Int) (hn : n = (m : Int)) (hm : m ≤ 1000000) : ∃ (Z : Array Value) (Y : List Int), (∀ w : World, (Instr.makeSlice 23 (.int .i64 n) (.int .i64 n)).run Tryd.prog w = .ok (.slice (some ⟨w.heap.size, 0, none⟩) m m) (w.alloc (.cells Z 5))) ∧
    (∀ w : World, IsL (w.alloc (.cells Z 5)) .u8 (.slice (some ⟨w.heap.size, 0, none⟩) m m) Y) ∧ Y.length = m ∧ bytesL Y := by
  subst hn
  refine ⟨zb m, List.replicate m 0, make_bytes m hm, fun w => IsL.box m (by simp) (Box.newc rfl rfl) hm, by simp, zeros_bytes m⟩
theorem rep_succ (b : Int) (k : Nat) : List.replicate (k + 1) b = List.replicate k b ++ [b] := List.replicate_succ'
set_option maxRecDepth 100000 in
set_option maxHeartbeats 1600000 in
theorem repeated_is (b : Int) (n : Nat) (w : World) (hn : n ≤ 1000) :
    Calls Tryd.prog 9 #[.int .u8 b, .int .i64 (n : Int)] w fun e w' => ∃ v, e = .returned v ∧ IsL w' .u8 v (List.replicate n b) ∧ Below w.heap.size w w' := by
  obtain ⟨ti, hin, hz0, hz1, hz2⟩ := info8
  go_enter Tryd.func9, Tryd.ntmps9
  go_wp2_with fail
  go_loopw [1, 5] (fun i u wr => ∃ k : Nat, k ≤ n ∧ i = .int .i64 ((n : Int) - (k : Int)) ∧ wr.ownsRow w.heap.size 5 1 u (List.replicate k b).length ((List.replicate k b).map (Value.int .u8)) ∧ Below w.heap.size w wr) (fun i _ _ => (intOf i).toNat)
  case atStart => exact ⟨0, by omega, congrArg (Value.int .i64) (by omega), owns_none, Below.refl _ _⟩
  case round =>
    obtain ⟨k, hk, rfl, hown, hB⟩ := hrel
    obtain ⟨a, cp, rfl, hcp, hcm⟩ := own_sl hown
    have hsz := hB.size
    have LK : (List.replicate k b).length = k := by simp
    by_cases hlt : k < n
    · have S := Lib.hid (rep_succ b k)
      have d0 : decide ((0 : Int) < (n : Int) - (k : Int)) = true := decide_eq_true (by omega)
      have HLK := Lib.hid LK
      obtain ⟨R, hR⟩ : ∃ R, R = List.replicate k b := ⟨_, rfl⟩
      rw [← hR] at hown S HLK LK ⊢
      rw [LK] at hown ⊢
      clear hR LK
      go_wp2_with (at_builtin; refine wpList_append_onto rfl _ _ 23 rfl w.heap.size 5 ti (.int .u8 0) 1 .u8 Tryd.underlying23 hin hz0 hz1 hz2 rfl _ R [b] _ rfl rfl (by rw [HLK.out]; exact World.ownsRow.alloc hown _) (IsL.built [b] rfl rfl rfl rfl (by simp)) (by rw [HLK.out]; unfold maxLen; simp <;> omega) (by rw [HLK.out]; simp <;> omega) (by simp; omega) ?_; intro va wa howa hba)
      go_roundw
      case rel => exact ⟨k + 1, by omega, congrArg (Value.int .i64) (by omega), by rw [S.out]; exact howa, (hB.alloc hsz _).trans hba⟩
      case measure => simp [intOf]; omega
    · obtain rfl : k = n := by omega
      have d0 : decide ((0 : Int) < (k : Int) - (k : Int)) = false := decide_eq_false (by omega)
      go_wp2_with fail
      go_ret
      exact ⟨_, rfl, IsL.own hown rfl, hB⟩
def oneL : List Int := [0, 0, 0, 0, 0, 0, 0, 0, 0, 0, 0, 0, 0, 0, 0, 0, 0, 0, 0, 0, 0, 0, 0, 0, 0, 0, 0, 0, 0, 0, 0, 1]
theorem pads_nil : nth (padI []) 0 = 54 ∧ nth (padI []) 63 = 54 ∧ nth (padO []) 0 = 92 ∧ nth (padO []) 63 = 92 := by
  rw [padI_lit (P := List.replicate 64 54) bytesL.nil (blk_short (by simp)) (by decide +kernel), padO_lit (P := List.replicate 64 92) bytesL.nil (blk_short (by simp)) (by decide +kernel)]
  decide +kernel
theorem cmp3 : Hid (sameB [] [] = true) := Lib.hid (by decide)
theorem cmp4 : Hid (sameB [0, 0] [0] = false) := Lib.hid (by decide)
theorem cmp5 : sameB oneL zeros32 = false := by decide
theorem cmp6 : sameB oneL oneL = true := by decide

set_option maxRecDepth 100000 in
set_option maxHeartbeats 6400000 in
theorem names6_any (w : World) (hL : Hid (LaidS w)) : Calls Tryd.prog 3 #[] w fun e w' => e = .returned (.bool true) ∧ Below w.heap.size w w' := by
  obtain ⟨Z201, Y201, mk201, yi201, yl201, yb201⟩ := made_big 201 201 rfl (by omega)
  obtain ⟨Z200, Y200, mk200, yi200, yl200, yb200⟩ := made_big 200 200 rfl (by omega)
  obtain ⟨Z127937, Y127937, mk127937, yi127937, yl127937, yb127937⟩ := made_big 127937 127937 rfl (by omega)
  obtain ⟨Z127936, Y127936, mk127936, yi127936, yl127936, yb127936⟩ := made_big 127936 127936 rfl (by omega)
  obtain ⟨P, hP⟩ : ∃ P, padI [] = P := ⟨_, rfl⟩
  obtain ⟨Q, hQ⟩ : ∃ P, padO [] = P := ⟨_, rfl⟩
  obtain ⟨T, hT⟩ : ∃ P, tagL [] Y127936 = P := ⟨_, rfl⟩
  obtain ⟨O, hO⟩ : ∃ P, outerL Y200 zeros32 = P := ⟨_, rfl⟩
  have PN := pads_nil
  rw [hP, hQ] at PN
  have lP : P.length = 64 := by rw [← hP]; exact padI_len []
  have lQ : Q.length = 64 := by rw [← hQ]; exact padO_len []
  have lT : T.length = 32 := by rw [← hT]; exact tagL_len _ _
  have lO : O.length = 32 := by rw [← hO]; exact shaOf_len _
  have G1 := Lib.hid (show padsOut Y201 = (zeros64, zeros64, 4) by unfold padsOut; rw [if_pos (by omega)])
  have G2 := Lib.hid (show padsOut [] = (P, Q, 0) by unfold padsOut; rw [if_neg (by simp), hP, hQ])
  have G3 := Lib.hid (show sumOut Y201 [] = (zeros32, 4) by unfold sumOut; rw [if_pos (Or.inl (by omega))])
  have G4 := Lib.hid (show sumOut [] Y127937 = (zeros32, 4) by unfold sumOut; rw [if_pos (Or.inr (by omega))])
  have G5 := Lib.hid (show sumOut [] Y127936 = (T, 0) by unfold sumOut; rw [if_neg (by simp; omega), hT])
  have G6 := Lib.hid (show innerOut Y201 [] = (zeros32, 4) by unfold innerOut; rw [if_pos (by omega)])
  have G7 := Lib.hid (show innerOut [] Y127937 = (zeros32, 4) by unfold innerOut behindOut; rw [if_neg (by simp), if_pos (by omega)])
  have G8 := Lib.hid (show outerOut Y201 zeros32 = (zeros32, 4) by unfold outerOut; rw [if_pos (by omega)])
  have G9 := Lib.hid (show outerOut Y200 zeros32 = (O, 0) by unfold outerOut behindOut; rw [if_neg (by omega), if_neg (by decide), ← hO]; rfl)
  have HBN := Lib.hid bytesL.nil
  have SP := Lib.hid (size_of64 lP)
  have NP := Lib.hid (len_of64 lP)
  have SQ := Lib.hid (size_of64 lQ)
  have NQ := Lib.hid (len_of64 lQ)
  have ST := Lib.hid (size_dig lT)
  have NT := Lib.hid (len_dig lT)
  have SO := Lib.hid (size_dig lO)
  have NO := Lib.hid (len_dig lO)
  have LP := Lib.hid lP
  have LQ := Lib.hid lQ
  have PN := Lib.hid PN
  have yb201 := Lib.hid yb201
  have yi201 := Lib.hid yi201
  have yb200 := Lib.hid yb200
  have yi200 := Lib.hid yi200
  have yb127937 := Lib.hid yb127937
  have yi127937 := Lib.hid yi127937
  have yb127936 := Lib.hid yb127936
  have yi127936 := Lib.hid yi127936
  clear hP hQ hT hO lP lQ lT lO yl201 yl200 yl127937 yl127936
  have cv1 := conv1
  go_enter Tryd.func3, Tryd.ntmps3
  have hB0 : Below w.heap.size w w := Below.refl _ _
  have hs0 := hB0.size
  go_wp2_with fail
  refine (repeated_is 11 20 _ (by omega)).mono ?_
  rintro e w1 ⟨v_r1, rfl, hr, hb⟩
  have hB1 : Below w.heap.size w w1 := below_thru hB0 hb
  have hs1 := hB1.size
  clear hB0 hs0
  clear hb
  have J_r11 : Hid (IsL w1 .u8 v_r1 (List.replicate 20 11)) := Lib.hid hr
  clear hr
  go_wp2_with fail
  have hN : ∀ o : Obj, Below w1.heap.size w1 (w1.alloc o) := fun o => (Below.refl _ _).alloc (Nat.le_refl _) o
  refine (is6_tt (K := hi_k) (xs := hi_m) 176 52 76 97 247 _ (Lib.hid (IsL.alloc J_r11.out _)) (Lib.hid (IsL.const hi_m rfl rfl rfl rfl (by decide))) (by decide) (by decide) (Lib.hid hi_kb) (Lib.hid hi_mb) hi_tag (Lib.hid (hL.out.below (below_thru hB1 (hN _))))).mono ?_
  rintro e w2 ⟨rfl, hb⟩
  have hb := below_thru (hN _) hb
  clear J_r11
  have hB2 : Below w.heap.size w w2 := below_thru hB1 hb
  have hs2 := hB2.size
  clear hB1 hs1
  clear hb hN
  go_wp2_with fail
  refine (repeated_is 170 131 _ (by omega)).mono ?_
  rintro e w3 ⟨v_r2, rfl, hr, hb⟩
  have hB3 : Below w.heap.size w w3 := below_thru hB2 hb
  have hs3 := hB3.size
  clear hB2 hs2
  clear hb
  have J_r23 : Hid (IsL w3 .u8 v_r2 (List.replicate 131 170)) := Lib.hid hr
  clear hr
  go_wp2_with fail
  have hN : ∀ o : Obj, Below w3.heap.size w3 (w3.alloc o) := fun o => (Below.refl _ _).alloc (Nat.le_refl _) o
  refine (is6_tt (K := aa_k) (xs := aa_m) 96 228 49 89 84 _ (Lib.hid (IsL.alloc J_r23.out _)) (Lib.hid (IsL.const aa_m rfl rfl rfl rfl (by decide))) (by decide) (by decide) (Lib.hid aa_kb) (Lib.hid aa_mb) aa_tag (Lib.hid (hL.out.below (below_thru hB3 (hN _))))).mono ?_
  rintro e w4 ⟨rfl, hb⟩
  have hb := below_thru (hN _) hb
  clear J_r23
  have hB4 : Below w.heap.size w w4 := below_thru hB3 hb
  have hs4 := hB4.size
  clear hB3 hs3
  clear hb hN
  go_wp2_with fail
  have hN : Below w4.heap.size w4 (w4.alloc (.cells Z201 5)) := (Below.refl _ _).alloc (Nat.le_refl _) _
  have hM := below_thru hB4 hN
  refine (pads_any _ (Lib.hid (yi201.out _)) yb201 G1 (Lib.hid (hL.out.below hM))).mono ?_
  rintro e w5 ⟨rfl, hb⟩
  have hb := below_thru hN hb
  have hB5 : Below w.heap.size w w5 := below_thru hB4 hb
  have hs5 := hB5.size
  clear hB4 hs4
  clear hb hN hM
  go_upto_region 3 with (first
    | (refine wpList_store_box (cs := zeros64.map (Value.int .u8)) rfl _ _ _ rfl (Box.alloc (Box.newc (l := zero64) rfl rfl) _) rfl rfl size_b64 rfl (oneCell_ints _) ?_; intro W5_0 hW5_0)
    | (refine wpList_store_box (cs := zeros64.map (Value.int .u8)) rfl _ _ _ rfl (hW5_0.past _ _ (by omega) (Box.newc (l := zero64) rfl (by simp))) rfl rfl size_b64 rfl (oneCell_ints _) ?_; intro W5_1 hW5_1))
  have hN : Below w5.heap.size w5 W5_1 := (hW5_1.below _ _ (by omega) (hW5_0.below _ _ (by omega) (((Below.refl _ w5).alloc (Nat.le_refl _) _).alloc (by simp) _)))
  have x_p06 : Box W5_1 (w5.heap.size) (zeros64.map (Value.int .u8)) := (hW5_1.past _ _ (by omega) hW5_0.box)
  have x_q06 : Box W5_1 (w5.heap.size + 1) (zeros64.map (Value.int .u8)) := hW5_1.box
  have hB6 : Below w.heap.size w W5_1 := below_thru hB5 hN
  have hs6 := hB6.size
  clear hB5 hs5
  clear hN hW5_0 hW5_1
  clear x_p06
  clear x_q06
  go_wp2_with fail
  refine (pads_any _ (Lib.hid IsL.none) HBN G2 (Lib.hid (hL.out.below hB6))).mono ?_
  rintro e w7 ⟨rfl, hb⟩
  have hB7 : Below w.heap.size w w7 := below_thru hB6 hb
  have hs7 := hB7.size
  clear hB6 hs6
  clear hb
  go_upto_region 4 with (first
    | (refine wpList_store_box (cs := P.map (Value.int .u8)) rfl _ _ _ rfl (Box.alloc (Box.newc (l := zero64) rfl rfl) _) rfl rfl SP.out NP.out (oneCell_ints _) ?_; intro W7_0 hW7_0)
    | (refine wpList_store_box (cs := Q.map (Value.int .u8)) rfl _ _ _ rfl (hW7_0.past _ _ (by omega) (Box.newc (l := zero64) rfl (by simp))) rfl rfl SQ.out NQ.out (oneCell_ints _) ?_; intro W7_1 hW7_1))
  have hN : Below w7.heap.size w7 W7_1 := (hW7_1.below _ _ (by omega) (hW7_0.below _ _ (by omega) (((Below.refl _ w7).alloc (Nat.le_refl _) _).alloc (by simp) _)))
  have x_p8 : Box W7_1 (w7.heap.size) (P.map (Value.int .u8)) := (hW7_1.past _ _ (by omega) hW7_0.box)
  have x_q8 : Box W7_1 (w7.heap.size + 1) (Q.map (Value.int .u8)) := hW7_1.box
  have hB8 : Below w.heap.size w W7_1 := below_thru hB7 hN
  have hs8 := hB8.size
  clear hB7 hs7
  clear hN hW7_0 hW7_1
  go_wp2_with fail
  have hN : Below W7_1.heap.size W7_1 (W7_1.alloc (.cells Z201 5)) := (Below.refl _ _).alloc (Nat.le_refl _) _
  have hM := below_thru hB8 hN
  refine (tag_any _ (Lib.hid (yi201.out _)) (Lib.hid IsL.none) yb201 HBN G3 (Lib.hid (hL.out.below hM))).mono ?_
  rintro e w9 ⟨rfl, hb⟩
  have hb := below_thru hN hb
  have hB9 : Below w.heap.size w w9 := below_thru hB8 hb
  have hs9 := hB9.size
  have x_p9 : Box w9 (w7.heap.size) (P.map (Value.int .u8)) := Box.below x_p8 hb
  have x_q9 : Box w9 (w7.heap.size + 1) (Q.map (Value.int .u8)) := Box.below x_q8 hb
  clear hB8 hs8 x_p8 x_q8
  clear hb hN hM
  go_upto_region 5 with (refine wpList_store_box (cs := zeros32.map (Value.int .u8)) rfl _ _ _ rfl (Box.newc (l := zero32) rfl rfl) rfl rfl size32 rfl (oneCell_ints _) ?_; intro W9_0 hW9_0)
  have hN : Below w9.heap.size w9 W9_0 := (hW9_0.below _ _ (by omega) ((Below.refl _ w9).alloc (Nat.le_refl _) _))
  have x_z410 : Box W9_0 (w9.heap.size) (zeros32.map (Value.int .u8)) := hW9_0.box
  have hB10 : Below w.heap.size w W9_0 := below_thru hB9 hN
  have hs10 := hB10.size
  have x_p10 : Box W9_0 (w7.heap.size) (P.map (Value.int .u8)) := Box.below x_p9 hN
  have x_q10 : Box W9_0 (w7.heap.size + 1) (Q.map (Value.int .u8)) := Box.below x_q9 hN
  clear hB9 hs9 x_p9 x_q9
  clear hN hW9_0
  clear x_z410
  go_wp2_with fail
  have hN : Below W9_0.heap.size W9_0 (W9_0.alloc (.cells Z127937 5)) := (Below.refl _ _).alloc (Nat.le_refl _) _
  have hM := below_thru hB10 hN
  refine (tag_any _ (Lib.hid IsL.none) (Lib.hid (yi127937.out _)) HBN yb127937 G4 (Lib.hid (hL.out.below hM))).mono ?_
  rintro e w11 ⟨rfl, hb⟩
  have hb := below_thru hN hb
  have hB11 : Below w.heap.size w w11 := below_thru hB10 hb
  have hs11 := hB11.size
  have x_p11 : Box w11 (w7.heap.size) (P.map (Value.int .u8)) := Box.below x_p10 hb
  have x_q11 : Box w11 (w7.heap.size + 1) (Q.map (Value.int .u8)) := Box.below x_q10 hb
  clear hB10 hs10 x_p10 x_q10
  clear hb hN hM
  go_upto_region 6 with (refine wpList_store_box (cs := zeros32.map (Value.int .u8)) rfl _ _ _ rfl (Box.newc (l := zero32) rfl rfl) rfl rfl size32 rfl (oneCell_ints _) ?_; intro W11_0 hW11_0)
  have hN : Below w11.heap.size w11 W11_0 := (hW11_0.below _ _ (by omega) ((Below.refl _ w11).alloc (Nat.le_refl _) _))
  have x_z512 : Box W11_0 (w11.heap.size) (zeros32.map (Value.int .u8)) := hW11_0.box
  have hB12 : Below w.heap.size w W11_0 := below_thru hB11 hN
  have hs12 := hB12.size
  have x_p12 : Box W11_0 (w7.heap.size) (P.map (Value.int .u8)) := Box.below x_p11 hN
  have x_q12 : Box W11_0 (w7.heap.size + 1) (Q.map (Value.int .u8)) := Box.below x_q11 hN
  clear hB11 hs11 x_p11 x_q11
  clear hN hW11_0
  clear x_z512
  go_wp2_with fail
  have hN : Below W11_0.heap.size W11_0 (W11_0.alloc (.cells Z127936 5)) := (Below.refl _ _).alloc (Nat.le_refl _) _
  have hM := below_thru hB12 hN
  refine (tag_any _ (Lib.hid IsL.none) (Lib.hid (yi127936.out _)) HBN yb127936 G5 (Lib.hid (hL.out.below hM))).mono ?_
  rintro e w13 ⟨rfl, hb⟩
  have hb := below_thru hN hb
  have hB13 : Below w.heap.size w w13 := below_thru hB12 hb
  have hs13 := hB13.size
  have x_p13 : Box w13 (w7.heap.size) (P.map (Value.int .u8)) := Box.below x_p12 hb
  have x_q13 : Box w13 (w7.heap.size + 1) (Q.map (Value.int .u8)) := Box.below x_q12 hb
  clear hB12 hs12 x_p12 x_q12
  clear hb hN hM
  go_upto_region 7 with (refine wpList_store_box (cs := T.map (Value.int .u8)) rfl _ _ _ rfl (Box.newc (l := zero32) rfl rfl) rfl rfl ST.out NT.out (oneCell_ints _) ?_; intro W13_0 hW13_0)
  have hN : Below w13.heap.size w13 W13_0 := (hW13_0.below _ _ (by omega) ((Below.refl _ w13).alloc (Nat.le_refl _) _))
  have x_z614 : Box W13_0 (w13.heap.size) (T.map (Value.int .u8)) := hW13_0.box
  have hB14 : Below w.heap.size w W13_0 := below_thru hB13 hN
  have hs14 := hB14.size
  have x_p14 : Box W13_0 (w7.heap.size) (P.map (Value.int .u8)) := Box.below x_p13 hN
  have x_q14 : Box W13_0 (w7.heap.size + 1) (Q.map (Value.int .u8)) := Box.below x_q13 hN
  clear hB13 hs13 x_p13 x_q13
  clear hN hW13_0
  clear x_z614
  go_wp2_with fail
  have hN : Below W13_0.heap.size W13_0 (W13_0.alloc (.cells Z201 5)) := (Below.refl _ _).alloc (Nat.le_refl _) _
  have hM := below_thru hB14 hN
  refine (inner_any _ (Lib.hid (yi201.out _)) (Lib.hid IsL.none) yb201 HBN G6 (Lib.hid (hL.out.below hM))).mono ?_
  rintro e w15 ⟨rfl, hb⟩
  have hb := below_thru hN hb
  have hB15 : Below w.heap.size w w15 := below_thru hB14 hb
  have hs15 := hB15.size
  have x_p15 : Box w15 (w7.heap.size) (P.map (Value.int .u8)) := Box.below x_p14 hb
  have x_q15 : Box w15 (w7.heap.size + 1) (Q.map (Value.int .u8)) := Box.below x_q14 hb
  clear hB14 hs14 x_p14 x_q14
  clear hb hN hM
  go_upto_region 8 with (refine wpList_store_box (cs := zeros32.map (Value.int .u8)) rfl _ _ _ rfl (Box.newc (l := zero32) rfl rfl) rfl rfl size32 rfl (oneCell_ints _) ?_; intro W15_0 hW15_0)
  have hN : Below w15.heap.size w15 W15_0 := (hW15_0.below _ _ (by omega) ((Below.refl _ w15).alloc (Nat.le_refl _) _))
  have x_z716 : Box W15_0 (w15.heap.size) (zeros32.map (Value.int .u8)) := hW15_0.box
  have hB16 : Below w.heap.size w W15_0 := below_thru hB15 hN
  have hs16 := hB16.size
  have x_p16 : Box W15_0 (w7.heap.size) (P.map (Value.int .u8)) := Box.below x_p15 hN
  have x_q16 : Box W15_0 (w7.heap.size + 1) (Q.map (Value.int .u8)) := Box.below x_q15 hN
  clear hB15 hs15 x_p15 x_q15
  clear hN hW15_0
  clear x_z716
  go_wp2_with fail
  have hN : Below W15_0.heap.size W15_0 (W15_0.alloc (.cells Z127937 5)) := (Below.refl _ _).alloc (Nat.le_refl _) _
  have hM := below_thru hB16 hN
  refine (inner_any _ (Lib.hid IsL.none) (Lib.hid (yi127937.out _)) HBN yb127937 G7 (Lib.hid (hL.out.below hM))).mono ?_
  rintro e w17 ⟨rfl, hb⟩
  have hb := below_thru hN hb
  have hB17 : Below w.heap.size w w17 := below_thru hB16 hb
  have hs17 := hB17.size
  have x_p17 : Box w17 (w7.heap.size) (P.map (Value.int .u8)) := Box.below x_p16 hb
  have x_q17 : Box w17 (w7.heap.size + 1) (Q.map (Value.int .u8)) := Box.below x_q16 hb
  clear hB16 hs16 x_p16 x_q16
  clear hb hN hM
  go_upto_region 9 with (refine wpList_store_box (cs := zeros32.map (Value.int .u8)) rfl _ _ _ rfl (Box.newc (l := zero32) rfl rfl) rfl rfl size32 rfl (oneCell_ints _) ?_; intro W17_0 hW17_0)
  have hN : Below w17.heap.size w17 W17_0 := (hW17_0.below _ _ (by omega) ((Below.refl _ w17).alloc (Nat.le_refl _) _))
  have x_z818 : Box W17_0 (w17.heap.size) (zeros32.map (Value.int .u8)) := hW17_0.box
  have hB18 : Below w.heap.size w W17_0 := below_thru hB17 hN
  have hs18 := hB18.size
  have x_p18 : Box W17_0 (w7.heap.size) (P.map (Value.int .u8)) := Box.below x_p17 hN
  have x_q18 : Box W17_0 (w7.heap.size + 1) (Q.map (Value.int .u8)) := Box.below x_q17 hN
  clear hB17 hs17 x_p17 x_q17
  clear hN hW17_0
  clear x_z818
  go_wp2_with fail
  have hN : Below W17_0.heap.size W17_0 (W17_0.alloc (.cells Z201 5)) := (Below.refl _ _).alloc (Nat.le_refl _) _
  have hM := below_thru hB18 hN
  refine (outer_any (d := zeros32) _ (Lib.hid (yi201.out _)) yb201 rfl (Lib.hid (zeros_bytes 32)) G8 (Lib.hid (hL.out.below hM))).mono ?_
  rintro e w19 ⟨rfl, hb⟩
  have hb := below_thru hN hb
  have hB19 : Below w.heap.size w w19 := below_thru hB18 hb
  have hs19 := hB19.size
  have x_p19 : Box w19 (w7.heap.size) (P.map (Value.int .u8)) := Box.below x_p18 hb
  have x_q19 : Box w19 (w7.heap.size + 1) (Q.map (Value.int .u8)) := Box.below x_q18 hb
  clear hB18 hs18 x_p18 x_q18
  clear hb hN hM
  go_upto_region 10 with (refine wpList_store_box (cs := zeros32.map (Value.int .u8)) rfl _ _ _ rfl (Box.newc (l := zero32) rfl rfl) rfl rfl size32 rfl (oneCell_ints _) ?_; intro W19_0 hW19_0)
  have hN : Below w19.heap.size w19 W19_0 := (hW19_0.below _ _ (by omega) ((Below.refl _ w19).alloc (Nat.le_refl _) _))
  have x_z920 : Box W19_0 (w19.heap.size) (zeros32.map (Value.int .u8)) := hW19_0.box
  have hB20 : Below w.heap.size w W19_0 := below_thru hB19 hN
  have hs20 := hB20.size
  have x_p20 : Box W19_0 (w7.heap.size) (P.map (Value.int .u8)) := Box.below x_p19 hN
  have x_q20 : Box W19_0 (w7.heap.size + 1) (Q.map (Value.int .u8)) := Box.below x_q19 hN
  clear hB19 hs19 x_p19 x_q19
  clear hN hW19_0
  clear x_z920
  go_wp2_with fail
  have hN : Below W19_0.heap.size W19_0 (W19_0.alloc (.cells Z200 5)) := (Below.refl _ _).alloc (Nat.le_refl _) _
  have hM := below_thru hB20 hN
  refine (outer_any (d := zeros32) _ (Lib.hid (yi200.out _)) yb200 rfl (Lib.hid (zeros_bytes 32)) G9 (Lib.hid (hL.out.below hM))).mono ?_
  rintro e w21 ⟨rfl, hb⟩
  have hb := below_thru hN hb
  have hB21 : Below w.heap.size w w21 := below_thru hB20 hb
  have hs21 := hB21.size
  have x_p21 : Box w21 (w7.heap.size) (P.map (Value.int .u8)) := Box.below x_p20 hb
  have x_q21 : Box w21 (w7.heap.size + 1) (Q.map (Value.int .u8)) := Box.below x_q20 hb
  clear hB20 hs20 x_p20 x_q20
  clear hb hN hM
  go_upto_region 11 with (refine wpList_store_box (cs := O.map (Value.int .u8)) rfl _ _ _ rfl (Box.newc (l := zero32) rfl rfl) rfl rfl SO.out NO.out (oneCell_ints _) ?_; intro W21_0 hW21_0)
  have hN : Below w21.heap.size w21 W21_0 := (hW21_0.below _ _ (by omega) ((Below.refl _ w21).alloc (Nat.le_refl _) _))
  have x_z1022 : Box W21_0 (w21.heap.size) (O.map (Value.int .u8)) := hW21_0.box
  have hB22 : Below w.heap.size w W21_0 := below_thru hB21 hN
  have hs22 := hB22.size
  have x_p22 : Box W21_0 (w7.heap.size) (P.map (Value.int .u8)) := Box.below x_p21 hN
  have x_q22 : Box W21_0 (w7.heap.size + 1) (Q.map (Value.int .u8)) := Box.below x_q21 hN
  clear hB21 hs21 x_p21 x_q21
  clear hN hW21_0
  clear x_z1022
  go_wp2_with fail
  refine (compare_as (n := 0) _ (Lib.hid IsL.none) (Lib.hid IsL.none) cmp3 (Lib.hid rfl)).mono ?_
  rintro e w23 ⟨rfl, hb⟩
  have hB23 : Below w.heap.size w w23 := below_thru hB22 hb
  have hs23 := hB23.size
  have x_p23 : Box w23 (w7.heap.size) (P.map (Value.int .u8)) := Box.below x_p22 hb
  have x_q23 : Box w23 (w7.heap.size + 1) (Q.map (Value.int .u8)) := Box.below x_q22 hb
  clear hB22 hs22 x_p22 x_q22
  clear hb
  go_wp2_with fail
  refine (compare_as (n := 2) _ (Lib.hid (IsL.alloc (IsL.built [0, 0] rfl rfl rfl rfl (by simp)) _)) (Lib.hid (IsL.built [0] (World.size_alloc _ _).symm rfl rfl rfl (by simp))) cmp4 (Lib.hid rfl)).mono ?_
  rintro e w24 ⟨rfl, hb⟩
  have hb : Below w23.heap.size w23 w24 := below_thru (by go_grown) hb
  have hB24 : Below w.heap.size w w24 := below_thru hB23 hb
  have hs24 := hB24.size
  have x_p24 : Box w24 (w7.heap.size) (P.map (Value.int .u8)) := Box.below x_p23 hb
  have x_q24 : Box w24 (w7.heap.size + 1) (Q.map (Value.int .u8)) := Box.below x_q23 hb
  clear hB23 hs23 x_p23 x_q23
  clear hb
  go_upto_region 14 with (refine wpList_store_box (cs := oneL.map (Value.int .u8)) rfl _ _ _ rfl (Box.newc (l := zero32) rfl rfl) rfl rfl size32 rfl (oneCell_ints _) ?_; intro W24_0 hW24_0)
  have hN : Below w24.heap.size w24 W24_0 := (hW24_0.below _ _ (by omega) ((Below.refl _ w24).alloc (Nat.le_refl _) _))
  have x_one25 : Box W24_0 (w24.heap.size) (oneL.map (Value.int .u8)) := hW24_0.box
  have hB25 : Below w.heap.size w W24_0 := below_thru hB24 hN
  have hs25 := hB25.size
  have x_p25 : Box W24_0 (w7.heap.size) (P.map (Value.int .u8)) := Box.below x_p24 hN
  have x_q25 : Box W24_0 (w7.heap.size + 1) (Q.map (Value.int .u8)) := Box.below x_q24 hN
  clear hB24 hs24 x_p24 x_q24
  clear hN hW24_0
  have p0 := x_p25.c 0 _ (nth_at 0 (by have := LP.out; omega)); have p1 := x_p25.c 63 _ (nth_at 63 (by have := LP.out; omega)); have q0 := x_q25.c 0 _ (nth_at 0 (by have := LQ.out; omega)); have q1 := x_q25.c 63 _ (nth_at 63 (by have := LQ.out; omega))
  rw [PN.out.1] at p0; rw [PN.out.2.1] at p1; rw [PN.out.2.2.1] at q0; rw [PN.out.2.2.2] at q1
  clear x_p25
  clear x_q25
  go_wp2_with ((refine wpList_load_boxw rfl _ _ rfl x_one25 rfl Tryd.underlying31 rfl size32 ?_))
  refine (mac_same (D1 := oneL) (D2 := zeros32) _ rfl rfl).mono ?_
  rintro e w26 ⟨rfl, hb⟩
  have hB26 : Below w.heap.size w w26 := below_thru hB25 hb
  have hs26 := hB26.size
  have x_one26 : Box w26 (w24.heap.size) (oneL.map (Value.int .u8)) := Box.below x_one25 hb
  clear hB25 hs25 x_one25
  clear hb
  rw [cmp5]
  go_wp2_with ((refine wpList_load_boxw rfl _ _ rfl x_one26 rfl Tryd.underlying31 rfl size32 ?_))
  refine (mac_same (D1 := oneL) (D2 := oneL) _ rfl rfl).mono ?_
  rintro e w27 ⟨rfl, hb⟩
  have hB27 : Below w.heap.size w w27 := below_thru hB26 hb
  have hs27 := hB27.size
  have x_one27 : Box w27 (w24.heap.size) (oneL.map (Value.int .u8)) := Box.below x_one26 hb
  clear hB26 hs26 x_one26
  clear hb
  rw [cmp6]
  go_wp2_with fail
  refine (alive6_tt _ (Lib.hid (hL.out.below hB27))).mono ?_
  rintro e wl ⟨rfl, hb⟩
  have hBl := below_thru hB27 hb
  go_wp2_with fail
  go_returns
  exact ⟨rfl, hBl⟩

end Go.Proofs.YtfobjdkpdeiidaaDoor
