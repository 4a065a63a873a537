/-
  ShaNames, walked: it returns true.
-/
import Derived.Test.YtlddlkapabmoeaaDoorHash05
namespace Go.Proofs.YtlddlkapabmoeaaDoor
open Go.RowKit

set_option maxRecDepth 100000 in
set_option maxHeartbeats 1600000 in
theorem sum_many (a0 : Option Addr) (l c : Nat) (w : World) (hl : 128000 < l) (hm : l ≤ 9223372036854775807) (hL : Hid (LaidS w)) :
    Calls Tryd.prog 10 #[.slice a0 l c] w fun e w' => e = .returned (.tuple #[zeroD, .int .i64 4]) ∧ Below w.heap.size w w' := by
  go_enter Tryd.func10, Tryd.ntmps10
  go_wp2_with fail
  refine (start_any _ (hL.out.alloc _)).mono ?_
  rintro e w1 ⟨rfl, hb⟩
  have hB1 : Below w.heap.size w w1 := below_thru (by go_grown) hb
  have hxr : Box w1 w.heap.size zero32 := Box.below (Box.newc rfl rfl) hb
  clear hb
  go_wp2_with fail
  refine (write_many first none 0 0 0 a0 l c _ (by omega) (by omega) (by omega) hm (Lib.hid (by decide)) (by omega)).mono ?_
  rintro e w2 ⟨rfl, hb⟩
  have hB2 : Below w.heap.size w w2 := below_thru hB1 hb
  have hxr2 : Box w2 w.heap.size zero32 := hxr.below hb
  have hs2 := hB2.size
  have hz2 := hxr2.lt
  clear hxr hB1 hb
  go_upto_region 2 with (refine wpList_store_box (cs := hashV zeroW (.slice none 0 0) 0) rfl _ _ _ rfl (Box.newc (l := zero10) rfl rfl) rfl rfl size10 rfl (hash_one _ _ _ _ _) ?_; intro W3 hW3)
  have hB3 : Below w.heap.size w W3 := hW3.below _ _ hs2 (hB2.alloc hs2 _)
  have hxr3 : Box W3 w.heap.size zero32 := hW3.past _ _ (by omega) (hxr2.alloc _)
  clear hW3 hxr2 hB2
  go_wp2_with (refine wpList_store_box (cs := zero32) rfl _ _ _ rfl hxr3 rfl rfl size32 rfl (oneCell_ints _) ?_; intro W5 hW5)
  exact bodyPost_ret (v := .tuple #[.agg zero32.toArray, .int .i64 4]) (results_box2 Tryd.results10 hW5.box rfl rfl Tryd.underlying24 rfl size32) rfl ⟨rfl, hW5.below _ _ (Nat.le_refl _) hB3⟩

theorem digs56 : Hid (digIs (bytesOfS ⟨#[97, 98, 99, 100, 98, 99, 100, 101, 99, 100, 101, 102, 100, 101, 102, 103, 101, 102, 103, 104, 102, 103, 104, 105, 103, 104, 105, 106, 104, 105, 106, 107, 105, 106, 107, 108, 106, 107, 108, 109, 107, 108, 109, 110, 108, 109, 110, 111, 109, 110, 111, 112, 110, 111, 112, 113]⟩) 36 141 106 97 193) := by
  rw [show bytesOfS ⟨#[97, 98, 99, 100, 98, 99, 100, 101, 99, 100, 101, 102, 100, 101, 102, 103, 101, 102, 103, 104, 102, 103, 104, 105, 103, 104, 105, 106, 104, 105, 106, 107, 105, 106, 107, 108, 106, 107, 108, 109, 107, 108, 109, 110, 108, 109, 110, 111, 109, 110, 111, 112, 110, 111, 112, 113]⟩ = msg56 from rfl]; exact Lib.hid dig56
/-- What the walk of the padding of 128,000 bytes looks at. -/
theorem pad_full : (padL 128000).length = 64 ∧ nth (padL 128000) 61 = 15 ∧ nth (padL 128000) 62 = 160 ∧ nth (padL 128000) 63 = 0 := by decide +kernel
theorem pad_none : (padL 0).length = 64 ∧ nth (padL 0) 63 = 0 := by decide +kernel
theorem made_all : ∃ Z : Array Value, ∀ w : World, (Instr.makeSlice 28 (.int .i64 128001) (.int .i64 128001)).run Tryd.prog w = .ok (.slice (some ⟨w.heap.size, 0, none⟩) 128001 128001) (w.alloc (.cells Z 5)) := ⟨zb 128001, make_bytes 128001 (by omega)⟩
theorem made_few (m : Nat) (n : Int) (hn : n = (m : Int)) (hm : m ≤ 1000) : ∃ Z : Array Value, (∀ w : World, (Instr.makeSlice 28 (.int .i64 n) (.int .i64 n)).run Tryd.prog w = .ok (.slice (some ⟨w.heap.size, 0, none⟩) m m) (w.alloc (.cells Z 5))) ∧
    ∀ w : World, IsL (w.alloc (.cells Z 5)) .u8 (.slice (some ⟨w.heap.size, 0, none⟩) m m) (List.replicate m 0) := by
  subst hn
  refine ⟨zb m, make_bytes m (by omega), fun w => ?_⟩
  exact IsL.built (b := w.heap.size) (n := m) (m := m) (c := zb m) (List.replicate m 0) rfl rfl (by simp) (by simp) (by simp; omega)
theorem zeros_b (m : Nat) : bytesL (List.replicate m 0) := bytesL.of_all fun x hx => by
  obtain ⟨_, rfl⟩ := List.mem_replicate.1 hx
  omega

set_option maxRecDepth 100000 in
set_option maxHeartbeats 6400000 in
theorem names5_any (w : World) (hL : Hid (LaidS w)) : Calls Tryd.prog 3 #[] w fun e w' => e = .returned (.bool true) ∧ Below w.heap.size w w' := by
  obtain ⟨Z1, m1⟩ := made_all
  obtain ⟨Z63, m63, i63⟩ := made_few 63 63 rfl (by omega)
  obtain ⟨Z64, m64, i64⟩ := made_few 64 64 rfl (by omega)
  obtain ⟨Z65, m65, i65⟩ := made_few 65 65 rfl (by omega)
  have I63 := Lib.hid i63
  have I64 := Lib.hid i64
  have I65 := Lib.hid i65
  clear i63 i64 i65
  obtain ⟨T, hT⟩ : ∃ T, after zeroW ([] ++ List.replicate 64 0) = T := ⟨_, rfl⟩
  have HT := Lib.hid hT
  clear hT
  obtain ⟨A, hA⟩ : ∃ A, A = padL 128000 := ⟨_, rfl⟩
  obtain ⟨B, hB⟩ : ∃ B, B = padL 0 := ⟨_, rfl⟩
  have PF := pad_full
  have PN := pad_none
  rw [← hA] at PF
  rw [← hB] at PN
  have PF := Lib.hid PF
  have PN := Lib.hid PN
  have HA := Lib.hid hA
  have HB := Lib.hid hB
  clear hA hB
  go_enter Tryd.func3, Tryd.ntmps3
  go_wp2_with fail
  refine (is_tt ⟨#[97, 98, 99, 100, 98, 99, 100, 101, 99, 100, 101, 102, 100, 101, 102, 103, 101, 102, 103, 104, 102, 103, 104, 105, 103, 104, 105, 106, 104, 105, 106, 107, 105, 106, 107, 108, 106, 107, 108, 109, 107, 108, 109, 110, 108, 109, 110, 111, 109, 110, 111, 112, 110, 111, 112, 113]⟩ _ _ _ _ _ _ (by decide +kernel) digs56 hL).mono ?_
  rintro e w1 ⟨rfl, hb⟩
  have hB1 : Below w.heap.size w w1 := below_thru (by go_grown) hb
  have hs1 := hB1.size
  clear hb
  go_wp2_with fail
  refine (sum_many _ 128001 128001 _ (by omega) (by omega) (Lib.hid (hL.out.below (by go_grown)))).mono ?_
  rintro e w2 ⟨rfl, hb⟩
  have hB2 : Below w.heap.size w w2 := below_thru (by go_grown) hb
  have hs2 := hB2.size
  clear hb hB1 hs1
  go_upto_region 3 with (refine wpList_store_box (cs := zero32) rfl _ _ _ rfl (Box.newc (l := zero32) rfl rfl) rfl rfl size32 rfl (oneCell_ints _) ?_; intro V2 hV2)
  have hB3 : Below w.heap.size w V2 := hV2.below _ _ hs2 (hB2.alloc hs2 _)
  have hN : Below w2.heap.size w2 V2 := hV2.below _ _ (Nat.le_refl _) ((Below.refl _ w2).alloc (Nat.le_refl _) _)
  have hs3 := hB3.size
  clear hB2 hs2 hN
  go_wp2_with fail
  refine (pad_no (-1) _ (by omega) (by omega) (Lib.hid (by decide))).mono ?_
  rintro e w4 ⟨u1, rfl, hu, hb⟩
  have hB4 : Below w.heap.size w w4 := below_thru (by go_grown) hb
  clear hu
  have hs4 := hB4.size
  clear hb hB3 hs3
  go_wp2_with fail
  refine (pad_no 128001 _ (by omega) (by omega) (Lib.hid (by decide))).mono ?_
  rintro e w5 ⟨u2, rfl, hu, hb⟩
  have hB5 : Below w.heap.size w w5 := below_thru (by go_grown) hb
  clear hu
  have hs5 := hB5.size
  clear hb hB4 hs4
  go_wp2_with fail
  refine (pad_ok 128000 _ (by omega)).mono ?_
  rintro e w6 ⟨vp, rfl, hu, hb⟩
  have hB6 : Below w.heap.size w w6 := below_thru (by go_grown) hb
  rw [← HA.out] at hu
  obtain ⟨ap, cp, ev, _, _⟩ := id hu
  rw [PF.out.1] at ev
  subst ev
  have p_6 : Hid (IsL w6 .u8 (.slice ap 64 cp) A) := Lib.hid hu
  have hs6 := hB6.size
  clear hb hu hB5 hs5
  go_wp2_with fail
  refine (pad_ok 0 _ (by omega)).mono ?_
  rintro e w7 ⟨vq, rfl, hu, hb⟩
  have hB7 : Below w.heap.size w w7 := below_thru (by go_grown) hb
  have p_7 : Hid (IsL w7 .u8 (.slice ap 64 cp) A) := Lib.hid (IsL.below (by repeat (first | (with_reducible exact Hid.out (by with_reducible assumption)) | (with_reducible refine IsL.alloc ?_ _))) hb)
  rw [← HB.out] at hu
  obtain ⟨aq, cq, ev, _, _⟩ := id hu
  rw [PN.out.1] at ev
  subst ev
  have q_7 : Hid (IsL w7 .u8 (.slice aq 64 cq) B) := Lib.hid hu
  have hs7 := hB7.size
  clear hb hu hB6 hs6 p_6
  go_wp2_with fail
  refine (bBlock_no zeroW _ 63 63 _ (by omega) (by omega)).mono ?_
  rintro e w8 ⟨rfl, hb⟩
  have hB8 : Below w.heap.size w w8 := below_thru (by go_grown) hb
  have p_8 := Lib.hid (IsL.below (by repeat (first | (with_reducible exact Hid.out (by with_reducible assumption)) | (with_reducible refine IsL.alloc ?_ _))) hb : IsL w8 .u8 (.slice ap 64 cp) A)
  have q_8 := Lib.hid (IsL.below (by repeat (first | (with_reducible exact Hid.out (by with_reducible assumption)) | (with_reducible refine IsL.alloc ?_ _))) hb : IsL w8 .u8 (.slice aq 64 cq) B)
  have hs8 := hB8.size
  clear hb hB7 hs7 p_7 q_7
  go_upto_region 8 with (refine wpList_store_box (cs := zero8) rfl _ _ _ rfl (Box.newc (l := zero8) rfl rfl) rfl rfl size8 rfl (hv_one zeroW) ?_; intro V8 hV8)
  have hB9 : Below w.heap.size w V8 := hV8.below _ _ hs8 (hB8.alloc hs8 _)
  have hN : Below w8.heap.size w8 V8 := hV8.below _ _ (Nat.le_refl _) ((Below.refl _ w8).alloc (Nat.le_refl _) _)
  have p_9 := Lib.hid (IsL.below (Hid.out p_8) hN)
  have q_9 := Lib.hid (IsL.below (Hid.out q_8) hN)
  have hs9 := hB9.size
  clear hB8 hs8 hN p_8 q_8
  go_wp2_with fail
  refine (bBlock_no zeroW _ 65 65 _ (by omega) (by omega)).mono ?_
  rintro e w10 ⟨rfl, hb⟩
  have hB10 : Below w.heap.size w w10 := below_thru (by go_grown) hb
  have p_10 := Lib.hid (IsL.below (by repeat (first | (with_reducible exact Hid.out (by with_reducible assumption)) | (with_reducible refine IsL.alloc ?_ _))) hb : IsL w10 .u8 (.slice ap 64 cp) A)
  have q_10 := Lib.hid (IsL.below (by repeat (first | (with_reducible exact Hid.out (by with_reducible assumption)) | (with_reducible refine IsL.alloc ?_ _))) hb : IsL w10 .u8 (.slice aq 64 cq) B)
  have hs10 := hB10.size
  clear hb hB9 hs9 p_9 q_9
  go_upto_region 9 with (refine wpList_store_box (cs := zero8) rfl _ _ _ rfl (Box.newc (l := zero8) rfl rfl) rfl rfl size8 rfl (hv_one zeroW) ?_; intro V10 hV10)
  have hB11 : Below w.heap.size w V10 := hV10.below _ _ hs10 (hB10.alloc hs10 _)
  have hN : Below w10.heap.size w10 V10 := hV10.below _ _ (Nat.le_refl _) ((Below.refl _ w10).alloc (Nat.le_refl _) _)
  have p_11 := Lib.hid (IsL.below (Hid.out p_10) hN)
  have q_11 := Lib.hid (IsL.below (Hid.out q_10) hN)
  have hs11 := hB11.size
  clear hB10 hs10 hN p_10 q_10
  go_wp2_with fail
  refine (write_bad zeroW none 0 0 (-64) _ _ (by unfold i64n; omega) (by omega) (Lib.hid (by decide))).mono ?_
  rintro e w12 ⟨rfl, hb⟩
  have hB12 : Below w.heap.size w w12 := below_thru (by go_grown) hb
  have p_12 := Lib.hid (IsL.below (by repeat (first | (with_reducible exact Hid.out (by with_reducible assumption)) | (with_reducible refine IsL.alloc ?_ _))) hb : IsL w12 .u8 (.slice ap 64 cp) A)
  have q_12 := Lib.hid (IsL.below (by repeat (first | (with_reducible exact Hid.out (by with_reducible assumption)) | (with_reducible refine IsL.alloc ?_ _))) hb : IsL w12 .u8 (.slice aq 64 cq) B)
  have hs12 := hB12.size
  clear hb hB11 hs11 p_11 q_11
  go_upto_region 10 with (refine wpList_store_box (cs := hashV zeroW (.slice none 0 0) 0) rfl _ _ _ rfl (Box.newc (l := zero10) rfl rfl) rfl rfl size10 rfl (hash_one _ _ _ _ _) ?_; intro V12 hV12)
  have hB13 : Below w.heap.size w V12 := hV12.below _ _ hs12 (hB12.alloc hs12 _)
  have hN : Below w12.heap.size w12 V12 := hV12.below _ _ (Nat.le_refl _) ((Below.refl _ w12).alloc (Nat.le_refl _) _)
  have p_13 := Lib.hid (IsL.below (Hid.out p_12) hN)
  have q_13 := Lib.hid (IsL.below (Hid.out q_12) hN)
  have hs13 := hB13.size
  clear hB12 hs12 hN p_12 q_12
  go_wp2_with fail
  refine (write_bad zeroW none 0 0 1 _ _ (by unfold i64n; omega) (by omega) (Lib.hid (by decide))).mono ?_
  rintro e w14 ⟨rfl, hb⟩
  have hB14 : Below w.heap.size w w14 := below_thru (by go_grown) hb
  have p_14 := Lib.hid (IsL.below (by repeat (first | (with_reducible exact Hid.out (by with_reducible assumption)) | (with_reducible refine IsL.alloc ?_ _))) hb : IsL w14 .u8 (.slice ap 64 cp) A)
  have q_14 := Lib.hid (IsL.below (by repeat (first | (with_reducible exact Hid.out (by with_reducible assumption)) | (with_reducible refine IsL.alloc ?_ _))) hb : IsL w14 .u8 (.slice aq 64 cq) B)
  have hs14 := hB14.size
  clear hb hB13 hs13 p_13 q_13
  go_upto_region 11 with (refine wpList_store_box (cs := hashV zeroW (.slice none 0 0) 0) rfl _ _ _ rfl (Box.newc (l := zero10) rfl rfl) rfl rfl size10 rfl (hash_one _ _ _ _ _) ?_; intro V14 hV14)
  have hB15 : Below w.heap.size w V14 := hV14.below _ _ hs14 (hB14.alloc hs14 _)
  have hN : Below w14.heap.size w14 V14 := hV14.below _ _ (Nat.le_refl _) ((Below.refl _ w14).alloc (Nat.le_refl _) _)
  have p_15 := Lib.hid (IsL.below (Hid.out p_14) hN)
  have q_15 := Lib.hid (IsL.below (Hid.out q_14) hN)
  have hs15 := hB15.size
  clear hB14 hs14 hN p_14 q_14
  go_wp2_with fail
  refine (write_bad zeroW _ 64 64 64 _ _ (by unfold i64n; omega) (by omega) (Lib.hid (by decide))).mono ?_
  rintro e w16 ⟨rfl, hb⟩
  have hB16 : Below w.heap.size w w16 := below_thru (by go_grown) hb
  have p_16 := Lib.hid (IsL.below (by repeat (first | (with_reducible exact Hid.out (by with_reducible assumption)) | (with_reducible refine IsL.alloc ?_ _))) hb : IsL w16 .u8 (.slice ap 64 cp) A)
  have q_16 := Lib.hid (IsL.below (by repeat (first | (with_reducible exact Hid.out (by with_reducible assumption)) | (with_reducible refine IsL.alloc ?_ _))) hb : IsL w16 .u8 (.slice aq 64 cq) B)
  have hs16 := hB16.size
  clear hb hB15 hs15 p_15 q_15
  go_upto_region 12 with (refine wpList_store_box (cs := hashV zeroW (.slice none 0 0) 0) rfl _ _ _ rfl (Box.newc (l := zero10) rfl rfl) rfl rfl size10 rfl (hash_one _ _ _ _ _) ?_; intro V16 hV16)
  have hB17 : Below w.heap.size w V16 := hV16.below _ _ hs16 (hB16.alloc hs16 _)
  have hN : Below w16.heap.size w16 V16 := hV16.below _ _ (Nat.le_refl _) ((Below.refl _ w16).alloc (Nat.le_refl _) _)
  have p_17 := Lib.hid (IsL.below (Hid.out p_16) hN)
  have q_17 := Lib.hid (IsL.below (Hid.out q_16) hN)
  have hs17 := hB17.size
  clear hB16 hs16 hN p_16 q_16
  go_wp2_with fail
  refine (write_many zeroW none 0 0 128000 _ 1 1 _ (by omega) (by omega) (by omega) (by omega) (Lib.hid (by decide)) (by omega)).mono ?_
  rintro e w18 ⟨rfl, hb⟩
  have hB18 : Below w.heap.size w w18 := below_thru (by go_grown) hb
  have p_18 := Lib.hid (IsL.below (by repeat (first | (with_reducible exact Hid.out (by with_reducible assumption)) | (with_reducible refine IsL.alloc ?_ _))) hb : IsL w18 .u8 (.slice ap 64 cp) A)
  have q_18 := Lib.hid (IsL.below (by repeat (first | (with_reducible exact Hid.out (by with_reducible assumption)) | (with_reducible refine IsL.alloc ?_ _))) hb : IsL w18 .u8 (.slice aq 64 cq) B)
  have hs18 := hB18.size
  clear hb hB17 hs17 p_17 q_17
  go_upto_region 13 with (refine wpList_store_box (cs := hashV zeroW (.slice none 0 0) 0) rfl _ _ _ rfl (Box.newc (l := zero10) rfl rfl) rfl rfl size10 rfl (hash_one _ _ _ _ _) ?_; intro V18 hV18)
  have hB19 : Below w.heap.size w V18 := hV18.below _ _ hs18 (hB18.alloc hs18 _)
  have hN : Below w18.heap.size w18 V18 := hV18.below _ _ (Nat.le_refl _) ((Below.refl _ w18).alloc (Nat.le_refl _) _)
  have p_19 := Lib.hid (IsL.below (Hid.out p_18) hN)
  have q_19 := Lib.hid (IsL.below (Hid.out q_18) hN)
  have hs19 := hB19.size
  clear hB18 hs18 hN p_18 q_18
  go_wp2_with fail
  refine (write_many zeroW none 0 0 127936 _ 65 65 _ (by omega) (by omega) (by omega) (by omega) (Lib.hid (by decide)) (by omega)).mono ?_
  rintro e w20 ⟨rfl, hb⟩
  have hB20 : Below w.heap.size w w20 := below_thru (by go_grown) hb
  have p_20 := Lib.hid (IsL.below (by repeat (first | (with_reducible exact Hid.out (by with_reducible assumption)) | (with_reducible refine IsL.alloc ?_ _))) hb : IsL w20 .u8 (.slice ap 64 cp) A)
  have q_20 := Lib.hid (IsL.below (by repeat (first | (with_reducible exact Hid.out (by with_reducible assumption)) | (with_reducible refine IsL.alloc ?_ _))) hb : IsL w20 .u8 (.slice aq 64 cq) B)
  have hs20 := hB20.size
  clear hb hB19 hs19 p_19 q_19
  go_upto_region 14 with (refine wpList_store_box (cs := hashV zeroW (.slice none 0 0) 0) rfl _ _ _ rfl (Box.newc (l := zero10) rfl rfl) rfl rfl size10 rfl (hash_one _ _ _ _ _) ?_; intro V20 hV20)
  have hB21 : Below w.heap.size w V20 := hV20.below _ _ hs20 (hB20.alloc hs20 _)
  have hN : Below w20.heap.size w20 V20 := hV20.below _ _ (Nat.le_refl _) ((Below.refl _ w20).alloc (Nat.le_refl _) _)
  have p_21 := Lib.hid (IsL.below (Hid.out p_20) hN)
  have q_21 := Lib.hid (IsL.below (Hid.out q_20) hN)
  have hs21 := hB21.size
  clear hB20 hs20 hN p_20 q_20
  go_wp2_with fail
  have hBq : Below w.heap.size w (V20.alloc (.cells Z64 5)) := by go_grown
  refine (write_is (h := zeroW) (rs := []) (ys := List.replicate 64 0) (zs := []) (n := 127936) (m := 128000) _ ⟨none, 0, rfl, IsL.none⟩ (I64.out _) (Lib.hid (by decide)) (by simp) HT (Lib.hid (by decide +kernel)) (Lib.hid (by decide)) (Lib.hid bytesL.nil) (Lib.hid (zeros_b 64)) (hL.out.below hBq)).mono ?_
  rintro e w22 ⟨sf, df, rfl, ho⟩
  have hb := ho.2
  have hB22 : Below w.heap.size w w22 := below_thru hBq hb
  have p_22 := Lib.hid (IsL.below (by repeat (first | (with_reducible exact Hid.out (by with_reducible assumption)) | (with_reducible refine IsL.alloc ?_ _))) hb : IsL w22 .u8 (.slice ap 64 cp) A)
  have q_22 := Lib.hid (IsL.below (by repeat (first | (with_reducible exact Hid.out (by with_reducible assumption)) | (with_reducible refine IsL.alloc ?_ _))) hb : IsL w22 .u8 (.slice aq 64 cq) B)
  have hs22 := hB22.size
  clear hb ho hBq hB21 hs21 p_21 q_21
  go_upto_region 15 with (refine wpList_store_box (cs := hashV T (.slice sf 0 df) 128000) rfl _ _ _ rfl (Box.newc (l := zero10) rfl rfl) rfl rfl size10 rfl (hash_one _ _ _ _ _) ?_; intro V22 hV22)
  have hB23 : Below w.heap.size w V22 := hV22.below _ _ hs22 (hB22.alloc hs22 _)
  have hN : Below w22.heap.size w22 V22 := hV22.below _ _ (Nat.le_refl _) ((Below.refl _ w22).alloc (Nat.le_refl _) _)
  have p_23 := Lib.hid (IsL.below (Hid.out p_22) hN)
  have q_23 := Lib.hid (IsL.below (Hid.out q_22) hN)
  have hs23 := hB23.size
  clear hB22 hs22 hN p_22 q_22
  have F_23 := Lib.hid hV22.box
  go_wp2_with fail
  refine (finish_bad zeroW none 0 0 128064 _ (by unfold i64n; omega) (by omega) (Lib.hid (by decide))).mono ?_
  rintro e w24 ⟨rfl, hb⟩
  have hB24 : Below w.heap.size w w24 := below_thru (by go_grown) hb
  have p_24 := Lib.hid (IsL.below (by repeat (first | (with_reducible exact Hid.out (by with_reducible assumption)) | (with_reducible refine IsL.alloc ?_ _))) hb : IsL w24 .u8 (.slice ap 64 cp) A)
  have q_24 := Lib.hid (IsL.below (by repeat (first | (with_reducible exact Hid.out (by with_reducible assumption)) | (with_reducible refine IsL.alloc ?_ _))) hb : IsL w24 .u8 (.slice aq 64 cq) B)
  have F_24 : Hid (Box w24 (w22.heap.size) (hashV T (.slice sf 0 df) 128000)) := Lib.hid (Box.below (by repeat (first | (with_reducible exact Hid.out (by with_reducible assumption)) | (with_reducible refine Box.alloc ?_ _))) hb)
  clear F_23
  have hs24 := hB24.size
  clear hb hB23 hs23 p_23 q_23
  go_upto_region 16 with (refine wpList_store_box (cs := zero32) rfl _ _ _ rfl (Box.newc (l := zero32) rfl rfl) rfl rfl size32 rfl (oneCell_ints _) ?_; intro V24 hV24)
  have hB25 : Below w.heap.size w V24 := hV24.below _ _ hs24 (hB24.alloc hs24 _)
  have hN : Below w24.heap.size w24 V24 := hV24.below _ _ (Nat.le_refl _) ((Below.refl _ w24).alloc (Nat.le_refl _) _)
  have p_25 := Lib.hid (IsL.below (Hid.out p_24) hN)
  have q_25 := Lib.hid (IsL.below (Hid.out q_24) hN)
  have hs25 := hB25.size
  have F_25 : Hid (Box V24 (w22.heap.size) (hashV T (.slice sf 0 df) 128000)) := Lib.hid (Box.below (Hid.out F_24) hN)
  clear F_24
  clear hB24 hs24 hN p_24 q_24
  go_wp2_with fail
  refine (finish_bad zeroW _ 2 2 3 _ (by unfold i64n; omega) (by omega) (Lib.hid (by decide))).mono ?_
  rintro e w26 ⟨rfl, hb⟩
  have hB26 : Below w.heap.size w w26 := below_thru (by go_grown) hb
  have p_26 := Lib.hid (IsL.below (by repeat (first | (with_reducible exact Hid.out (by with_reducible assumption)) | (with_reducible refine IsL.alloc ?_ _))) hb : IsL w26 .u8 (.slice ap 64 cp) A)
  have q_26 := Lib.hid (IsL.below (by repeat (first | (with_reducible exact Hid.out (by with_reducible assumption)) | (with_reducible refine IsL.alloc ?_ _))) hb : IsL w26 .u8 (.slice aq 64 cq) B)
  have F_26 : Hid (Box w26 (w22.heap.size) (hashV T (.slice sf 0 df) 128000)) := Lib.hid (Box.below (by repeat (first | (with_reducible exact Hid.out (by with_reducible assumption)) | (with_reducible refine Box.alloc ?_ _))) hb)
  clear F_25
  have hs26 := hB26.size
  clear hb hB25 hs25 p_25 q_25
  go_upto_region 17 with (refine wpList_store_box (cs := zero32) rfl _ _ _ rfl (Box.newc (l := zero32) rfl rfl) rfl rfl size32 rfl (oneCell_ints _) ?_; intro V26 hV26)
  have hB27 : Below w.heap.size w V26 := hV26.below _ _ hs26 (hB26.alloc hs26 _)
  have hN : Below w26.heap.size w26 V26 := hV26.below _ _ (Nat.le_refl _) ((Below.refl _ w26).alloc (Nat.le_refl _) _)
  have p_27 := Lib.hid (IsL.below (Hid.out p_26) hN)
  have q_27 := Lib.hid (IsL.below (Hid.out q_26) hN)
  have hs27 := hB27.size
  have F_27 : Hid (Box V26 (w22.heap.size) (hashV T (.slice sf 0 df) 128000)) := Lib.hid (Box.below (Hid.out F_26) hN)
  clear F_26
  clear hB26 hs26 hN p_26 q_26
  have hf := F_27.out
  have c8 := hf.c 8 _ rfl
  have c9 := hf.c 9 _ rfl
  clear hf
  obtain ⟨bp, op, rfl, cp61⟩ := p_27.out.get 61 (by rw [PF.out.1]; omega)
  obtain ⟨bq, oq, rfl, cq63⟩ := q_27.out.get 63 (by rw [PN.out.1]; omega)
  obtain ⟨_, _, e62, cp62⟩ := p_27.out.get 62 (by rw [PF.out.1]; omega)
  cases e62
  obtain ⟨_, _, e63, cp63⟩ := p_27.out.get 63 (by rw [PF.out.1]; omega)
  cases e63
  have rp := p_27.out.room
  have rq := q_27.out.room
  rw [PF.out.2.1] at cp61
  rw [PF.out.2.2.1] at cp62
  rw [PF.out.2.2.2] at cp63
  rw [PN.out.2] at cq63
  rw [PF.out.1] at rp
  rw [PN.out.1] at rq
  have rp1 := rp.2.1
  have rp2 := rp.2.2
  have rq1 := rq.2.1
  have rq2 := rq.2.2
  clear rp rq
  go_wp2_with fail
  refine (alive_tt _ (Lib.hid (hL.out.below hB27))).mono ?_
  rintro e wl ⟨rfl, hb⟩
  have hBl : Below w.heap.size w wl := below_thru hB27 hb
  go_wp2_with fail
  go_returns
  exact ⟨rfl, hBl⟩

end Go.Proofs.YtlddlkapabmoeaaDoor
