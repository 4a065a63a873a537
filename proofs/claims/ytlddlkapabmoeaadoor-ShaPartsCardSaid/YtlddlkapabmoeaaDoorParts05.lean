/-
  ShaParts, walked: it returns true.
-/
import Derived.Test.YtlddlkapabmoeaaDoorHash05
namespace Go.Proofs.YtlddlkapabmoeaaDoor
open Go.RowKit

set_option maxRecDepth 100000 in
set_option maxHeartbeats 1600000 in
theorem parts5_long {a0 a1 a2 : Option Addr} {c0 c1 c2 : Nat} {xs ys zs : List Int} (w : World) (hl : 1000 < xs.length ∨ 1000 < ys.length ∨ 1000 < zs.length)
    (m0 : xs.length ≤ 9223372036854775807) (m1 : ys.length ≤ 9223372036854775807) (m2 : zs.length ≤ 9223372036854775807) (hL : Hid (LaidS w)) :
    Calls Tryd.prog 6 #[.slice a0 xs.length c0, .slice a1 ys.length c1, .slice a2 zs.length c2] w fun e w' => e = .returned (.bool true) ∧ Below w.heap.size w w' := by
  rcases Nat.lt_or_ge 1000 xs.length with q0 | q0
  · clear hl
    go_enter Tryd.func6, Tryd.ntmps6
    go_wp2_with fail
    refine (alive_tt _ hL).mono ?_
    rintro e w1 ⟨rfl, hb⟩
    go_wp2_with fail
    go_returns
    exact ⟨rfl, hb⟩
  · rcases Nat.lt_or_ge 1000 ys.length with q1 | q1
    · clear hl
      go_enter Tryd.func6, Tryd.ntmps6
      go_wp2_with fail
      refine (alive_tt _ hL).mono ?_
      rintro e w1 ⟨rfl, hb⟩
      go_wp2_with fail
      go_returns
      exact ⟨rfl, hb⟩
    · have q2 : 1000 < zs.length := by omega
      clear hl
      go_enter Tryd.func6, Tryd.ntmps6
      go_wp2_with fail
      refine (alive_tt _ hL).mono ?_
      rintro e w1 ⟨rfl, hb⟩
      go_wp2_with fail
      go_returns
      exact ⟨rfl, hb⟩

set_option maxRecDepth 100000 in
set_option maxHeartbeats 6400000 in
theorem parts5_main {a0 a1 a2 : Option Addr} {c0 c1 c2 : Nat} {xs ys zs : List Int} (w : World) (q0 : xs.length ≤ 1000) (q1 : ys.length ≤ 1000) (q2 : zs.length ≤ 1000)
    (i0 : Hid (IsL w .u8 (.slice a0 xs.length c0) xs)) (i1 : Hid (IsL w .u8 (.slice a1 ys.length c1) ys)) (i2 : Hid (IsL w .u8 (.slice a2 zs.length c2) zs))
    (b0 : Hid (bytesL xs)) (b1 : Hid (bytesL ys)) (b2 : Hid (bytesL zs)) (hL : Hid (LaidS w)) :
    Calls Tryd.prog 6 #[.slice a0 xs.length c0, .slice a1 ys.length c1, .slice a2 zs.length c2] w fun e w' => e = .returned (.bool true) ∧ Below w.heap.size w w' := by
  obtain ⟨T1, e1⟩ : ∃ T, after first ([] ++ xs) = T := ⟨_, rfl⟩
  obtain ⟨r1, k1⟩ : ∃ r, restOf ([] ++ xs) = r := ⟨_, rfl⟩
  obtain ⟨T2, e2⟩ : ∃ T, after T1 (r1 ++ ys) = T := ⟨_, rfl⟩
  obtain ⟨r2, k2⟩ : ∃ r, restOf (r1 ++ ys) = r := ⟨_, rfl⟩
  obtain ⟨T3, e3⟩ : ∃ T, after T2 (r2 ++ zs) = T := ⟨_, rfl⟩
  obtain ⟨r3, k3⟩ : ∃ r, restOf (r2 ++ zs) = r := ⟨_, rfl⟩
  obtain ⟨A, hA⟩ : ∃ A, A = xs ++ ys ++ zs := ⟨_, rfl⟩
  obtain ⟨D, hD⟩ : ∃ D, shaOf A = D := ⟨_, rfl⟩
  obtain ⟨t1, t2, l1, l2, l3⟩ := three_parts e1 k1 e2 k2 e3 k3
  rw [← hA] at t1 t2
  have lA : A.length = xs.length + ys.length + zs.length := by rw [hA, List.length_append, List.length_append]
  have bA : bytesL A := by rw [hA]; exact (b0.out.append b1.out).append b2.out
  obtain ⟨N2, n2⟩ : ∃ N, N = xs.length + ys.length := ⟨_, rfl⟩
  rw [← n2] at l2 l3 lA
  obtain ⟨N3, n3⟩ : ∃ N, N = N2 + zs.length := ⟨_, rfl⟩
  rw [← n3] at l3 lA
  have c1' : bytesL r1 := by rw [← k1]; exact (bytesL.nil.append b0.out).drop _
  have c2' : bytesL r2 := by rw [← k2]; exact (c1'.append b1.out).drop _
  have c3' : bytesL r3 := by rw [← k3]; exact (c2'.append b2.out).drop _
  have hDD : dig (after T3 (r3 ++ padL N3)) = D := by
    rw [← hD, ← t1, ← t2]
    unfold shaOf
    rw [List.nil_append, ← after_append, lA]
  have hDl : D.length = 32 := by rw [← hDD, dig_len]
  have E1 := Lib.hid e1
  have E2 := Lib.hid e2
  have E3 := Lib.hid e3
  have K1 := Lib.hid k1
  have K2 := Lib.hid k2
  have K3 := Lib.hid k3
  have HD := Lib.hid hD
  have HDD := Lib.hid hDD
  have HT1 := Lib.hid t1
  have HT2 := Lib.hid t2
  have HA := Lib.hid hA
  have HBA := Lib.hid bA
  have V1 := Lib.hid (vldN (by omega) l1)
  have V2 := Lib.hid (vldN (n := N2) (by omega) l2)
  have V3 := Lib.hid (vldN (n := N3) (by omega) l3)
  have C1 := Lib.hid c1'
  have C2 := Lib.hid c2'
  have C3 := Lib.hid c3'
  have M1 := Lib.hid (show (xs.length : Int) + ys.length = (N2 : Int) by omega)
  have M2 := Lib.hid (show (N2 : Int) + zs.length = (N3 : Int) by omega)
  have M3 := Lib.hid (show (0 : Int) + A.length = (N3 : Int) by omega)
  have LA := Lib.hid lA
  have bN2 : N2 ≤ 2000 := by omega
  have bN3 : N3 ≤ 3000 := by omega
  have HEQ := Lib.hid (eq_dig D hDl)
  have I32 := Lib.hid (show (Tryd.prog.info? 24).map (·.size) = some (D.map (Value.int .u8)).length by rw [List.length_map, hDl]; exact size32)
  have HLL := Lib.hid (show zero32.length = (D.map (Value.int .u8)).length by rw [List.length_map, hDl]; rfl)
  obtain ⟨ti, hin, hz0, hz1, hz2⟩ := info8
  clear e1 e2 e3 k1 k2 k3 hD hDD t1 t2 hA bA l1 l2 l3 lA c1' c2' c3' hDl n2 n3
  go_enter Tryd.func6, Tryd.ntmps6
  go_wp2_with fail
  -- h, e := Write(Start(), a)
  refine (start_is _ hL.out).mono ?_
  rintro e w1 ⟨v1, rfl, hh, hB1⟩
  go_wp2_with fail
  refine (write_is _ hh (IsL.below i0.out hB1) (Lib.hid vld0) (by omega) E1 K1 (Lib.hid (Int.zero_add _)) (Lib.hid bytesL.nil) b0 (hL.out.below hB1)).mono ?_
  rintro e w2 ⟨s1, d1, rfl, ho⟩
  have hB2 : Below w.heap.size w w2 := below_thru hB1 ho.2
  have J1 := Lib.hid ho.is
  have hs2 := hB2.size
  clear ho hB1 hh
  go_upto_region 4 with (refine wpList_store_box (cs := hashV T1 (.slice s1 r1.length d1) (xs.length : Int)) rfl _ _ _ rfl (Box.newc (l := zero10) rfl rfl) rfl rfl size10 rfl (hash_one _ _ _ _ _) ?_; intro W3 hW3)
  have hB3 : Below w.heap.size w W3 := hW3.below _ _ hs2 (hB2.alloc hs2 _)
  have hxh3 := hW3.box
  have J1b := Lib.hid (IsL.below J1.out (hW3.below _ _ (Nat.le_refl _) ((Below.refl _ w2).alloc (Nat.le_refl _) _)))
  have hz3 := hxh3.lt
  clear hW3 hB2 J1
  -- h, f := Write(h, b)
  go_wp2_with (refine wpList_load_box rfl _ _ rfl hxh3 rfl Tryd.underlying36 rfl size10 ?_)
  refine (write_is _ ⟨s1, d1, rfl, J1b.out⟩ (IsL.below i1.out hB3) V1 (by omega) E2 K2 M1 C1 b1 (hL.out.below hB3)).mono ?_
  rintro e w4 ⟨s2, d2, rfl, ho⟩
  have hB4 : Below w.heap.size w w4 := below_thru hB3 ho.2
  have hxh4 := hxh3.below ho.2
  have J2 := Lib.hid ho.is
  have R2 := Lib.hid ho.range
  clear ho hB3 J1b hxh3
  go_upto_region 5 with (refine wpList_store_box (cs := hashV T2 (.slice s2 r2.length d2) (N2 : Int)) rfl _ _ _ rfl hxh4 rfl rfl size10 rfl (hash_one _ _ _ _ _) ?_; intro W5 hW5)
  have hB5 : Below w.heap.size w W5 := hW5.below _ _ hs2 hB4
  have hxh5 := hW5.box
  have J2b := Lib.hid (IsL.stored J2.out hW5 (fun g hg => by have := R2.out g hg; omega))
  have hz5 := hxh5.lt
  clear hW5 hB4 J2 R2 hxh4 hz3
  -- h, g := Write(h, c)
  go_wp2_with (refine wpList_load_box rfl _ _ rfl hxh5 rfl Tryd.underlying36 rfl size10 ?_)
  refine (write_is _ ⟨s2, d2, rfl, J2b.out⟩ (IsL.below i2.out hB5) V2 (by omega) E3 K3 M2 C2 b2 (hL.out.below hB5)).mono ?_
  rintro e w6 ⟨s3, d3, rfl, ho⟩
  have hB6 : Below w.heap.size w w6 := below_thru hB5 ho.2
  have hxh6 := hxh5.below ho.2
  have J3 := Lib.hid ho.is
  have R3 := Lib.hid ho.range
  clear ho hB5 J2b hxh5
  go_upto_region 6 with (refine wpList_store_box (cs := hashV T3 (.slice s3 r3.length d3) (N3 : Int)) rfl _ _ _ rfl hxh6 rfl rfl size10 rfl (hash_one _ _ _ _ _) ?_; intro W7 hW7)
  have hB7 : Below w.heap.size w W7 := hW7.below _ _ hs2 hB6
  have hxh7 := hW7.box
  have J3b := Lib.hid (IsL.stored J3.out hW7 (fun g hg => by have := R3.out g hg; omega))
  have hz7 := hxh7.lt
  clear hW7 hB6 J3 R3 hxh6 hz5
  -- x, i := Finish(h)
  go_wp2_with (refine wpList_load_box rfl _ _ rfl hxh7 rfl Tryd.underlying36 rfl size10 ?_)
  refine (finish_is N3 _ ⟨s3, d3, rfl, J3b.out⟩ V3 HDD C3 (hL.out.below hB7)).mono ?_
  rintro e w8 ⟨rfl, hb⟩
  have hB8 : Below w.heap.size w w8 := below_thru hB7 hb
  have hxh8 := hxh7.below hb
  have J8 := Lib.hid (IsL.below J3b.out hb)
  have hs8 := hB8.size
  have hz8 := hxh8.lt
  clear hb hB7 hxh7 J3b hz7
  go_upto_region 7 with (refine wpList_store_box (cs := D.map (Value.int .u8)) rfl _ _ _ rfl (Box.newc (l := zero32) rfl rfl) rfl rfl I32.out HLL.out (oneCell_ints _) ?_; intro W9 hW9)
  have hB9 : Below w.heap.size w W9 := hW9.below _ _ hs8 (hB8.alloc hs8 _)
  have hxd9 := hW9.box
  have hxh9 : Box W9 w2.heap.size (hashV T3 (.slice s3 r3.length d3) (N3 : Int)) := hW9.past _ _ (by omega) (hxh8.alloc _)
  have J9 := Lib.hid (IsL.below J8.out (hW9.below _ _ (Nat.le_refl _) ((Below.refl _ w8).alloc (Nat.le_refl _) _)))
  have hz9 := hxd9.lt
  clear hW9 hB8 hxh8 J8
  -- all := append(append(append([]byte{}, a...), b...), c...)
  go_upto_region 8 with (first
    | (at_builtin; refine wpList_append_built rfl _ _ 28 rfl 5 ti (.int .u8 0) 1 .u8 Tryd.underlying28 hin hz0 hz1 hz2 rfl [] xs _ (.slice a0 xs.length c0) _ _ _ rfl rfl rfl rfl rfl rfl (IsL.below i0.out hB9) (by unfold maxLen; simp <;> omega) (by simp <;> omega) ?_; intro va wa howa hba)
    | (at_builtin; refine wpList_append_onto rfl _ _ 28 rfl W9.heap.size 5 ti (.int .u8 0) 1 .u8 Tryd.underlying28 hin hz0 hz1 hz2 rfl va ([] ++ xs) ys (.slice a1 ys.length c1) rfl rfl howa (IsL.below i1.out (below_thru hB9 hba)) (by unfold maxLen; simp <;> omega) (by simp <;> omega) hba.size ?_; intro vb wb howb hbb)
    | (at_builtin; refine wpList_append_onto rfl _ _ 28 rfl W9.heap.size 5 ti (.int .u8 0) 1 .u8 Tryd.underlying28 hin hz0 hz1 hz2 rfl vb (([] ++ xs) ++ ys) zs (.slice a2 zs.length c2) rfl rfl howb (IsL.below i2.out (below_thru hB9 (hba.trans hbb))) (by unfold maxLen; simp <;> omega) (by simp <;> omega) (Nat.le_trans hba.size hbb.size) ?_; intro vc wc howc hbc))
  have hBq : Below W9.heap.size W9 wc := (hba.trans hbb).trans hbc
  have hB10 : Below w.heap.size w wc := below_thru hB9 hBq
  have hxd10 := hxd9.below hBq
  have hxh10 := hxh9.below hBq
  have J10 := Lib.hid (IsL.below J9.out hBq)
  have JA := Lib.hid (show IsL wc .u8 vc A by rw [HA.out]; exact IsL.own howc rfl)
  have hz10 := hxd10.lt
  obtain ⟨ac, cc, ec, ic, jc⟩ := id JA.out
  subst ec
  have mA := ic.most
  have rA := ic.room
  clear hba hbb hbc howa howb howc hB9 hBq hxd9 hxh9 J9 hz9 hin hz0 hz1 hz2 ic jc
  -- y, j := Sum(all)
  go_wp2_with fail
  refine (sum_ok _ JA (by have := LA.out; omega) HBA HD (Lib.hid (hL.out.below hB10))).mono ?_
  rintro e w11 ⟨rfl, hb⟩
  have hB11 : Below w.heap.size w w11 := below_thru hB10 hb
  have hxd11 := hxd10.below hb
  have hxh11 := hxh10.below hb
  have J11 := Lib.hid (IsL.below J10.out hb)
  have JA11 := Lib.hid (IsL.below JA.out hb)
  have hs11 := hB11.size
  have hz11 := hxd11.lt
  clear hb hB10 hxd10 hxh10 J10 JA hz10
  go_upto_region 9 with (refine wpList_store_box (cs := D.map (Value.int .u8)) rfl _ _ _ rfl (Box.newc (l := zero32) rfl rfl) rfl rfl I32.out HLL.out (oneCell_ints _) ?_; intro W12 hW12)
  have hB12 : Below w.heap.size w W12 := hW12.below _ _ hs11 (hB11.alloc hs11 _)
  have hN12 : Below w11.heap.size w11 W12 := hW12.below _ _ (Nat.le_refl _) ((Below.refl _ w11).alloc (Nat.le_refl _) _)
  have hxy12 := hW12.box
  have hxd12 := hxd11.below hN12
  have hxh12 := hxh11.below hN12
  have J12 := Lib.hid (IsL.below J11.out hN12)
  have JA12 := Lib.hid (IsL.below JA11.out hN12)
  have hz12 := hxy12.lt
  clear hW12 hB11 hxd11 hxh11 J11 JA11 hN12
  -- z, k := Write(Start(), all)
  go_wp2_with fail
  refine (start_is _ (hL.out.below hB12)).mono ?_
  rintro e w13 ⟨v13, rfl, hh, hb⟩
  have hB13 : Below w.heap.size w w13 := below_thru hB12 hb
  have hxy13 := hxy12.below hb
  have hxd13 := hxd12.below hb
  have hxh13 := hxh12.below hb
  have J13 := Lib.hid (IsL.below J12.out hb)
  have JA13 := Lib.hid (IsL.below JA12.out hb)
  clear hb hB12 hxy12 hxd12 hxh12 J12 JA12
  go_wp2_with fail
  refine (write_is _ hh JA13.out (Lib.hid vld0) (by have := LA.out; omega) HT1 HT2 M3 (Lib.hid bytesL.nil) HBA (hL.out.below hB13)).mono ?_
  rintro e w14 ⟨s4, d4, rfl, ho⟩
  have hB14 : Below w.heap.size w w14 := below_thru hB13 ho.2
  have hxy14 := hxy13.below ho.2
  have hxd14 := hxd13.below ho.2
  have hxh14 := hxh13.below ho.2
  have J14 := Lib.hid (IsL.below J13.out ho.2)
  have JZ14 := Lib.hid ho.is
  have hs14 := hB14.size
  have hz14 := hxy14.lt
  clear ho hh hB13 hxy13 hxd13 hxh13 J13 JA13 hz12
  go_upto_region 10 with (refine wpList_store_box (cs := hashV T3 (.slice s4 r3.length d4) (N3 : Int)) rfl _ _ _ rfl (Box.newc (l := zero10) rfl rfl) rfl rfl size10 rfl (hash_one _ _ _ _ _) ?_; intro W15 hW15)
  have hB15 : Below w.heap.size w W15 := hW15.below _ _ hs14 (hB14.alloc hs14 _)
  have hN15 : Below w14.heap.size w14 W15 := hW15.below _ _ (Nat.le_refl _) ((Below.refl _ w14).alloc (Nat.le_refl _) _)
  have hxz15 := hW15.box
  have hxy15 := hxy14.below hN15
  have hxd15 := hxd14.below hN15
  have hxh15 := hxh14.below hN15
  have J15 := Lib.hid (IsL.below J14.out hN15)
  have JZ15 := Lib.hid (IsL.below JZ14.out hN15)
  clear hW15 hB14 hxy14 hxd14 hxh14 J14 JZ14 hN15 hz14
  have E10 : ∀ W, (Op.equalIn 10000 24 (.agg (D.map (Value.int .u8)).toArray) (.agg (D.map (Value.int .u8)).toArray)).run Tryd.prog W = .ok true W := HEQ.out
  go_wp2_with (first
    | (refine wpList_load_boxw rfl _ _ rfl hxd15 rfl Tryd.underlying24 rfl I32.out ?_)
    | (refine wpList_load_boxw rfl _ _ rfl hxy15 rfl Tryd.underlying24 rfl I32.out ?_)
    | (refine wpList_load_boxw rfl _ _ rfl hxh15 rfl Tryd.underlying36 rfl size10 ?_)
    | (refine wpList_load_boxw rfl _ _ rfl hxz15 rfl Tryd.underlying36 rfl size10 ?_))
  refine (same_tt _ ⟨s3, d3, rfl, J15.out⟩ ⟨s4, d4, rfl, JZ15.out⟩).mono ?_
  rintro e w16 ⟨rfl, hb⟩
  have hB16 : Below w.heap.size w w16 := below_thru hB15 hb
  have c9 := (hxh15.below hb).c 9 _ rfl
  have q9 : ((N3 : Int) == (A.length : Int)) = true := by rw [LA.out]; exact beq_self_eq_true _
  clear hb hB15 hxy15 hxd15 hxh15 hxz15 J15 JZ15 E10
  go_wp2_with fail
  refine (alive_tt _ (Lib.hid (hL.out.below hB16))).mono ?_
  rintro e w17 ⟨rfl, hb⟩
  have hB17 : Below w.heap.size w w17 := below_thru hB16 hb
  go_wp2_with fail
  go_returns
  exact ⟨rfl, hB17⟩

theorem parts5_any {a0 a1 a2 : Option Addr} {c0 c1 c2 : Nat} {xs ys zs : List Int} {w : World} (i0 : IsL w .u8 (.slice a0 xs.length c0) xs) (i1 : IsL w .u8 (.slice a1 ys.length c1) ys) (i2 : IsL w .u8 (.slice a2 zs.length c2) zs)
    (b0 : bytesL xs) (b1 : bytesL ys) (b2 : bytesL zs) (hL : LaidS w) :
    Calls Tryd.prog 6 #[.slice a0 xs.length c0, .slice a1 ys.length c1, .slice a2 zs.length c2] w fun e w' => e = .returned (.bool true) ∧ Below w.heap.size w w' := by
  have m0 := i0.room
  have m1 := i1.room
  have m2 := i2.room
  by_cases h : 1000 < xs.length ∨ 1000 < ys.length ∨ 1000 < zs.length
  · exact parts5_long w h (by omega) (by omega) (by omega) (Lib.hid hL)
  · exact parts5_main w (by omega) (by omega) (by omega) (Lib.hid i0) (Lib.hid i1) (Lib.hid i2) (Lib.hid b0) (Lib.hid b1) (Lib.hid b2) (Lib.hid hL)

end Go.Proofs.YtlddlkapabmoeaaDoor
