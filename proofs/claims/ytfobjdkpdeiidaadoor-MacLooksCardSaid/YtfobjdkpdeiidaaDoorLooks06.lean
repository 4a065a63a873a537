/-
  MacLooks, walked: it returns true.
-/
import Derived.Test.YtfobjdkpdeiidaaDoorIs06
import Derived.Test.YtfobjdkpdeiidaaDoorOpen05
import Derived.Test.YtfobjdkpdeiidaaDoorMRefC
namespace Go.Proofs.YtfobjdkpdeiidaaDoor
open Go.ChangeShapes Go.WideShapes Go.ChangeAt Go.RowKit Go.Joins

theorem open_byte {H : Type} {enc : TypeId × Value → H} {W : World} {r : Reach} {b0 base : Nat} {sp : Nat → Bool} {held : Bool} {v : Value} {d : DataW H} {p : List MemPlace} (hv : Value.okWide Tryd.prog W r b0 5 v) (h : DataW.Trod enc Tryd.prog W base sp held 5 v d p) : ∃ x : Int, v = .int .u8 x ∧ 0 ≤ x ∧ x < 256 := by
  obtain ⟨a, rfl, _, _, wa⟩ := open_int Tryd.underlying5 hv h
  exact ⟨a, rfl, byte_wf wa⟩
theorem xor_ne {x y : Int} (h0 : 0 ≤ x) (h1 : x < 256) (h2 : 0 ≤ y) (h3 : y < 256) (hy : y ≠ 0) : bits .xor .u8 x y ≠ x := by
  rw [u8_xor x y h0 h1 h2 h3]
  intro h
  have h4 : x.toNat ^^^ y.toNat = x.toNat := by omega
  have h5 : x.toNat ^^^ (x.toNat ^^^ y.toNat) = x.toNat ^^^ x.toNat := by rw [h4]
  rw [← Nat.xor_assoc, Nat.xor_self, Nat.zero_xor] at h5
  omega
theorem same_set {xs : List Int} {k : Nat} {u : Int} (hk : k < xs.length) (hu : u ≠ nth xs k) : sameB xs (xs.set k u) = false := by
  refine decide_eq_false fun h => hu ?_
  have : nth xs k = nth (xs.set k u) k := by rw [← h]
  rw [this]
  unfold nth
  rw [List.getD_eq_getElem?_getD, List.getElem?_set, if_pos rfl, if_pos hk]
  rfl
theorem same_comm (xs ys : List Int) : sameB ys xs = sameB xs ys := by
  unfold sameB
  exact decide_eq_decide.2 ⟨Eq.symm, Eq.symm⟩
theorem same_self (xs : List Int) : sameB xs xs = true := decide_eq_true rfl

set_option maxRecDepth 100000 in
set_option maxHeartbeats 1600000 in
theorem looks6_long {a0 a1 : Option Addr} {c0 c1 : Nat} {xs ys : List Int} {n y : Int} (w : World) (hl : 300 < xs.length ∨ 300 < ys.length) (m0 : xs.length ≤ 9223372036854775807) (m1 : ys.length ≤ 9223372036854775807) (hL : Hid (LaidS w)) :
    Calls Tryd.prog 7 #[.slice a0 xs.length c0, .slice a1 ys.length c1, .int .i64 n, .int .u8 y] w fun e w' => e = .returned (.bool true) ∧ Below w.heap.size w w' := by
  rcases Nat.lt_or_ge 300 xs.length with q0 | q0
  · clear hl
    go_enter Tryd.func7, Tryd.ntmps7
    go_wp2_with fail
    refine (alive6_tt _ hL).mono ?_
    rintro e w1 ⟨rfl, hb⟩
    go_wp2_with fail
    go_returns
    exact ⟨rfl, hb⟩
  · have q1 : 300 < ys.length := by omega
    clear hl
    go_enter Tryd.func7, Tryd.ntmps7
    go_wp2_with fail
    refine (alive6_tt _ hL).mono ?_
    rintro e w1 ⟨rfl, hb⟩
    go_wp2_with fail
    go_returns
    exact ⟨rfl, hb⟩

set_option maxRecDepth 100000 in
set_option maxHeartbeats 3200000 in
theorem looks6_out {a0 a1 : Option Addr} {c0 c1 : Nat} {xs ys : List Int} {n y : Int} (w : World) (q0 : xs.length ≤ 300) (q1 : ys.length ≤ 300) (ho : n < 0 ∨ (xs.length : Int) ≤ n ∨ y = 0)
    (i0 : Hid (IsL w .u8 (.slice a0 xs.length c0) xs)) (i1 : Hid (IsL w .u8 (.slice a1 ys.length c1) ys)) (hL : Hid (LaidS w)) :
    Calls Tryd.prog 7 #[.slice a0 xs.length c0, .slice a1 ys.length c1, .int .i64 n, .int .u8 y] w fun e w' => e = .returned (.bool true) ∧ Below w.heap.size w w' := by
  obtain ⟨M, hM⟩ : ∃ M, max xs.length ys.length = M := ⟨_, rfl⟩
  obtain ⟨q, hq⟩ : ∃ q, sameB xs ys = q := ⟨_, rfl⟩
  have hmax : max (xs.length : Int) (ys.length : Int) = (M : Int) := by omega
  have HQ := Lib.hid hq
  have HQ2 := Lib.hid (show sameB ys xs = q by rw [same_comm]; exact hq)
  have HS := Lib.hid (same_self xs)
  have HM := Lib.hid (show ((max xs.length ys.length : Nat) : Int) = (M : Int) by rw [hM])
  have HM2 := Lib.hid (show ((max ys.length xs.length : Nat) : Int) = (M : Int) by rw [Nat.max_comm, hM])
  have HM3 := Lib.hid (show ((max xs.length xs.length : Nat) : Int) = (xs.length : Int) by rw [Nat.max_self])
  obtain ⟨ti, hin, hz0, hz1, hz2⟩ := info8
  have m0 := i0.out.room
  have m1 := i1.out.room
  have m2 := m0.2.1
  have m3 := m0.2.2
  have m4 := m1.2.1
  have m5 := m1.2.2
  clear hM hq m0 m1
  go_enter Tryd.func7, Tryd.ntmps7
  have hB0 : Below w.heap.size w w := Below.refl _ _
  have hs0 := hB0.size
  have J_a0 : Hid (IsL w .u8 (.slice a0 xs.length c0) xs) := i0
  have J_b0 : Hid (IsL w .u8 (.slice a1 ys.length c1) ys) := i1
  clear i0 i1
  go_wp2_with fail
  refine (compare_as _ J_a0 J_b0 HQ HM).mono ?_
  rintro e w1 ⟨rfl, hb⟩
  have hB1 : Below w.heap.size w w1 := below_thru hB0 hb
  have hs1 := hB1.size
  have J_a1 : Hid (IsL w1 .u8 (.slice a0 xs.length c0) xs) := Lib.hid (IsL.below J_a0.out hb)
  have J_b1 : Hid (IsL w1 .u8 (.slice a1 ys.length c1) ys) := Lib.hid (IsL.below J_b0.out hb)
  clear hB0 hs0 J_a0 J_b0
  clear hb
  go_wp2_with fail
  refine (compare_as _ J_b1 J_a1 HQ2 HM2).mono ?_
  rintro e w2 ⟨rfl, hb⟩
  have hB2 : Below w.heap.size w w2 := below_thru hB1 hb
  have hs2 := hB2.size
  have J_a2 : Hid (IsL w2 .u8 (.slice a0 xs.length c0) xs) := Lib.hid (IsL.below J_a1.out hb)
  have J_b2 : Hid (IsL w2 .u8 (.slice a1 ys.length c1) ys) := Lib.hid (IsL.below J_b1.out hb)
  clear hB1 hs1 J_a1 J_b1
  clear hb
  go_wp2_with (at_builtin; refine wpList_append_built rfl _ _ 23 rfl 5 ti (.int .u8 0) 1 .u8 Tryd.underlying23 hin hz0 hz1 hz2 rfl [] xs _ (.slice a0 xs.length c0) _ _ _ rfl rfl rfl rfl rfl rfl J_a2.out (by unfold maxLen; simp <;> omega) (by simp <;> omega) ?_; intro v_c U1 ho hb)
  have jc : Hid (IsL U1 .u8 v_c xs) := Lib.hid (IsL.own ho rfl)
  have hB3 : Below w.heap.size w U1 := below_thru hB2 hb
  have hs3 := hB3.size
  have J_a3 : Hid (IsL U1 .u8 (.slice a0 xs.length c0) xs) := Lib.hid (IsL.below J_a2.out hb)
  have J_b3 : Hid (IsL U1 .u8 (.slice a1 ys.length c1) ys) := Lib.hid (IsL.below J_b2.out hb)
  clear hB2 hs2 J_a2 J_b2
  clear hb ho
  refine (compare_as _ J_a3 jc HS HM3).mono ?_
  rintro e w4 ⟨rfl, hb⟩
  have hB4 : Below w.heap.size w w4 := below_thru hB3 hb
  have hs4 := hB4.size
  have J_a4 : Hid (IsL w4 .u8 (.slice a0 xs.length c0) xs) := Lib.hid (IsL.below J_a3.out hb)
  have J_b4 : Hid (IsL w4 .u8 (.slice a1 ys.length c1) ys) := Lib.hid (IsL.below J_b3.out hb)
  clear hB3 hs3 J_a3 J_b3
  clear hb jc
  go_wp2_with fail
  obtain ⟨_, _, e0, in0, _⟩ := id J_a4.out; cases e0; obtain ⟨_, _, e1, in1, _⟩ := id J_b4.out; cases e1
  refine (sameb_any a0 a1 c0 c1 xs ys _ in0 in1).mono ?_
  rintro e w5 ⟨rfl, dn, rfl⟩
  rw [HQ.out]
  have hb := below_drewN (Below.refl w4.heap.size w4) dn
  clear in0 in1
  have hB5 : Below w.heap.size w (w4.drewN dn) := below_thru hB4 hb
  have hs5 := hB5.size
  have J_a5 : Hid (IsL (w4.drewN dn) .u8 (.slice a0 xs.length c0) xs) := Lib.hid (IsL.below J_a4.out hb)
  have J_b5 : Hid (IsL (w4.drewN dn) .u8 (.slice a1 ys.length c1) ys) := Lib.hid (IsL.below J_b4.out hb)
  clear hB4 hs4 J_a4 J_b4
  clear hb
  rcases ho with h | h | h
  · go_wp2_with fail
    refine (alive6_tt _ (Lib.hid (hL.out.below hB5))).mono ?_
    rintro e wl ⟨rfl, hb⟩
    have hBl := below_thru hB5 hb
    go_wp2_with fail
    go_returns
    exact ⟨rfl, hBl⟩
  · by_cases hneg : n < 0
    · go_wp2_with fail
      refine (alive6_tt _ (Lib.hid (hL.out.below hB5))).mono ?_
      rintro e wl ⟨rfl, hb⟩
      have hBl := below_thru hB5 hb
      go_wp2_with fail
      go_returns
      exact ⟨rfl, hBl⟩
    · go_wp2_with fail
      refine (alive6_tt _ (Lib.hid (hL.out.below hB5))).mono ?_
      rintro e wl ⟨rfl, hb⟩
      have hBl := below_thru hB5 hb
      go_wp2_with fail
      go_returns
      exact ⟨rfl, hBl⟩
  · subst h
    by_cases hneg : n < 0
    · go_wp2_with fail
      refine (alive6_tt _ (Lib.hid (hL.out.below hB5))).mono ?_
      rintro e wl ⟨rfl, hb⟩
      have hBl := below_thru hB5 hb
      go_wp2_with fail
      go_returns
      exact ⟨rfl, hBl⟩
    · by_cases hge : (xs.length : Int) ≤ n
      · go_wp2_with fail
        refine (alive6_tt _ (Lib.hid (hL.out.below hB5))).mono ?_
        rintro e wl ⟨rfl, hb⟩
        have hBl := below_thru hB5 hb
        go_wp2_with fail
        go_returns
        exact ⟨rfl, hBl⟩
      · go_wp2_with fail
        refine (alive6_tt _ (Lib.hid (hL.out.below hB5))).mono ?_
        rintro e wl ⟨rfl, hb⟩
        have hBl := below_thru hB5 hb
        go_wp2_with fail
        go_returns
        exact ⟨rfl, hBl⟩

set_option maxRecDepth 100000 in
set_option maxHeartbeats 3200000 in
theorem looks6_in {a0 a1 : Option Addr} {c0 c1 : Nat} {xs ys : List Int} {y : Int} (w : World) (q0 : xs.length ≤ 300) (q1 : ys.length ≤ 300) {k : Nat} (hk : k < xs.length) (hy : y ≠ 0) (hy0 : 0 ≤ y) (hy1 : y < 256)
    (i0 : Hid (IsL w .u8 (.slice a0 xs.length c0) xs)) (i1 : Hid (IsL w .u8 (.slice a1 ys.length c1) ys)) (hb0 : Hid (bytesL xs)) (hL : Hid (LaidS w)) :
    Calls Tryd.prog 7 #[.slice a0 xs.length c0, .slice a1 ys.length c1, .int .i64 (k : Int), .int .u8 y] w fun e w' => e = .returned (.bool true) ∧ Below w.heap.size w w' := by
  obtain ⟨M, hM⟩ : ∃ M, max xs.length ys.length = M := ⟨_, rfl⟩
  obtain ⟨q, hq⟩ : ∃ q, sameB xs ys = q := ⟨_, rfl⟩
  have hmax : max (xs.length : Int) (ys.length : Int) = (M : Int) := by omega
  have HQ := Lib.hid hq
  have HQ2 := Lib.hid (show sameB ys xs = q by rw [same_comm]; exact hq)
  have HS := Lib.hid (same_self xs)
  have HM := Lib.hid (show ((max xs.length ys.length : Nat) : Int) = (M : Int) by rw [hM])
  have HM2 := Lib.hid (show ((max ys.length xs.length : Nat) : Int) = (M : Int) by rw [Nat.max_comm, hM])
  have HM3 := Lib.hid (show ((max xs.length xs.length : Nat) : Int) = (xs.length : Int) by rw [Nat.max_self])
  obtain ⟨ti, hin, hz0, hz1, hz2⟩ := info8
  have m0 := i0.out.room
  have m1 := i1.out.room
  have m2 := m0.2.1
  have m3 := m0.2.2
  have m4 := m1.2.1
  have m5 := m1.2.2
  clear hM hq m0 m1
  go_enter Tryd.func7, Tryd.ntmps7
  have hB0 : Below w.heap.size w w := Below.refl _ _
  have hs0 := hB0.size
  have J_a0 : Hid (IsL w .u8 (.slice a0 xs.length c0) xs) := i0
  have J_b0 : Hid (IsL w .u8 (.slice a1 ys.length c1) ys) := i1
  clear i0 i1
  go_wp2_with fail
  refine (compare_as _ J_a0 J_b0 HQ HM).mono ?_
  rintro e w1 ⟨rfl, hb⟩
  have hB1 : Below w.heap.size w w1 := below_thru hB0 hb
  have hs1 := hB1.size
  have J_a1 : Hid (IsL w1 .u8 (.slice a0 xs.length c0) xs) := Lib.hid (IsL.below J_a0.out hb)
  have J_b1 : Hid (IsL w1 .u8 (.slice a1 ys.length c1) ys) := Lib.hid (IsL.below J_b0.out hb)
  clear hB0 hs0 J_a0 J_b0
  clear hb
  go_wp2_with fail
  refine (compare_as _ J_b1 J_a1 HQ2 HM2).mono ?_
  rintro e w2 ⟨rfl, hb⟩
  have hB2 : Below w.heap.size w w2 := below_thru hB1 hb
  have hs2 := hB2.size
  have J_a2 : Hid (IsL w2 .u8 (.slice a0 xs.length c0) xs) := Lib.hid (IsL.below J_a1.out hb)
  have J_b2 : Hid (IsL w2 .u8 (.slice a1 ys.length c1) ys) := Lib.hid (IsL.below J_b1.out hb)
  clear hB1 hs1 J_a1 J_b1
  clear hb
  go_wp2_with (at_builtin; refine wpList_append_built rfl _ _ 23 rfl 5 ti (.int .u8 0) 1 .u8 Tryd.underlying23 hin hz0 hz1 hz2 rfl [] xs _ (.slice a0 xs.length c0) _ _ _ rfl rfl rfl rfl rfl rfl J_a2.out (by unfold maxLen; simp <;> omega) (by simp <;> omega) ?_; intro v_c U1 ho hb)
  have jc : Hid (IsL U1 .u8 v_c xs) := Lib.hid (IsL.own ho rfl)
  have hB3 : Below w.heap.size w U1 := below_thru hB2 hb
  have hs3 := hB3.size
  have J_a3 : Hid (IsL U1 .u8 (.slice a0 xs.length c0) xs) := Lib.hid (IsL.below J_a2.out hb)
  have J_b3 : Hid (IsL U1 .u8 (.slice a1 ys.length c1) ys) := Lib.hid (IsL.below J_b2.out hb)
  clear hB2 hs2 J_a2 J_b2
  clear hb ho
  refine (compare_as _ J_a3 jc HS HM3).mono ?_
  rintro e w4 ⟨rfl, hb⟩
  have hB4 : Below w.heap.size w w4 := below_thru hB3 hb
  have hs4 := hB4.size
  have J_a4 : Hid (IsL w4 .u8 (.slice a0 xs.length c0) xs) := Lib.hid (IsL.below J_a3.out hb)
  have J_b4 : Hid (IsL w4 .u8 (.slice a1 ys.length c1) ys) := Lib.hid (IsL.below J_b3.out hb)
  clear hB3 hs3 J_a3 J_b3
  clear hb jc
  go_wp2_with fail
  obtain ⟨_, _, e0, in0, _⟩ := id J_a4.out; cases e0; obtain ⟨_, _, e1, in1, _⟩ := id J_b4.out; cases e1
  refine (sameb_any a0 a1 c0 c1 xs ys _ in0 in1).mono ?_
  rintro e w5 ⟨rfl, dn, rfl⟩
  rw [HQ.out]
  have hb := below_drewN (Below.refl w4.heap.size w4) dn
  clear in0 in1
  have hB5 : Below w.heap.size w (w4.drewN dn) := below_thru hB4 hb
  have hs5 := hB5.size
  have J_a5 : Hid (IsL (w4.drewN dn) .u8 (.slice a0 xs.length c0) xs) := Lib.hid (IsL.below J_a4.out hb)
  have J_b5 : Hid (IsL (w4.drewN dn) .u8 (.slice a1 ys.length c1) ys) := Lib.hid (IsL.below J_b4.out hb)
  clear hB4 hs4 J_a4 J_b4
  clear hb
  have dy : (y == 0) = false := by simpa using hy
  obtain ⟨X, hX⟩ : ∃ X, nth xs k = X := ⟨_, rfl⟩
  have hxb := hb0.out k hk; rw [hX] at hxb
  have hne := xor_ne hxb.1 hxb.2 hy0 hy1 hy
  have HSS := Lib.hid (same_set (u := bits .xor .u8 X y) hk (by rw [hX]; exact hne))
  have HML := Lib.hid (show ((max xs.length (xs.set k (bits .xor .u8 X y)).length : Nat) : Int) = (xs.length : Int) by rw [List.length_set, Nat.max_self])
  have ki : (k : Int) < (xs.length : Int) := by omega
  clear hne hxb
  have hsW := hB5.size
  go_upto_region 11 with (at_builtin; refine wpList_append_built rfl _ _ 23 rfl 5 ti (.int .u8 0) 1 .u8 Tryd.underlying23 hin hz0 hz1 hz2 rfl [] xs _ (.slice a0 xs.length c0) _ _ _ rfl rfl rfl rfl rfl rfl J_a5.out (by unfold maxLen; simp <;> omega) (by simp <;> omega) ?_; intro v_d U2 ho hb)
  have hB6 : Below w.heap.size w U2 := below_thru hB5 hb
  have hs6 := hB6.size
  have J_a6 : Hid (IsL U2 .u8 (.slice a0 xs.length c0) xs) := Lib.hid (IsL.below J_a5.out hb)
  have J_b6 : Hid (IsL U2 .u8 (.slice a1 ys.length c1) ys) := Lib.hid (IsL.below J_b5.out hb)
  have hUU := hb
  clear hB5 hs5 J_b5
  clear hb
  have ho2 : U2.ownsRow (w4.drewN dn).heap.size 5 1 v_d xs.length (xs.map (Value.int .u8)) := ho
  clear ho
  obtain ⟨gd, cd, rfl, hgd, hgl⟩ := ho2.form (by omega)
  obtain ⟨_, cd', e', hcd, hcm⟩ := own_sl ho2; obtain rfl : cd = cd' := by injection e'
  clear e'
  have c1 := ho2.cellAt k (by omega); rw [nth_at k hk, hX] at c1; have f1 := ho2.frozenAt k
  have hst := ho2.stored k (.int .u8 (bits .xor .u8 X y))
  have hlo : w.heap.size ≤ gd := Nat.le_trans hsW hgd
  go_upto_region 12 with fail
  obtain ⟨U3, h9⟩ : ∃ W, U2.setCell ⟨gd, k, none⟩ (.int .u8 (bits .xor .u8 X y)) = W := ⟨_, rfl⟩
  rw [h9] at hst ⊢
  have jd : Hid (IsL U3 .u8 (.slice (some ⟨gd, 0, none⟩) xs.length cd) (xs.set k (bits .xor .u8 X y))) := Lib.hid (IsL.own (by rw [List.map_set]; exact hst.1) (by rw [List.length_set]))
  have hB9 : Below w.heap.size w U3 := by rw [← h9]; exact Below.setCell hB6 hlo _
  have ja : Hid (IsL U3 .u8 (.slice a0 xs.length c0) xs) := Lib.hid (IsL.below J_a5.out (by rw [← h9]; exact Below.setCell hUU hgd _))
  clear hst h9 c1 f1 ho2 hB6 hUU
  go_wp2_with fail
  refine (compare_as _ ja jd HSS HML).mono ?_
  rintro e w9 ⟨rfl, hb⟩
  have hB10 := below_thru hB9 hb
  clear hb hB9 ja jd
  go_wp2_with fail
  refine (alive6_tt _ (Lib.hid (hL.out.below hB10))).mono ?_
  rintro e wl ⟨rfl, hb⟩
  have hBl := below_thru hB10 hb
  go_wp2_with fail
  go_returns
  exact ⟨rfl, hBl⟩

theorem looks6_any {a0 a1 : Option Addr} {c0 c1 : Nat} {xs ys : List Int} {n y : Int} {w : World} (i0 : IsL w .u8 (.slice a0 xs.length c0) xs) (i1 : IsL w .u8 (.slice a1 ys.length c1) ys) (hb0 : bytesL xs) (hy0 : 0 ≤ y) (hy1 : y < 256) (hL : LaidS w) :
    Calls Tryd.prog 7 #[.slice a0 xs.length c0, .slice a1 ys.length c1, .int .i64 n, .int .u8 y] w fun e w' => e = .returned (.bool true) ∧ Below w.heap.size w w' := by
  have m0 := i0.room
  have m1 := i1.room
  by_cases h : 300 < xs.length ∨ 300 < ys.length
  · exact looks6_long w h (by omega) (by omega) (Lib.hid hL)
  · by_cases ho : n < 0 ∨ (xs.length : Int) ≤ n ∨ y = 0
    · exact looks6_out w (by omega) (by omega) ho (Lib.hid i0) (Lib.hid i1) (Lib.hid hL)
    · obtain ⟨k, rfl⟩ := Int.eq_ofNat_of_zero_le (show 0 ≤ n by omega)
      exact looks6_in w (by omega) (by omega) (by omega) (by omega) hy0 hy1 (Lib.hid i0) (Lib.hid i1) (Lib.hid hb0) (Lib.hid hL)

end Go.Proofs.YtfobjdkpdeiidaaDoor
