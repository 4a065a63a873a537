/-
  MacMade, walked: it returns true.
-/
import Derived.Test.YtfobjdkpdeiidaaDoorIs06
import Derived.Test.YtfobjdkpdeiidaaDoorAp06
import Derived.Test.YtfobjdkpdeiidaaDoorSums06
namespace Go.Proofs.YtfobjdkpdeiidaaDoor
open Go.RowKit

set_option maxRecDepth 100000 in
set_option maxHeartbeats 1600000 in
theorem made6_long {a0 a1 : Option Addr} {c0 c1 : Nat} {K xs : List Int} (w : World) (hl : 200 < K.length ∨ 1000 < xs.length) (m0 : K.length ≤ 9223372036854775807) (m1 : xs.length ≤ 9223372036854775807) (hL : Hid (LaidS w)) :
    Calls Tryd.prog 5 #[.slice a0 K.length c0, .slice a1 xs.length c1] w fun e w' => e = .returned (.bool true) ∧ Below w.heap.size w w' := by
  rcases Nat.lt_or_ge 200 K.length with q0 | q0
  · clear hl
    go_enter Tryd.func5, Tryd.ntmps5
    go_wp2_with fail
    refine (alive6_tt _ hL).mono ?_
    rintro e w1 ⟨rfl, hb⟩
    go_wp2_with fail
    go_returns
    exact ⟨rfl, hb⟩
  · have q1 : 1000 < xs.length := by omega
    clear hl
    go_enter Tryd.func5, Tryd.ntmps5
    go_wp2_with fail
    refine (alive6_tt _ hL).mono ?_
    rintro e w1 ⟨rfl, hb⟩
    go_wp2_with fail
    go_returns
    exact ⟨rfl, hb⟩

set_option maxRecDepth 100000 in
set_option maxHeartbeats 6400000 in
theorem made6_main {a0 a1 : Option Addr} {c0 c1 : Nat} {K xs : List Int} (w : World) (q0 : K.length ≤ 200) (q1 : xs.length ≤ 1000)
    (i0 : Hid (IsL w .u8 (.slice a0 K.length c0) K)) (i1 : Hid (IsL w .u8 (.slice a1 xs.length c1) xs)) (hk : Hid (bytesL K)) (hx : Hid (bytesL xs)) (hL : Hid (LaidS w)) :
    Calls Tryd.prog 5 #[.slice a0 K.length c0, .slice a1 xs.length c1] w fun e w' => e = .returned (.bool true) ∧ Below w.heap.size w w' := by
  obtain ⟨P, hP⟩ : ∃ P, padI K = P := ⟨_, rfl⟩
  obtain ⟨Q, hQ⟩ : ∃ P, padO K = P := ⟨_, rfl⟩
  obtain ⟨I, hI⟩ : ∃ P, innerL K xs = P := ⟨_, rfl⟩
  obtain ⟨O, hO⟩ : ∃ P, outerL K I = P := ⟨_, rfl⟩
  have lP : P.length = 64 := by rw [← hP]; exact padI_len K
  have lQ : Q.length = 64 := by rw [← hQ]; exact padO_len K
  have lI : I.length = 32 := by rw [← hI]; exact shaOf_len _
  have lO : O.length = 32 := by rw [← hO]; exact shaOf_len _
  have H1 := Lib.hid (show padsOut K = (P, Q, 0) by unfold padsOut; rw [if_neg (by omega), hP, hQ])
  have H2 := Lib.hid (show innerOut K xs = (I, 0) by unfold innerOut behindOut; rw [if_neg (by omega), if_neg (by omega), ← hI]; rfl)
  have H3 := Lib.hid (show outerOut K I = (O, 0) by unfold outerOut behindOut; rw [if_neg (by omega), if_neg (by omega), ← hO]; rfl)
  have H4 := Lib.hid (show tagL K xs = O by unfold tagL; rw [hI, hO])
  have H5 := Lib.hid (show shaOf (P ++ xs) = I by rw [← hP, ← hI]; rfl)
  have H6 := Lib.hid (show shaOf (Q ++ I) = O by rw [← hQ, ← hO]; rfl)
  have bI : bytesL I := by rw [← hI]; exact shaOf_bytes _
  have BI := Lib.hid bI
  have BP := Lib.hid (show bytesL (P ++ xs) by rw [← hP]; exact (padI_bytes hk.out).append hx.out)
  have BQ := Lib.hid (show bytesL (Q ++ I) by rw [← hQ]; exact (padO_bytes hk.out).append bI)
  have LP := Lib.hid lP
  have LQ := Lib.hid lQ
  have LI := Lib.hid lI
  have PX := Lib.hid (show (P ++ xs).length ≤ 128000 by rw [List.length_append]; omega)
  have QX := Lib.hid (show (Q ++ I).length ≤ 128000 by rw [List.length_append]; omega)
  have XR := Lib.hid (fun k (hk' : k < 64) => (show bits .xor .u8 (nth P k) (nth Q k) = 106 by rw [← hP, ← hQ]; exact pads_xor hk.out k hk'))
  have SP := Lib.hid (size_of64 lP)
  have NP := Lib.hid (len_of64 lP)
  have EP := Lib.hid (eq_b64 lP)
  have SQ := Lib.hid (size_of64 lQ)
  have NQ := Lib.hid (len_of64 lQ)
  have EQ := Lib.hid (eq_b64 lQ)
  have SI := Lib.hid (size_dig lI)
  have NI := Lib.hid (len_dig lI)
  have EI := Lib.hid (eq_b32 lI)
  have SO := Lib.hid (size_dig lO)
  have NO := Lib.hid (len_dig lO)
  have EO := Lib.hid (eq_b32 lO)
  obtain ⟨ti, hin, hz0, hz1, hz2⟩ := info8
  have m0 := i0.out.room
  have m1 := i1.out.room
  have m2 := m0.2.1
  have m3 := m0.2.2
  have m4 := m1.2.1
  have m5 := m1.2.2
  clear hP hQ hI hO lP lQ lI lO bI EP EQ m0 m1
  go_enter Tryd.func5, Tryd.ntmps5
  have hB0 : Below w.heap.size w w := Below.refl _ _
  have hs0 := hB0.size
  have J_k0 : Hid (IsL w .u8 (.slice a0 K.length c0) K) := i0
  have J_x0 : Hid (IsL w .u8 (.slice a1 xs.length c1) xs) := i1
  clear i0 i1
  go_wp2_with fail
  refine (pads_any _ J_k0 hk H1 (Lib.hid (hL.out.below hB0))).mono ?_
  rintro e w1 ⟨rfl, hb⟩
  have hB1 : Below w.heap.size w w1 := below_thru hB0 hb
  have hs1 := hB1.size
  have J_k1 : Hid (IsL w1 .u8 (.slice a0 K.length c0) K) := Lib.hid (IsL.below J_k0.out hb)
  have J_x1 : Hid (IsL w1 .u8 (.slice a1 xs.length c1) xs) := Lib.hid (IsL.below J_x0.out hb)
  clear hB0 hs0 J_k0 J_x0
  clear hb
  go_upto_region 4 with (first
    | (refine wpList_store_box (cs := P.map (Value.int .u8)) rfl _ _ _ rfl (Box.alloc (Box.newc (l := zero64) rfl rfl) _) rfl rfl SP.out NP.out (oneCell_ints _) ?_; intro W1_0 hW1_0)
    | (refine wpList_store_box (cs := Q.map (Value.int .u8)) rfl _ _ _ rfl (hW1_0.past _ _ (by omega) (Box.newc (l := zero64) rfl (by simp))) rfl rfl SQ.out NQ.out (oneCell_ints _) ?_; intro W1_1 hW1_1))
  have hN : Below w1.heap.size w1 W1_1 := (hW1_1.below _ _ (by omega) (hW1_0.below _ _ (by omega) (((Below.refl _ w1).alloc (Nat.le_refl _) _).alloc (by simp) _)))
  have x_p2 : Box W1_1 (w1.heap.size) (P.map (Value.int .u8)) := (hW1_1.past _ _ (by omega) hW1_0.box)
  have x_q2 : Box W1_1 (w1.heap.size + 1) (Q.map (Value.int .u8)) := hW1_1.box
  have hB2 : Below w.heap.size w W1_1 := below_thru hB1 hN
  have hs2 := hB2.size
  have J_k2 : Hid (IsL W1_1 .u8 (.slice a0 K.length c0) K) := Lib.hid (IsL.below J_k1.out hN)
  have J_x2 : Hid (IsL W1_1 .u8 (.slice a1 xs.length c1) xs) := Lib.hid (IsL.below J_x1.out hN)
  clear hB1 hs1 J_k1 J_x1
  clear hN hW1_0 hW1_1
  go_wp2_with fail
  refine (inner_any _ J_k2 J_x2 hk hx H2 (Lib.hid (hL.out.below hB2))).mono ?_
  rintro e w3 ⟨rfl, hb⟩
  have hB3 : Below w.heap.size w w3 := below_thru hB2 hb
  have hs3 := hB3.size
  have x_p3 : Box w3 (w1.heap.size) (P.map (Value.int .u8)) := Box.below x_p2 hb
  have x_q3 : Box w3 (w1.heap.size + 1) (Q.map (Value.int .u8)) := Box.below x_q2 hb
  have J_k3 : Hid (IsL w3 .u8 (.slice a0 K.length c0) K) := Lib.hid (IsL.below J_k2.out hb)
  have J_x3 : Hid (IsL w3 .u8 (.slice a1 xs.length c1) xs) := Lib.hid (IsL.below J_x2.out hb)
  clear hB2 hs2 x_p2 x_q2 J_k2 J_x2
  clear hb
  go_upto_region 5 with (refine wpList_store_box (cs := I.map (Value.int .u8)) rfl _ _ _ rfl (Box.newc (l := zero32) rfl rfl) rfl rfl SI.out NI.out (oneCell_ints _) ?_; intro W3_0 hW3_0)
  have hN : Below w3.heap.size w3 W3_0 := (hW3_0.below _ _ (by omega) ((Below.refl _ w3).alloc (Nat.le_refl _) _))
  have x_i4 : Box W3_0 (w3.heap.size) (I.map (Value.int .u8)) := hW3_0.box
  have hB4 : Below w.heap.size w W3_0 := below_thru hB3 hN
  have hs4 := hB4.size
  have x_p4 : Box W3_0 (w1.heap.size) (P.map (Value.int .u8)) := Box.below x_p3 hN
  have x_q4 : Box W3_0 (w1.heap.size + 1) (Q.map (Value.int .u8)) := Box.below x_q3 hN
  have J_k4 : Hid (IsL W3_0 .u8 (.slice a0 K.length c0) K) := Lib.hid (IsL.below J_k3.out hN)
  have J_x4 : Hid (IsL W3_0 .u8 (.slice a1 xs.length c1) xs) := Lib.hid (IsL.below J_x3.out hN)
  clear hB3 hs3 x_p3 x_q3 J_k3 J_x3
  clear hN hW3_0
  go_wp2_with ((refine wpList_load_box rfl _ _ rfl x_i4 rfl Tryd.underlying31 rfl SI.out ?_))
  refine (outer_any (d := I) _ J_k4 hk LI.out BI H3 (Lib.hid (hL.out.below hB4))).mono ?_
  rintro e w5 ⟨rfl, hb⟩
  have hB5 : Below w.heap.size w w5 := below_thru hB4 hb
  have hs5 := hB5.size
  have x_p5 : Box w5 (w1.heap.size) (P.map (Value.int .u8)) := Box.below x_p4 hb
  have x_q5 : Box w5 (w1.heap.size + 1) (Q.map (Value.int .u8)) := Box.below x_q4 hb
  have x_i5 : Box w5 (w3.heap.size) (I.map (Value.int .u8)) := Box.below x_i4 hb
  have J_k5 : Hid (IsL w5 .u8 (.slice a0 K.length c0) K) := Lib.hid (IsL.below J_k4.out hb)
  have J_x5 : Hid (IsL w5 .u8 (.slice a1 xs.length c1) xs) := Lib.hid (IsL.below J_x4.out hb)
  clear hB4 hs4 x_p4 x_q4 x_i4 J_k4 J_x4
  clear hb
  go_upto_region 6 with (refine wpList_store_box (cs := O.map (Value.int .u8)) rfl _ _ _ rfl (Box.newc (l := zero32) rfl rfl) rfl rfl SO.out NO.out (oneCell_ints _) ?_; intro W5_0 hW5_0)
  have hN : Below w5.heap.size w5 W5_0 := (hW5_0.below _ _ (by omega) ((Below.refl _ w5).alloc (Nat.le_refl _) _))
  have x_o6 : Box W5_0 (w5.heap.size) (O.map (Value.int .u8)) := hW5_0.box
  have hB6 : Below w.heap.size w W5_0 := below_thru hB5 hN
  have hs6 := hB6.size
  have x_p6 : Box W5_0 (w1.heap.size) (P.map (Value.int .u8)) := Box.below x_p5 hN
  have x_q6 : Box W5_0 (w1.heap.size + 1) (Q.map (Value.int .u8)) := Box.below x_q5 hN
  have x_i6 : Box W5_0 (w3.heap.size) (I.map (Value.int .u8)) := Box.below x_i5 hN
  have J_k6 : Hid (IsL W5_0 .u8 (.slice a0 K.length c0) K) := Lib.hid (IsL.below J_k5.out hN)
  have J_x6 : Hid (IsL W5_0 .u8 (.slice a1 xs.length c1) xs) := Lib.hid (IsL.below J_x5.out hN)
  clear hB5 hs5 x_p5 x_q5 x_i5 J_k5 J_x5
  clear hN hW5_0
  go_wp2_with fail
  refine (tag_ok _ J_k6 J_x6 q0 (by omega) hk hx H4 (Lib.hid (hL.out.below hB6))).mono ?_
  rintro e w7 ⟨rfl, hb⟩
  have hB7 : Below w.heap.size w w7 := below_thru hB6 hb
  have hs7 := hB7.size
  have x_p7 : Box w7 (w1.heap.size) (P.map (Value.int .u8)) := Box.below x_p6 hb
  have x_q7 : Box w7 (w1.heap.size + 1) (Q.map (Value.int .u8)) := Box.below x_q6 hb
  have x_i7 : Box w7 (w3.heap.size) (I.map (Value.int .u8)) := Box.below x_i6 hb
  have x_o7 : Box w7 (w5.heap.size) (O.map (Value.int .u8)) := Box.below x_o6 hb
  have J_k7 : Hid (IsL w7 .u8 (.slice a0 K.length c0) K) := Lib.hid (IsL.below J_k6.out hb)
  have J_x7 : Hid (IsL w7 .u8 (.slice a1 xs.length c1) xs) := Lib.hid (IsL.below J_x6.out hb)
  clear hB6 hs6 x_p6 x_q6 x_i6 x_o6 J_k6 J_x6
  clear hb
  go_upto_region 7 with (refine wpList_store_box (cs := O.map (Value.int .u8)) rfl _ _ _ rfl (Box.newc (l := zero32) rfl rfl) rfl rfl SO.out NO.out (oneCell_ints _) ?_; intro W7_0 hW7_0)
  have hN : Below w7.heap.size w7 W7_0 := (hW7_0.below _ _ (by omega) ((Below.refl _ w7).alloc (Nat.le_refl _) _))
  have x_t8 : Box W7_0 (w7.heap.size) (O.map (Value.int .u8)) := hW7_0.box
  have hB8 : Below w.heap.size w W7_0 := below_thru hB7 hN
  have hs8 := hB8.size
  have x_p8 : Box W7_0 (w1.heap.size) (P.map (Value.int .u8)) := Box.below x_p7 hN
  have x_q8 : Box W7_0 (w1.heap.size + 1) (Q.map (Value.int .u8)) := Box.below x_q7 hN
  have x_i8 : Box W7_0 (w3.heap.size) (I.map (Value.int .u8)) := Box.below x_i7 hN
  have x_o8 : Box W7_0 (w5.heap.size) (O.map (Value.int .u8)) := Box.below x_o7 hN
  have J_k8 : Hid (IsL W7_0 .u8 (.slice a0 K.length c0) K) := Lib.hid (IsL.below J_k7.out hN)
  have J_x8 : Hid (IsL W7_0 .u8 (.slice a1 xs.length c1) xs) := Lib.hid (IsL.below J_x7.out hN)
  clear hB7 hs7 x_p7 x_q7 x_i7 x_o7 J_k7 J_x7
  clear hN hW7_0
  clear J_k8
  go_wp2_with (first
    | (at_builtin; refine wpList_append_built rfl _ _ 23 rfl 5 ti (.int .u8 0) 1 .u8 Tryd.underlying23 hin hz0 hz1 hz2 rfl [] P _ (.slice (some ⟨w1.heap.size, 0, none⟩) 64 64) _ _ _ rfl rfl rfl rfl rfl rfl (IsL.box 64 LP.out x_p8 (by omega)) (by have := LP.out; unfold maxLen; simp <;> omega) (by have := LP.out; simp <;> omega) ?_; intro va wa howa hba)
    | (at_builtin; refine wpList_append_onto rfl _ _ 23 rfl W7_0.heap.size 5 ti (.int .u8 0) 1 .u8 Tryd.underlying23 hin hz0 hz1 hz2 rfl va ([] ++ P) xs (.slice a1 xs.length c1) rfl rfl howa (IsL.below J_x8.out hba) (by have := LP.out; unfold maxLen; simp <;> omega) (by have := LP.out; simp <;> omega) hba.size ?_; intro vb wb howb hbb))
  have hN : Below W7_0.heap.size W7_0 wb := hba.trans hbb
  have JA : Hid (IsL wb .u8 vb (P ++ xs)) := Lib.hid (IsL.own howb rfl)
  have hB9 : Below w.heap.size w wb := below_thru hB8 hN
  have hs9 := hB9.size
  have x_p9 : Box wb (w1.heap.size) (P.map (Value.int .u8)) := Box.below x_p8 hN
  have x_q9 : Box wb (w1.heap.size + 1) (Q.map (Value.int .u8)) := Box.below x_q8 hN
  have x_i9 : Box wb (w3.heap.size) (I.map (Value.int .u8)) := Box.below x_i8 hN
  have x_o9 : Box wb (w5.heap.size) (O.map (Value.int .u8)) := Box.below x_o8 hN
  have x_t9 : Box wb (w7.heap.size) (O.map (Value.int .u8)) := Box.below x_t8 hN
  have J_x9 : Hid (IsL wb .u8 (.slice a1 xs.length c1) xs) := Lib.hid (IsL.below J_x8.out hN)
  clear hB8 hs8 x_p8 x_q8 x_i8 x_o8 x_t8 J_x8
  clear hN hba hbb howa howb
  clear J_x9
  have J_A9 := JA
  clear JA
  refine (sum_ok _ J_A9 PX.out BP H5 (Lib.hid (hL.out.below hB9))).mono ?_
  rintro e w10 ⟨rfl, hb⟩
  clear J_A9
  have hB10 : Below w.heap.size w w10 := below_thru hB9 hb
  have hs10 := hB10.size
  have x_p10 : Box w10 (w1.heap.size) (P.map (Value.int .u8)) := Box.below x_p9 hb
  have x_q10 : Box w10 (w1.heap.size + 1) (Q.map (Value.int .u8)) := Box.below x_q9 hb
  have x_i10 : Box w10 (w3.heap.size) (I.map (Value.int .u8)) := Box.below x_i9 hb
  have x_o10 : Box w10 (w5.heap.size) (O.map (Value.int .u8)) := Box.below x_o9 hb
  have x_t10 : Box w10 (w7.heap.size) (O.map (Value.int .u8)) := Box.below x_t9 hb
  clear hB9 hs9 x_p9 x_q9 x_i9 x_o9 x_t9
  clear hb
  go_upto_region 8 with (refine wpList_store_box (cs := I.map (Value.int .u8)) rfl _ _ _ rfl (Box.newc (l := zero32) rfl rfl) rfl rfl SI.out NI.out (oneCell_ints _) ?_; intro W10_0 hW10_0)
  have hN : Below w10.heap.size w10 W10_0 := (hW10_0.below _ _ (by omega) ((Below.refl _ w10).alloc (Nat.le_refl _) _))
  have x_x11 : Box W10_0 (w10.heap.size) (I.map (Value.int .u8)) := hW10_0.box
  have hB11 : Below w.heap.size w W10_0 := below_thru hB10 hN
  have hs11 := hB11.size
  have x_p11 : Box W10_0 (w1.heap.size) (P.map (Value.int .u8)) := Box.below x_p10 hN
  have x_q11 : Box W10_0 (w1.heap.size + 1) (Q.map (Value.int .u8)) := Box.below x_q10 hN
  have x_i11 : Box W10_0 (w3.heap.size) (I.map (Value.int .u8)) := Box.below x_i10 hN
  have x_o11 : Box W10_0 (w5.heap.size) (O.map (Value.int .u8)) := Box.below x_o10 hN
  have x_t11 : Box W10_0 (w7.heap.size) (O.map (Value.int .u8)) := Box.below x_t10 hN
  clear hB10 hs10 x_p10 x_q10 x_i10 x_o10 x_t10
  clear hN hW10_0
  have LB := (Lib.hid (hL.out.below hB11))
  go_cut [16, 17] (fun p z wx => ∃ b : Nat, p = .pointer (some ⟨b, 0, none⟩) ∧ z = .int .i64 0 ∧ Box wx b (O.map (Value.int .u8)) ∧ Below W10_0.heap.size W10_0 wx)
  case first =>
    refine wp_region_held_drew (S := fun _ => True) (by kernel_rfl) trivial (fun _ => ?_)
    refine F_drew (F := fun W => wpAnyH _ _ _ _ _ _ _ _ W) ?_
    intro W0 hb0
    have sz0 := hb0.size
    refine takeH 1 63 (v := ?va1_1) rfl (by rfl) (by kernel_rfl) (by kernel_rfl) (by kernel_rfl) (fun _ _ _ h => h) (Or.inl ⟨by rfl, ?_⟩) (trivial) ?_
    rotate_left
    · intro wq hSq
      go_simp
      exact rfl
    try simp only [Act.put, List.setIfInBounds_toArray, List.set_cons_zero, List.set_cons_succ]
    refine takeH 3 65 (v := ?va3_2) rfl (by rfl) (by kernel_rfl) (by kernel_rfl) (by kernel_rfl) (fun _ _ _ h => h) (Or.inl ⟨by rfl, ?_⟩) (trivial) ?_
    rotate_left
    · intro wq hSq
      go_simp
      exact rfl
    try simp only [Act.put, List.setIfInBounds_toArray, List.set_cons_zero, List.set_cons_succ]
    refine wpAnyH_ready (rs := [0, 9]) (by kernel_rfl) (by simp) (AllReadyH.cons rfl (fun K hK => ?_) (AllReadyH.cons rfl (fun K hK => ?_) AllReadyH.nil))
    · skip
      go_simp
      refine hK.out _ _ trivial (fun _ => ?_); clear hK K
      refine F_own6 (F := fun W => wpAnyH _ _ _ _ _ _ _ _ W) (base := W10_0.heap.size) (Below.size hb0) ?_
      intro W3 own3 hb3
      have hB3 := below_thru hb0 hb3
      refine wpAnyH_ready (rs := [2, 9]) (by kernel_rfl) (by simp) (AllReadyH.cons rfl (fun K hK => ?_) (AllReadyH.cons rfl (fun K hK => ?_) AllReadyH.nil))
      · skip
        refine step_append_at rfl _ _ 23 (by rfl) W10_0.heap.size 5 ti (.int .u8 0) 1 .u8 Tryd.underlying23 hin hz0 hz1 hz2 rfl (.slice (some ⟨W0.heap.size, 0, none⟩) 0 0) [] Q _ (by rfl) (by rfl) own3 (IsL.box 64 LQ.out (Box.below x_q11 hB3) (by omega)) (by have := LQ.out; have := LI.out; unfold maxLen; simp <;> omega) (by have := LQ.out; have := LI.out; simp <;> omega) (Below.size hB3) ?_
        intro v4 W4 own4 hg4 hat4
        have hB4 := Below.grown hB3 hg4 (Below.size hB3) (own_block own3)
        refine hK.out _ _ trivial (fun _ => ?_); clear hK K
        refine wpAnyH_ready (rs := [4, 9]) (by kernel_rfl) (by simp) (AllReadyH.cons rfl (fun K hK => ?_) (AllReadyH.cons rfl (fun K hK => ?_) AllReadyH.nil))
        · skip
          refine step_append_at rfl _ _ 23 (by rfl) W10_0.heap.size 5 ti (.int .u8 0) 1 .u8 Tryd.underlying23 hin hz0 hz1 hz2 rfl v4 ([] ++ Q) I _ (by rfl) (by rfl) own4 (IsL.box 32 LI.out (Box.below x_i11 hB4) (by omega)) (by have := LQ.out; have := LI.out; unfold maxLen; simp <;> omega) (by have := LQ.out; have := LI.out; simp <;> omega) (Below.size hB4) ?_
          intro v5 W5 own5 hg5 hat5
          have hB5 := Below.grown hB4 hg5 (Below.size hB4) (own_block own4)
          refine hK.out _ _ trivial (fun _ => ?_); clear hK K
          refine wpAnyH_ready (rs := [5, 9]) (by kernel_rfl) (by simp) (AllReadyH.cons rfl (fun K hK => ?_) (AllReadyH.cons rfl (fun K hK => ?_) AllReadyH.nil))
          · skip
            go_simp
            have js6 : Hid (IsL W5 .u8 v5 (Q ++ I)) := Lib.hid (IsL.own own5 rfl)
            refine (sum_ok _ js6 QX.out BQ H6 (Lib.hid (LB.out.below hB5))).mono ?_
            rintro e W6 ⟨rfl, hb6⟩
            have hB6 := below_thru hB5 hb6
            refine hK.out _ _ trivial (fun _ => ?_); clear hK K
            refine takeH 6 61 (v := ?va6_7) rfl (by rfl) (by kernel_rfl) (by kernel_rfl) (by kernel_rfl) (fun _ _ _ h => h) (Or.inl ⟨by rfl, ?_⟩) (trivial) ?_
            rotate_left
            · intro wq hSq
              go_simp
              exact rfl
            try simp only [Act.put, List.setIfInBounds_toArray, List.set_cons_zero, List.set_cons_succ]
            refine takeH 7 68 (v := ?va7_8) rfl (by rfl) (by kernel_rfl) (by kernel_rfl) (by kernel_rfl) (fun _ _ _ h => h) (Or.inl ⟨by rfl, ?_⟩) (trivial) ?_
            rotate_left
            · intro wq hSq
              go_simp
              exact rfl
            try simp only [Act.put, List.setIfInBounds_toArray, List.set_cons_zero, List.set_cons_succ]
            refine takeH 8 69 (v := ?va8_9) rfl (by rfl) (by kernel_rfl) (by kernel_rfl) (by kernel_rfl) (fun _ _ _ h => h) (Or.inl ⟨by rfl, ?_⟩) (trivial) ?_
            rotate_left
            · intro wq hSq
              go_simp
              exact rfl
            try simp only [Act.put, List.setIfInBounds_toArray, List.set_cons_zero, List.set_cons_succ]
            refine wpAnyH_ready (rs := [9]) (by kernel_rfl) (by simp) (AllReadyH.cons rfl (fun K hK => ?_) AllReadyH.nil)
            go_simp
            refine hK.out _ _ trivial (fun _ => ?_); clear hK K
            refine F_alloc (F := fun W => wpAnyH _ _ _ _ _ _ _ _ W) zero32 rfl ?_
            intro W10 bx10 hb10
            have lo10 := Below.size hB6; have hB10 := below_thru hB6 hb10
            refine wpAnyH_ready (rs := [10]) (by kernel_rfl) (by simp) (AllReadyH.cons rfl (fun K hK => ?_) AllReadyH.nil)
            refine step_store_box0 (cs := O.map (Value.int .u8)) rfl rfl _ _ _ rfl bx10 rfl rfl SO.out NO.out (oneCell_ints _) ?_
            intro W11 hW11
            have bx11 := hW11.box; have hB11 := hW11.below _ _ lo10 hB10
            refine hK.out _ _ trivial (fun _ => ?_); clear hK K
            refine takeH 11 17 (v := ?va11_12) rfl (by rfl) (by kernel_rfl) (by kernel_rfl) (by kernel_rfl) (fun _ _ _ h => h) (Or.inl ⟨by rfl, ?_⟩) (trivial) ?_
            rotate_left
            · intro wq hSq
              go_simp
              exact rfl
            try simp only [Act.put, List.setIfInBounds_toArray, List.set_cons_zero, List.set_cons_succ]
            refine wpAnyH_done (by kernel_rfl) ?_ _
            go_wp2_with fail
            go_meet
            exact ⟨_, rfl, rfl, bx11, hB11⟩
          · skip
            go_simp
            refine hK.out _ _ trivial (fun _ => ?_); clear hK K
            refine F_alloc (F := fun W => wpAnyH _ _ _ _ _ _ _ _ W) zero32 rfl ?_
            intro W13 bx13 hb13
            have lo13 := Below.size hB5; have hB13 := below_thru hB5 hb13
            have ap13 := Apart.new (fun g hg => (World.ownsRow.lt own5 g hg).2); have own13 := own_below own5 hb13
            refine wpAnyH_ready (rs := [5]) (by kernel_rfl) (by simp) (AllReadyH.cons rfl (fun K hK => ?_) AllReadyH.nil)
            go_simp
            have js14 : Hid (IsL W13 .u8 v5 (Q ++ I)) := Lib.hid (IsL.own own13 rfl)
            refine (sum_ok _ js14 QX.out BQ H6 (Lib.hid (LB.out.below hB13))).mono ?_
            rintro e W14 ⟨rfl, hb14⟩
            have hB14 := below_thru hB13 hb14
            have bx14 := Box.below bx13 hb14
            refine hK.out _ _ trivial (fun _ => ?_); clear hK K
            refine takeH 6 61 (v := ?va6_15) rfl (by rfl) (by kernel_rfl) (by kernel_rfl) (by kernel_rfl) (fun _ _ _ h => h) (Or.inl ⟨by rfl, ?_⟩) (trivial) ?_
            rotate_left
            · intro wq hSq
              go_simp
              exact rfl
            try simp only [Act.put, List.setIfInBounds_toArray, List.set_cons_zero, List.set_cons_succ]
            refine takeH 7 68 (v := ?va7_16) rfl (by rfl) (by kernel_rfl) (by kernel_rfl) (by kernel_rfl) (fun _ _ _ h => h) (Or.inl ⟨by rfl, ?_⟩) (trivial) ?_
            rotate_left
            · intro wq hSq
              go_simp
              exact rfl
            try simp only [Act.put, List.setIfInBounds_toArray, List.set_cons_zero, List.set_cons_succ]
            refine takeH 8 69 (v := ?va8_17) rfl (by rfl) (by kernel_rfl) (by kernel_rfl) (by kernel_rfl) (fun _ _ _ h => h) (Or.inl ⟨by rfl, ?_⟩) (trivial) ?_
            rotate_left
            · intro wq hSq
              go_simp
              exact rfl
            try simp only [Act.put, List.setIfInBounds_toArray, List.set_cons_zero, List.set_cons_succ]
            refine wpAnyH_ready (rs := [10]) (by kernel_rfl) (by simp) (AllReadyH.cons rfl (fun K hK => ?_) AllReadyH.nil)
            refine step_store_box0 (cs := O.map (Value.int .u8)) rfl rfl _ _ _ rfl bx14 rfl rfl SO.out NO.out (oneCell_ints _) ?_
            intro W18 hW18
            have bx18 := hW18.box; have hB18 := hW18.below _ _ lo13 hB14
            refine hK.out _ _ trivial (fun _ => ?_); clear hK K
            refine takeH 11 17 (v := ?va11_19) rfl (by rfl) (by kernel_rfl) (by kernel_rfl) (by kernel_rfl) (fun _ _ _ h => h) (Or.inl ⟨by rfl, ?_⟩) (trivial) ?_
            rotate_left
            · intro wq hSq
              go_simp
              exact rfl
            try simp only [Act.put, List.setIfInBounds_toArray, List.set_cons_zero, List.set_cons_succ]
            refine wpAnyH_done (by kernel_rfl) ?_ _
            go_wp2_with fail
            go_meet
            exact ⟨_, rfl, rfl, bx18, hB18⟩
        · skip
          go_simp
          refine hK.out _ _ trivial (fun _ => ?_); clear hK K
          refine F_alloc (F := fun W => wpAnyH _ _ _ _ _ _ _ _ W) zero32 rfl ?_
          intro W20 bx20 hb20
          have lo20 := Below.size hB4; have hB20 := below_thru hB4 hb20
          have ap20 := Apart.new (fun g hg => (World.ownsRow.lt own4 g hg).2); have own20 := own_below own4 hb20
          refine wpAnyH_ready (rs := [4]) (by kernel_rfl) (by simp) (AllReadyH.cons rfl (fun K hK => ?_) AllReadyH.nil)
          refine step_append_at rfl _ _ 23 (by rfl) W10_0.heap.size 5 ti (.int .u8 0) 1 .u8 Tryd.underlying23 hin hz0 hz1 hz2 rfl v4 ([] ++ Q) I _ (by rfl) (by rfl) own20 (IsL.box 32 LI.out (Box.below x_i11 hB20) (by omega)) (by have := LQ.out; have := LI.out; unfold maxLen; simp <;> omega) (by have := LQ.out; have := LI.out; simp <;> omega) (Below.size hB20) ?_
          intro v21 W21 own21 hg21 hat21
          have hB21 := Below.grown hB20 hg21 (Below.size hB20) (own_block own20)
          have bx21 := Box.grown bx20 hg21 ap20; have ap21 := Apart.app hat21 ap20 (Box.lts bx20)
          refine hK.out _ _ trivial (fun _ => ?_); clear hK K
          refine wpAnyH_ready (rs := [5]) (by kernel_rfl) (by simp) (AllReadyH.cons rfl (fun K hK => ?_) AllReadyH.nil)
          go_simp
          have js22 : Hid (IsL W21 .u8 v21 (Q ++ I)) := Lib.hid (IsL.own own21 rfl)
          refine (sum_ok _ js22 QX.out BQ H6 (Lib.hid (LB.out.below hB21))).mono ?_
          rintro e W22 ⟨rfl, hb22⟩
          have hB22 := below_thru hB21 hb22
          have bx22 := Box.below bx21 hb22
          refine hK.out _ _ trivial (fun _ => ?_); clear hK K
          refine takeH 6 61 (v := ?va6_23) rfl (by rfl) (by kernel_rfl) (by kernel_rfl) (by kernel_rfl) (fun _ _ _ h => h) (Or.inl ⟨by rfl, ?_⟩) (trivial) ?_
          rotate_left
          · intro wq hSq
            go_simp
            exact rfl
          try simp only [Act.put, List.setIfInBounds_toArray, List.set_cons_zero, List.set_cons_succ]
          refine takeH 7 68 (v := ?va7_24) rfl (by rfl) (by kernel_rfl) (by kernel_rfl) (by kernel_rfl) (fun _ _ _ h => h) (Or.inl ⟨by rfl, ?_⟩) (trivial) ?_
          rotate_left
          · intro wq hSq
            go_simp
            exact rfl
          try simp only [Act.put, List.setIfInBounds_toArray, List.set_cons_zero, List.set_cons_succ]
          refine takeH 8 69 (v := ?va8_25) rfl (by rfl) (by kernel_rfl) (by kernel_rfl) (by kernel_rfl) (fun _ _ _ h => h) (Or.inl ⟨by rfl, ?_⟩) (trivial) ?_
          rotate_left
          · intro wq hSq
            go_simp
            exact rfl
          try simp only [Act.put, List.setIfInBounds_toArray, List.set_cons_zero, List.set_cons_succ]
          refine wpAnyH_ready (rs := [10]) (by kernel_rfl) (by simp) (AllReadyH.cons rfl (fun K hK => ?_) AllReadyH.nil)
          refine step_store_box0 (cs := O.map (Value.int .u8)) rfl rfl _ _ _ rfl bx22 rfl rfl SO.out NO.out (oneCell_ints _) ?_
          intro W26 hW26
          have bx26 := hW26.box; have hB26 := hW26.below _ _ lo20 hB22
          refine hK.out _ _ trivial (fun _ => ?_); clear hK K
          refine takeH 11 17 (v := ?va11_27) rfl (by rfl) (by kernel_rfl) (by kernel_rfl) (by kernel_rfl) (fun _ _ _ h => h) (Or.inl ⟨by rfl, ?_⟩) (trivial) ?_
          rotate_left
          · intro wq hSq
            go_simp
            exact rfl
          try simp only [Act.put, List.setIfInBounds_toArray, List.set_cons_zero, List.set_cons_succ]
          refine wpAnyH_done (by kernel_rfl) ?_ _
          go_wp2_with fail
          go_meet
          exact ⟨_, rfl, rfl, bx26, hB26⟩
      · skip
        go_simp
        refine hK.out _ _ trivial (fun _ => ?_); clear hK K
        refine F_alloc (F := fun W => wpAnyH _ _ _ _ _ _ _ _ W) zero32 rfl ?_
        intro W28 bx28 hb28
        have lo28 := Below.size hB3; have hB28 := below_thru hB3 hb28
        have ap28 := Apart.new (fun g hg => (World.ownsRow.lt own3 g hg).2); have own28 := own_below own3 hb28
        refine wpAnyH_ready (rs := [2]) (by kernel_rfl) (by simp) (AllReadyH.cons rfl (fun K hK => ?_) AllReadyH.nil)
        refine step_append_at rfl _ _ 23 (by rfl) W10_0.heap.size 5 ti (.int .u8 0) 1 .u8 Tryd.underlying23 hin hz0 hz1 hz2 rfl (.slice (some ⟨W0.heap.size, 0, none⟩) 0 0) [] Q _ (by rfl) (by rfl) own28 (IsL.box 64 LQ.out (Box.below x_q11 hB28) (by omega)) (by have := LQ.out; have := LI.out; unfold maxLen; simp <;> omega) (by have := LQ.out; have := LI.out; simp <;> omega) (Below.size hB28) ?_
        intro v29 W29 own29 hg29 hat29
        have hB29 := Below.grown hB28 hg29 (Below.size hB28) (own_block own28)
        have bx29 := Box.grown bx28 hg29 ap28; have ap29 := Apart.app hat29 ap28 (Box.lts bx28)
        refine hK.out _ _ trivial (fun _ => ?_); clear hK K
        refine wpAnyH_ready (rs := [4]) (by kernel_rfl) (by simp) (AllReadyH.cons rfl (fun K hK => ?_) AllReadyH.nil)
        refine step_append_at rfl _ _ 23 (by rfl) W10_0.heap.size 5 ti (.int .u8 0) 1 .u8 Tryd.underlying23 hin hz0 hz1 hz2 rfl v29 ([] ++ Q) I _ (by rfl) (by rfl) own29 (IsL.box 32 LI.out (Box.below x_i11 hB29) (by omega)) (by have := LQ.out; have := LI.out; unfold maxLen; simp <;> omega) (by have := LQ.out; have := LI.out; simp <;> omega) (Below.size hB29) ?_
        intro v30 W30 own30 hg30 hat30
        have hB30 := Below.grown hB29 hg30 (Below.size hB29) (own_block own29)
        have bx30 := Box.grown bx29 hg30 ap29; have ap30 := Apart.app hat30 ap29 (Box.lts bx29)
        refine hK.out _ _ trivial (fun _ => ?_); clear hK K
        refine wpAnyH_ready (rs := [5]) (by kernel_rfl) (by simp) (AllReadyH.cons rfl (fun K hK => ?_) AllReadyH.nil)
        go_simp
        have js31 : Hid (IsL W30 .u8 v30 (Q ++ I)) := Lib.hid (IsL.own own30 rfl)
        refine (sum_ok _ js31 QX.out BQ H6 (Lib.hid (LB.out.below hB30))).mono ?_
        rintro e W31 ⟨rfl, hb31⟩
        have hB31 := below_thru hB30 hb31
        have bx31 := Box.below bx30 hb31
        refine hK.out _ _ trivial (fun _ => ?_); clear hK K
        refine takeH 6 61 (v := ?va6_32) rfl (by rfl) (by kernel_rfl) (by kernel_rfl) (by kernel_rfl) (fun _ _ _ h => h) (Or.inl ⟨by rfl, ?_⟩) (trivial) ?_
        rotate_left
        · intro wq hSq
          go_simp
          exact rfl
        try simp only [Act.put, List.setIfInBounds_toArray, List.set_cons_zero, List.set_cons_succ]
        refine takeH 7 68 (v := ?va7_33) rfl (by rfl) (by kernel_rfl) (by kernel_rfl) (by kernel_rfl) (fun _ _ _ h => h) (Or.inl ⟨by rfl, ?_⟩) (trivial) ?_
        rotate_left
        · intro wq hSq
          go_simp
          exact rfl
        try simp only [Act.put, List.setIfInBounds_toArray, List.set_cons_zero, List.set_cons_succ]
        refine takeH 8 69 (v := ?va8_34) rfl (by rfl) (by kernel_rfl) (by kernel_rfl) (by kernel_rfl) (fun _ _ _ h => h) (Or.inl ⟨by rfl, ?_⟩) (trivial) ?_
        rotate_left
        · intro wq hSq
          go_simp
          exact rfl
        try simp only [Act.put, List.setIfInBounds_toArray, List.set_cons_zero, List.set_cons_succ]
        refine wpAnyH_ready (rs := [10]) (by kernel_rfl) (by simp) (AllReadyH.cons rfl (fun K hK => ?_) AllReadyH.nil)
        refine step_store_box0 (cs := O.map (Value.int .u8)) rfl rfl _ _ _ rfl bx31 rfl rfl SO.out NO.out (oneCell_ints _) ?_
        intro W35 hW35
        have bx35 := hW35.box; have hB35 := hW35.below _ _ lo28 hB31
        refine hK.out _ _ trivial (fun _ => ?_); clear hK K
        refine takeH 11 17 (v := ?va11_36) rfl (by rfl) (by kernel_rfl) (by kernel_rfl) (by kernel_rfl) (fun _ _ _ h => h) (Or.inl ⟨by rfl, ?_⟩) (trivial) ?_
        rotate_left
        · intro wq hSq
          go_simp
          exact rfl
        try simp only [Act.put, List.setIfInBounds_toArray, List.set_cons_zero, List.set_cons_succ]
        refine wpAnyH_done (by kernel_rfl) ?_ _
        go_wp2_with fail
        go_meet
        exact ⟨_, rfl, rfl, bx35, hB35⟩
    · skip
      go_simp
      refine hK.out _ _ trivial (fun _ => ?_); clear hK K
      refine F_alloc (F := fun W => wpAnyH _ _ _ _ _ _ _ _ W) zero32 rfl ?_
      intro W37 bx37 hb37
      have lo37 := Below.size hb0; have hB37 := below_thru hb0 hb37
      refine wpAnyH_ready (rs := [0]) (by kernel_rfl) (by simp) (AllReadyH.cons rfl (fun K hK => ?_) AllReadyH.nil)
      go_simp
      refine hK.out _ _ trivial (fun _ => ?_); clear hK K
      refine F_own6 (F := fun W => wpAnyH _ _ _ _ _ _ _ _ W) (base := W10_0.heap.size) (Below.size hB37) ?_
      intro W38 own38 hb38
      have hB38 := below_thru hB37 hb38
      have ap38 : Apart (some W37.heap.size) (some W0.heap.size) := Apart.symm (Apart.new (Box.lts bx37)); have bx38 := Box.below bx37 hb38
      refine wpAnyH_ready (rs := [2]) (by kernel_rfl) (by simp) (AllReadyH.cons rfl (fun K hK => ?_) AllReadyH.nil)
      refine step_append_at rfl _ _ 23 (by rfl) W10_0.heap.size 5 ti (.int .u8 0) 1 .u8 Tryd.underlying23 hin hz0 hz1 hz2 rfl (.slice (some ⟨W37.heap.size, 0, none⟩) 0 0) [] Q _ (by rfl) (by rfl) own38 (IsL.box 64 LQ.out (Box.below x_q11 hB38) (by omega)) (by have := LQ.out; have := LI.out; unfold maxLen; simp <;> omega) (by have := LQ.out; have := LI.out; simp <;> omega) (Below.size hB38) ?_
      intro v39 W39 own39 hg39 hat39
      have hB39 := Below.grown hB38 hg39 (Below.size hB38) (own_block own38)
      have bx39 := Box.grown bx38 hg39 ap38; have ap39 := Apart.app hat39 ap38 (Box.lts bx38)
      refine hK.out _ _ trivial (fun _ => ?_); clear hK K
      refine wpAnyH_ready (rs := [4]) (by kernel_rfl) (by simp) (AllReadyH.cons rfl (fun K hK => ?_) AllReadyH.nil)
      refine step_append_at rfl _ _ 23 (by rfl) W10_0.heap.size 5 ti (.int .u8 0) 1 .u8 Tryd.underlying23 hin hz0 hz1 hz2 rfl v39 ([] ++ Q) I _ (by rfl) (by rfl) own39 (IsL.box 32 LI.out (Box.below x_i11 hB39) (by omega)) (by have := LQ.out; have := LI.out; unfold maxLen; simp <;> omega) (by have := LQ.out; have := LI.out; simp <;> omega) (Below.size hB39) ?_
      intro v40 W40 own40 hg40 hat40
      have hB40 := Below.grown hB39 hg40 (Below.size hB39) (own_block own39)
      have bx40 := Box.grown bx39 hg40 ap39; have ap40 := Apart.app hat40 ap39 (Box.lts bx39)
      refine hK.out _ _ trivial (fun _ => ?_); clear hK K
      refine wpAnyH_ready (rs := [5]) (by kernel_rfl) (by simp) (AllReadyH.cons rfl (fun K hK => ?_) AllReadyH.nil)
      go_simp
      have js41 : Hid (IsL W40 .u8 v40 (Q ++ I)) := Lib.hid (IsL.own own40 rfl)
      refine (sum_ok _ js41 QX.out BQ H6 (Lib.hid (LB.out.below hB40))).mono ?_
      rintro e W41 ⟨rfl, hb41⟩
      have hB41 := below_thru hB40 hb41
      have bx41 := Box.below bx40 hb41
      refine hK.out _ _ trivial (fun _ => ?_); clear hK K
      refine takeH 6 61 (v := ?va6_42) rfl (by rfl) (by kernel_rfl) (by kernel_rfl) (by kernel_rfl) (fun _ _ _ h => h) (Or.inl ⟨by rfl, ?_⟩) (trivial) ?_
      rotate_left
      · intro wq hSq
        go_simp
        exact rfl
      try simp only [Act.put, List.setIfInBounds_toArray, List.set_cons_zero, List.set_cons_succ]
      refine takeH 7 68 (v := ?va7_43) rfl (by rfl) (by kernel_rfl) (by kernel_rfl) (by kernel_rfl) (fun _ _ _ h => h) (Or.inl ⟨by rfl, ?_⟩) (trivial) ?_
      rotate_left
      · intro wq hSq
        go_simp
        exact rfl
      try simp only [Act.put, List.setIfInBounds_toArray, List.set_cons_zero, List.set_cons_succ]
      refine takeH 8 69 (v := ?va8_44) rfl (by rfl) (by kernel_rfl) (by kernel_rfl) (by kernel_rfl) (fun _ _ _ h => h) (Or.inl ⟨by rfl, ?_⟩) (trivial) ?_
      rotate_left
      · intro wq hSq
        go_simp
        exact rfl
      try simp only [Act.put, List.setIfInBounds_toArray, List.set_cons_zero, List.set_cons_succ]
      refine wpAnyH_ready (rs := [10]) (by kernel_rfl) (by simp) (AllReadyH.cons rfl (fun K hK => ?_) AllReadyH.nil)
      refine step_store_box0 (cs := O.map (Value.int .u8)) rfl rfl _ _ _ rfl bx41 rfl rfl SO.out NO.out (oneCell_ints _) ?_
      intro W45 hW45
      have bx45 := hW45.box; have hB45 := hW45.below _ _ lo37 hB41
      refine hK.out _ _ trivial (fun _ => ?_); clear hK K
      refine takeH 11 17 (v := ?va11_46) rfl (by rfl) (by kernel_rfl) (by kernel_rfl) (by kernel_rfl) (fun _ _ _ h => h) (Or.inl ⟨by rfl, ?_⟩) (trivial) ?_
      rotate_left
      · intro wq hSq
        go_simp
        exact rfl
      try simp only [Act.put, List.setIfInBounds_toArray, List.set_cons_zero, List.set_cons_succ]
      refine wpAnyH_done (by kernel_rfl) ?_ _
      go_wp2_with fail
      go_meet
      exact ⟨_, rfl, rfl, bx45, hB45⟩
  case rest =>
    obtain ⟨by9, rfl, rfl, hy9, hN⟩ := hcut
    obtain ⟨wc9, rfl⟩ : ∃ u : World, u = wc := ⟨_, rfl⟩
    have hB12 : Below w.heap.size w wc9 := below_thru hB11 hN
    have hs12 := hB12.size
    have x_p12 : Box wc9 (w1.heap.size) (P.map (Value.int .u8)) := Box.below x_p11 hN
    have x_q12 : Box wc9 (w1.heap.size + 1) (Q.map (Value.int .u8)) := Box.below x_q11 hN
    have x_i12 : Box wc9 (w3.heap.size) (I.map (Value.int .u8)) := Box.below x_i11 hN
    have x_o12 : Box wc9 (w5.heap.size) (O.map (Value.int .u8)) := Box.below x_o11 hN
    have x_t12 : Box wc9 (w7.heap.size) (O.map (Value.int .u8)) := Box.below x_t11 hN
    have x_x12 : Box wc9 (w10.heap.size) (I.map (Value.int .u8)) := Box.below x_x11 hN
    clear hB11 hs11 x_p11 x_q11 x_i11 x_o11 x_t11 x_x11
    have x_y12 := hy9
    clear hN hy9 LB
    have CP := Lib.hid (fun i (hi : i < 64) => x_p12.c i _ (nth_at i (by rw [LP.out]; exact hi)))
    have CQ := Lib.hid (fun i (hi : i < 64) => x_q12.c i _ (nth_at i (by rw [LQ.out]; exact hi)))
    clear x_p12
    clear x_q12
    go_wp2_with fail
    go_loopw [18] (fun i wr => ∃ k n : Nat, k ≤ 64 ∧ i = .int .i64 k ∧ wr = wc9.drewN n) (fun i _ => 64 - (intOf i).toNat)
    case atStart => exact ⟨0, 0, by omega, rfl, rfl⟩
    case round =>
      obtain ⟨k, n, hkk, rfl, rfl⟩ := hrel
      by_cases hlt : k < 64
      · have cp := CP.out k hlt
        have cq := CQ.out k hlt
        have hxr := XR.out k hlt
        generalize nth P k = x at cp hxr
        generalize nth Q k = y at cq hxr
        clear x_i12 x_o12 x_t12 x_x12 x_y12
        go_wp2
        go_quiet (fail)
        go_wp2
        go_roundw
        case rel => exact ⟨k + 1, _, by omega, by go_num, rfl⟩
        case measure => simp [intOf]; omega
      · obtain rfl : k = 64 := by omega
        have FI : ∀ W, (Op.equalIn 10000 31 (.agg (I.map (Value.int .u8)).toArray) (.agg (I.map (Value.int .u8)).toArray)).run Tryd.prog W = .ok true W := EI.out
        have FO : ∀ W, (Op.equalIn 10000 31 (.agg (O.map (Value.int .u8)).toArray) (.agg (O.map (Value.int .u8)).toArray)).run Tryd.prog W = .ok true W := EO.out
        have hBn := below_drewN hB12 n
        go_wp2_with (first
      | (refine wpList_load_boxw rfl _ _ rfl (Box.drewN x_i12 n) rfl Tryd.underlying31 rfl SI.out ?_)
      | (refine wpList_load_boxw rfl _ _ rfl (Box.drewN x_x12 n) rfl Tryd.underlying31 rfl SI.out ?_)
      | (refine wpList_load_boxw rfl _ _ rfl (Box.drewN x_o12 n) rfl Tryd.underlying31 rfl SO.out ?_)
      | (refine wpList_load_boxw rfl _ _ rfl (Box.drewN x_y12 n) rfl Tryd.underlying31 rfl SO.out ?_)
      | (refine wpList_load_boxw rfl _ _ rfl (Box.drewN x_t12 n) rfl Tryd.underlying31 rfl SO.out ?_))
        refine (alive6_tt _ (Lib.hid (hL.out.below hBn))).mono ?_
        rintro e wl ⟨rfl, hb⟩
        have hBl := below_thru hBn hb
        go_wp2_with fail
        go_returns
        exact ⟨rfl, hBl⟩

theorem made6_any {a0 a1 : Option Addr} {c0 c1 : Nat} {K xs : List Int} {w : World} (i0 : IsL w .u8 (.slice a0 K.length c0) K) (i1 : IsL w .u8 (.slice a1 xs.length c1) xs) (hk : bytesL K) (hx : bytesL xs) (hL : LaidS w) :
    Calls Tryd.prog 5 #[.slice a0 K.length c0, .slice a1 xs.length c1] w fun e w' => e = .returned (.bool true) ∧ Below w.heap.size w w' := by
  have m0 := i0.room
  have m1 := i1.room
  by_cases h : 200 < K.length ∨ 1000 < xs.length
  · exact made6_long w h (by omega) (by omega) (Lib.hid hL)
  · exact made6_main w (by omega) (by omega) (Lib.hid i0) (Lib.hid i1) (Lib.hid hk) (Lib.hid hx) (Lib.hid hL)

end Go.Proofs.YtfobjdkpdeiidaaDoor
