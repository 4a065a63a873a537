/-
  MacSums, walked: it returns true.
-/
import Derived.Test.YtfobjdkpdeiidaaDoorMacT
import Derived.Test.YtfobjdkpdeiidaaDoorMRefC
namespace Go.Proofs.YtfobjdkpdeiidaaDoor
open Go.RowKit

theorem padsOut_len (K : List Int) : (padsOut K).1.length = 64 ∧ (padsOut K).2.1.length = 64 := by
  unfold padsOut
  split
  · exact ⟨rfl, rfl⟩
  · exact ⟨padI_len K, padO_len K⟩
theorem sumOut_len (K xs : List Int) : (sumOut K xs).1.length = 32 := by
  unfold sumOut
  split
  · rfl
  · exact tagL_len _ _
theorem eq_b64 {P : List Int} (h : P.length = 64) (W : World) : (Op.equalIn 10000 26 (.agg (P.map (Value.int .u8)).toArray) (.agg (P.map (Value.int .u8)).toArray)).run Tryd.prog W = .ok true W :=
  eq_same Tryd.underlying26 Tryd.underlying5 size_u8 P h W
theorem eq_b32 {P : List Int} (h : P.length = 32) (W : World) : (Op.equalIn 10000 31 (.agg (P.map (Value.int .u8)).toArray) (.agg (P.map (Value.int .u8)).toArray)).run Tryd.prog W = .ok true W :=
  eq_same Tryd.underlying31 Tryd.underlying5 size_u8 P h W

set_option maxRecDepth 100000 in
set_option maxHeartbeats 1600000 in
theorem sums6_long {a0 a1 : Option Addr} {c0 c1 : Nat} {K xs d : List Int} (w : World) (hl : 300 < K.length ∨ 2000 < xs.length) (m0 : K.length ≤ 9223372036854775807) (m1 : xs.length ≤ 9223372036854775807) :
    Calls Tryd.prog 4 #[.slice a0 K.length c0, .slice a1 xs.length c1, av d] w fun e w' => e = .returned (.bool true) ∧ Below w.heap.size w w' := by
  obtain ⟨A, hA⟩ : ∃ A, (d.map (Value.int .u8)).toArray = A := ⟨_, rfl⟩
  unfold av
  rw [hA]
  rcases Nat.lt_or_ge 300 K.length with q0 | q0
  · clear hl
    go_enter Tryd.func4, Tryd.ntmps4
    go_wp2_with fail
    go_returns
    exact ⟨rfl, by go_grown⟩
  · have q1 : 2000 < xs.length := by omega
    clear hl
    go_enter Tryd.func4, Tryd.ntmps4
    go_wp2_with fail
    go_returns
    exact ⟨rfl, by go_grown⟩

set_option maxRecDepth 100000 in
set_option maxHeartbeats 6400000 in
theorem sums6_main {a0 a1 : Option Addr} {c0 c1 : Nat} {K xs d : List Int} (w : World) (q0 : K.length ≤ 300) (q1 : xs.length ≤ 2000)
    (i0 : Hid (IsL w .u8 (.slice a0 K.length c0) K)) (i1 : Hid (IsL w .u8 (.slice a1 xs.length c1) xs)) (hk : Hid (bytesL K)) (hx : Hid (bytesL xs)) (hdl : d.length = 32) (hdb : bytesL d) (hL : Hid (LaidS w)) :
    Calls Tryd.prog 4 #[.slice a0 K.length c0, .slice a1 xs.length c1, av d] w fun e w' => e = .returned (.bool true) ∧ Below w.heap.size w w' := by
  obtain ⟨P, Q, e1, h1⟩ : ∃ P Q x, padsOut K = (P, Q, x) := ⟨_, _, _, rfl⟩
  obtain ⟨I, e2, h2⟩ : ∃ P x, innerOut K xs = (P, x) := ⟨_, _, rfl⟩
  obtain ⟨O, e3, h3⟩ : ∃ P x, outerOut K d = (P, x) := ⟨_, _, rfl⟩
  obtain ⟨T, e4, h4⟩ : ∃ P x, sumOut K xs = (P, x) := ⟨_, _, rfl⟩
  have lP : P.length = 64 := by have := (padsOut_len K).1; rw [h1] at this; exact this
  have lQ : Q.length = 64 := by have := (padsOut_len K).2; rw [h1] at this; exact this
  have lI : I.length = 32 := by have := innerOut_len K xs; rw [h2] at this; exact this
  have lO : O.length = 32 := by have := outerOut_len K d; rw [h3] at this; exact this
  have lT : T.length = 32 := by have := sumOut_len K xs; rw [h4] at this; exact this
  have H1 := Lib.hid h1
  have H2 := Lib.hid h2
  have H3 := Lib.hid h3
  have H4 := Lib.hid h4
  have SP := Lib.hid (size_of64 lP)
  have NP := Lib.hid (len_of64 lP)
  have EP := Lib.hid (eq_b64 lP)
  have SQ := Lib.hid (size_of64 lQ)
  have NQ := Lib.hid (len_of64 lQ)
  have EQ := Lib.hid (eq_b64 lQ)
  have SI := Lib.hid (size_dig lI)
  have NI := Lib.hid (len_dig lI)
  have EI := Lib.hid (eq_b32 lI)
  have SO := Lib.hid (size_dig lO)
  have NO := Lib.hid (len_dig lO)
  have EO := Lib.hid (eq_b32 lO)
  have ST := Lib.hid (size_dig lT)
  have NT := Lib.hid (len_dig lT)
  have ET := Lib.hid (eq_b32 lT)
  have Sd := Lib.hid (size_dig hdl)
  have HDB := Lib.hid hdb
  have HDL := Lib.hid hdl
  obtain ⟨ti, hin, hz0, hz1, hz2⟩ := info8
  obtain ⟨A, hA⟩ : ∃ A, (d.map (Value.int .u8)).toArray = A := ⟨_, rfl⟩
  have HA := Lib.hid hA
  rw [show av d = .agg A by unfold av; rw [hA]]
  clear hA hdb hdl h1 h2 h3 h4 lP lQ lI lO lT
  go_enter Tryd.func4, Tryd.ntmps4
  go_upto_region 3 with fail
  have x_d0 : Box (w.alloc (.cells A 31)) w.heap.size (d.map (Value.int .u8)) := Box.newc HA.out.symm rfl
  have hN := (Below.refl _ w).alloc (Nat.le_refl _) (.cells A 31)
  refine F_world2 (F := fun W => Code.wp _ _ _ _ W) (J := fun W => Box W w.heap.size (d.map (Value.int .u8))) (J2 := fun _ => True) (J3 := fun W => Below w.heap.size w W) x_d0 trivial hN ?_
  clear x_d0 hN
  intro w0 x_d0 _ hB0
  have hs0 := hB0.size
  have J_k0 : Hid (IsL w0 .u8 (.slice a0 K.length c0) K) := Lib.hid (i0.out.below hB0)
  have J_x0 : Hid (IsL w0 .u8 (.slice a1 xs.length c1) xs) := Lib.hid (i1.out.below hB0)
  go_upto_region 4 with (first
    | (at_builtin; refine wpList_append_built rfl _ _ 23 rfl 5 ti (.int .u8 0) 1 .u8 Tryd.underlying23 hin hz0 hz1 hz2 rfl [] K _ (.slice a0 K.length c0) _ _ _ rfl rfl rfl rfl rfl rfl J_k0.out (by unfold maxLen; simp <;> omega) (by simp <;> omega) ?_; intro v_o U0_0 ho0_0 hb0_0)
    | (at_builtin; refine wpList_append_built rfl _ _ 23 rfl 5 ti (.int .u8 0) 1 .u8 Tryd.underlying23 hin hz0 hz1 hz2 rfl [] xs _ (.slice a1 xs.length c1) _ _ _ rfl rfl rfl rfl rfl rfl (IsL.below J_x0.out hb0_0) (by unfold maxLen; simp <;> omega) (by simp <;> omega) ?_; intro v_b U0_1 ho0_1 hb0_1))
  have q_o := (show IsL U0_0 .u8 v_o K from IsL.own ho0_0 rfl)
  have q_o := IsL.below q_o hb0_1
  have q_b := (show IsL U0_1 .u8 v_b xs from IsL.own ho0_1 rfl)
  have hN := below_thru hb0_0 hb0_1
  have hB1 : Below w.heap.size w U0_1 := below_thru hB0 hN
  have hs1 := hB1.size
  have x_d1 : Box U0_1 (w.heap.size) (d.map (Value.int .u8)) := Box.below x_d0 hN
  have J_k1 : Hid (IsL U0_1 .u8 (.slice a0 K.length c0) K) := Lib.hid (IsL.below J_k0.out hN)
  have J_x1 : Hid (IsL U0_1 .u8 (.slice a1 xs.length c1) xs) := Lib.hid (IsL.below J_x0.out hN)
  clear hB0 hs0 x_d0 J_k0 J_x0
  obtain ⟨a_o, c_o, e_o, _, _⟩ := id q_o
  subst e_o
  have J_o1 : Hid (IsL U0_1 .u8 (.slice a_o K.length c_o) K) := Lib.hid q_o
  have r_o := q_o.room
  have r1_o := r_o.2.1
  have r2_o := r_o.2.2
  clear r_o q_o
  obtain ⟨a_b, c_b, e_b, _, _⟩ := id q_b
  subst e_b
  have J_b1 : Hid (IsL U0_1 .u8 (.slice a_b xs.length c_b) xs) := Lib.hid q_b
  have r_b := q_b.room
  have r1_b := r_b.2.1
  have r2_b := r_b.2.2
  clear r_b q_b
  clear hN ho0_0 hb0_0 ho0_1 hb0_1
  go_wp2_with fail
  refine (pads_any _ J_o1 hk H1 (Lib.hid (hL.out.below hB1))).mono ?_
  rintro e w2 ⟨rfl, hb⟩
  have hB2 : Below w.heap.size w w2 := below_thru hB1 hb
  have hs2 := hB2.size
  have x_d2 : Box w2 (w.heap.size) (d.map (Value.int .u8)) := Box.below x_d1 hb
  have J_k2 : Hid (IsL w2 .u8 (.slice a0 K.length c0) K) := Lib.hid (IsL.below J_k1.out hb)
  have J_x2 : Hid (IsL w2 .u8 (.slice a1 xs.length c1) xs) := Lib.hid (IsL.below J_x1.out hb)
  have J_o2 : Hid (IsL w2 .u8 (.slice a_o K.length c_o) K) := Lib.hid (IsL.below J_o1.out hb)
  have J_b2 : Hid (IsL w2 .u8 (.slice a_b xs.length c_b) xs) := Lib.hid (IsL.below J_b1.out hb)
  clear hB1 hs1 x_d1 J_k1 J_x1 J_o1 J_b1
  clear hb
  go_upto_region 5 with (first
    | (refine wpList_store_box (cs := P.map (Value.int .u8)) rfl _ _ _ rfl (Box.alloc (Box.newc (l := zero64) rfl rfl) _) rfl rfl SP.out NP.out (oneCell_ints _) ?_; intro W2_0 hW2_0)
    | (refine wpList_store_box (cs := Q.map (Value.int .u8)) rfl _ _ _ rfl (hW2_0.past _ _ (by omega) (Box.newc (l := zero64) rfl (by simp))) rfl rfl SQ.out NQ.out (oneCell_ints _) ?_; intro W2_1 hW2_1))
  have hN : Below w2.heap.size w2 W2_1 := (hW2_1.below _ _ (by omega) (hW2_0.below _ _ (by omega) (((Below.refl _ w2).alloc (Nat.le_refl _) _).alloc (by simp) _)))
  have x_p3 : Box W2_1 (w2.heap.size) (P.map (Value.int .u8)) := (hW2_1.past _ _ (by omega) hW2_0.box)
  have x_q3 : Box W2_1 (w2.heap.size + 1) (Q.map (Value.int .u8)) := hW2_1.box
  have hB3 : Below w.heap.size w W2_1 := below_thru hB2 hN
  have hs3 := hB3.size
  have x_d3 : Box W2_1 (w.heap.size) (d.map (Value.int .u8)) := Box.below x_d2 hN
  have J_k3 : Hid (IsL W2_1 .u8 (.slice a0 K.length c0) K) := Lib.hid (IsL.below J_k2.out hN)
  have J_x3 : Hid (IsL W2_1 .u8 (.slice a1 xs.length c1) xs) := Lib.hid (IsL.below J_x2.out hN)
  have J_o3 : Hid (IsL W2_1 .u8 (.slice a_o K.length c_o) K) := Lib.hid (IsL.below J_o2.out hN)
  have J_b3 : Hid (IsL W2_1 .u8 (.slice a_b xs.length c_b) xs) := Lib.hid (IsL.below J_b2.out hN)
  clear hB2 hs2 x_d2 J_k2 J_x2 J_o2 J_b2
  clear hN hW2_0 hW2_1
  go_wp2_with fail
  refine (rpads_any _ J_k3 hk H1).mono ?_
  rintro e w4 ⟨rfl, hb⟩
  have hB4 : Below w.heap.size w w4 := below_thru hB3 hb
  have hs4 := hB4.size
  have x_d4 : Box w4 (w.heap.size) (d.map (Value.int .u8)) := Box.below x_d3 hb
  have x_p4 : Box w4 (w2.heap.size) (P.map (Value.int .u8)) := Box.below x_p3 hb
  have x_q4 : Box w4 (w2.heap.size + 1) (Q.map (Value.int .u8)) := Box.below x_q3 hb
  have J_k4 : Hid (IsL w4 .u8 (.slice a0 K.length c0) K) := Lib.hid (IsL.below J_k3.out hb)
  have J_x4 : Hid (IsL w4 .u8 (.slice a1 xs.length c1) xs) := Lib.hid (IsL.below J_x3.out hb)
  have J_o4 : Hid (IsL w4 .u8 (.slice a_o K.length c_o) K) := Lib.hid (IsL.below J_o3.out hb)
  have J_b4 : Hid (IsL w4 .u8 (.slice a_b xs.length c_b) xs) := Lib.hid (IsL.below J_b3.out hb)
  clear hB3 hs3 x_d3 x_p3 x_q3 J_k3 J_x3 J_o3 J_b3
  clear hb
  go_upto_region 6 with (first
    | (refine wpList_store_box (cs := P.map (Value.int .u8)) rfl _ _ _ rfl (Box.alloc (Box.newc (l := zero64) rfl rfl) _) rfl rfl SP.out NP.out (oneCell_ints _) ?_; intro W4_0 hW4_0)
    | (refine wpList_store_box (cs := Q.map (Value.int .u8)) rfl _ _ _ rfl (hW4_0.past _ _ (by omega) (Box.newc (l := zero64) rfl (by simp))) rfl rfl SQ.out NQ.out (oneCell_ints _) ?_; intro W4_1 hW4_1))
  have hN : Below w4.heap.size w4 W4_1 := (hW4_1.below _ _ (by omega) (hW4_0.below _ _ (by omega) (((Below.refl _ w4).alloc (Nat.le_refl _) _).alloc (by simp) _)))
  have x_pr5 : Box W4_1 (w4.heap.size) (P.map (Value.int .u8)) := (hW4_1.past _ _ (by omega) hW4_0.box)
  have x_qr5 : Box W4_1 (w4.heap.size + 1) (Q.map (Value.int .u8)) := hW4_1.box
  have hB5 : Below w.heap.size w W4_1 := below_thru hB4 hN
  have hs5 := hB5.size
  have x_d5 : Box W4_1 (w.heap.size) (d.map (Value.int .u8)) := Box.below x_d4 hN
  have x_p5 : Box W4_1 (w2.heap.size) (P.map (Value.int .u8)) := Box.below x_p4 hN
  have x_q5 : Box W4_1 (w2.heap.size + 1) (Q.map (Value.int .u8)) := Box.below x_q4 hN
  have J_k5 : Hid (IsL W4_1 .u8 (.slice a0 K.length c0) K) := Lib.hid (IsL.below J_k4.out hN)
  have J_x5 : Hid (IsL W4_1 .u8 (.slice a1 xs.length c1) xs) := Lib.hid (IsL.below J_x4.out hN)
  have J_o5 : Hid (IsL W4_1 .u8 (.slice a_o K.length c_o) K) := Lib.hid (IsL.below J_o4.out hN)
  have J_b5 : Hid (IsL W4_1 .u8 (.slice a_b xs.length c_b) xs) := Lib.hid (IsL.below J_b4.out hN)
  clear hB4 hs4 x_d4 x_p4 x_q4 J_k4 J_x4 J_o4 J_b4
  clear hN hW4_0 hW4_1
  go_wp2_with fail
  refine (inner_any _ J_o5 J_b5 hk hx H2 (Lib.hid (hL.out.below hB5))).mono ?_
  rintro e w6 ⟨rfl, hb⟩
  have hB6 : Below w.heap.size w w6 := below_thru hB5 hb
  have hs6 := hB6.size
  have x_d6 : Box w6 (w.heap.size) (d.map (Value.int .u8)) := Box.below x_d5 hb
  have x_p6 : Box w6 (w2.heap.size) (P.map (Value.int .u8)) := Box.below x_p5 hb
  have x_q6 : Box w6 (w2.heap.size + 1) (Q.map (Value.int .u8)) := Box.below x_q5 hb
  have x_pr6 : Box w6 (w4.heap.size) (P.map (Value.int .u8)) := Box.below x_pr5 hb
  have x_qr6 : Box w6 (w4.heap.size + 1) (Q.map (Value.int .u8)) := Box.below x_qr5 hb
  have J_k6 : Hid (IsL w6 .u8 (.slice a0 K.length c0) K) := Lib.hid (IsL.below J_k5.out hb)
  have J_x6 : Hid (IsL w6 .u8 (.slice a1 xs.length c1) xs) := Lib.hid (IsL.below J_x5.out hb)
  have J_o6 : Hid (IsL w6 .u8 (.slice a_o K.length c_o) K) := Lib.hid (IsL.below J_o5.out hb)
  have J_b6 : Hid (IsL w6 .u8 (.slice a_b xs.length c_b) xs) := Lib.hid (IsL.below J_b5.out hb)
  clear hB5 hs5 x_d5 x_p5 x_q5 x_pr5 x_qr5 J_k5 J_x5 J_o5 J_b5
  clear hb
  go_upto_region 7 with (refine wpList_store_box (cs := I.map (Value.int .u8)) rfl _ _ _ rfl (Box.newc (l := zero32) rfl rfl) rfl rfl SI.out NI.out (oneCell_ints _) ?_; intro W6_0 hW6_0)
  have hN : Below w6.heap.size w6 W6_0 := (hW6_0.below _ _ (by omega) ((Below.refl _ w6).alloc (Nat.le_refl _) _))
  have x_i7 : Box W6_0 (w6.heap.size) (I.map (Value.int .u8)) := hW6_0.box
  have hB7 : Below w.heap.size w W6_0 := below_thru hB6 hN
  have hs7 := hB7.size
  have x_d7 : Box W6_0 (w.heap.size) (d.map (Value.int .u8)) := Box.below x_d6 hN
  have x_p7 : Box W6_0 (w2.heap.size) (P.map (Value.int .u8)) := Box.below x_p6 hN
  have x_q7 : Box W6_0 (w2.heap.size + 1) (Q.map (Value.int .u8)) := Box.below x_q6 hN
  have x_pr7 : Box W6_0 (w4.heap.size) (P.map (Value.int .u8)) := Box.below x_pr6 hN
  have x_qr7 : Box W6_0 (w4.heap.size + 1) (Q.map (Value.int .u8)) := Box.below x_qr6 hN
  have J_k7 : Hid (IsL W6_0 .u8 (.slice a0 K.length c0) K) := Lib.hid (IsL.below J_k6.out hN)
  have J_x7 : Hid (IsL W6_0 .u8 (.slice a1 xs.length c1) xs) := Lib.hid (IsL.below J_x6.out hN)
  have J_o7 : Hid (IsL W6_0 .u8 (.slice a_o K.length c_o) K) := Lib.hid (IsL.below J_o6.out hN)
  have J_b7 : Hid (IsL W6_0 .u8 (.slice a_b xs.length c_b) xs) := Lib.hid (IsL.below J_b6.out hN)
  clear hB6 hs6 x_d6 x_p6 x_q6 x_pr6 x_qr6 J_k6 J_x6 J_o6 J_b6
  clear hN hW6_0
  go_wp2_with fail
  refine (rinner_any _ J_k7 J_x7 hk hx H2).mono ?_
  rintro e w8 ⟨rfl, hb⟩
  have hB8 : Below w.heap.size w w8 := below_thru hB7 hb
  have hs8 := hB8.size
  have x_d8 : Box w8 (w.heap.size) (d.map (Value.int .u8)) := Box.below x_d7 hb
  have x_p8 : Box w8 (w2.heap.size) (P.map (Value.int .u8)) := Box.below x_p7 hb
  have x_q8 : Box w8 (w2.heap.size + 1) (Q.map (Value.int .u8)) := Box.below x_q7 hb
  have x_pr8 : Box w8 (w4.heap.size) (P.map (Value.int .u8)) := Box.below x_pr7 hb
  have x_qr8 : Box w8 (w4.heap.size + 1) (Q.map (Value.int .u8)) := Box.below x_qr7 hb
  have x_i8 : Box w8 (w6.heap.size) (I.map (Value.int .u8)) := Box.below x_i7 hb
  have J_k8 : Hid (IsL w8 .u8 (.slice a0 K.length c0) K) := Lib.hid (IsL.below J_k7.out hb)
  have J_x8 : Hid (IsL w8 .u8 (.slice a1 xs.length c1) xs) := Lib.hid (IsL.below J_x7.out hb)
  have J_o8 : Hid (IsL w8 .u8 (.slice a_o K.length c_o) K) := Lib.hid (IsL.below J_o7.out hb)
  have J_b8 : Hid (IsL w8 .u8 (.slice a_b xs.length c_b) xs) := Lib.hid (IsL.below J_b7.out hb)
  clear hB7 hs7 x_d7 x_p7 x_q7 x_pr7 x_qr7 x_i7 J_k7 J_x7 J_o7 J_b7
  clear hb
  go_upto_region 8 with (refine wpList_store_box (cs := I.map (Value.int .u8)) rfl _ _ _ rfl (Box.newc (l := zero32) rfl rfl) rfl rfl SI.out NI.out (oneCell_ints _) ?_; intro W8_0 hW8_0)
  have hN : Below w8.heap.size w8 W8_0 := (hW8_0.below _ _ (by omega) ((Below.refl _ w8).alloc (Nat.le_refl _) _))
  have x_ir9 : Box W8_0 (w8.heap.size) (I.map (Value.int .u8)) := hW8_0.box
  have hB9 : Below w.heap.size w W8_0 := below_thru hB8 hN
  have hs9 := hB9.size
  have x_d9 : Box W8_0 (w.heap.size) (d.map (Value.int .u8)) := Box.below x_d8 hN
  have x_p9 : Box W8_0 (w2.heap.size) (P.map (Value.int .u8)) := Box.below x_p8 hN
  have x_q9 : Box W8_0 (w2.heap.size + 1) (Q.map (Value.int .u8)) := Box.below x_q8 hN
  have x_pr9 : Box W8_0 (w4.heap.size) (P.map (Value.int .u8)) := Box.below x_pr8 hN
  have x_qr9 : Box W8_0 (w4.heap.size + 1) (Q.map (Value.int .u8)) := Box.below x_qr8 hN
  have x_i9 : Box W8_0 (w6.heap.size) (I.map (Value.int .u8)) := Box.below x_i8 hN
  have J_k9 : Hid (IsL W8_0 .u8 (.slice a0 K.length c0) K) := Lib.hid (IsL.below J_k8.out hN)
  have J_x9 : Hid (IsL W8_0 .u8 (.slice a1 xs.length c1) xs) := Lib.hid (IsL.below J_x8.out hN)
  have J_o9 : Hid (IsL W8_0 .u8 (.slice a_o K.length c_o) K) := Lib.hid (IsL.below J_o8.out hN)
  have J_b9 : Hid (IsL W8_0 .u8 (.slice a_b xs.length c_b) xs) := Lib.hid (IsL.below J_b8.out hN)
  clear hB8 hs8 x_d8 x_p8 x_q8 x_pr8 x_qr8 x_i8 J_k8 J_x8 J_o8 J_b8
  clear hN hW8_0
  go_wp2_with ((refine wpList_load_box rfl _ _ rfl x_d9 rfl Tryd.underlying31 rfl Sd.out ?_))
  refine (outer_any (d := d) _ J_o9 hk HDL.out HDB H3 (Lib.hid (hL.out.below hB9))).mono ?_
  rintro e w10 ⟨rfl, hb⟩
  have hB10 : Below w.heap.size w w10 := below_thru hB9 hb
  have hs10 := hB10.size
  have x_d10 : Box w10 (w.heap.size) (d.map (Value.int .u8)) := Box.below x_d9 hb
  have x_p10 : Box w10 (w2.heap.size) (P.map (Value.int .u8)) := Box.below x_p9 hb
  have x_q10 : Box w10 (w2.heap.size + 1) (Q.map (Value.int .u8)) := Box.below x_q9 hb
  have x_pr10 : Box w10 (w4.heap.size) (P.map (Value.int .u8)) := Box.below x_pr9 hb
  have x_qr10 : Box w10 (w4.heap.size + 1) (Q.map (Value.int .u8)) := Box.below x_qr9 hb
  have x_i10 : Box w10 (w6.heap.size) (I.map (Value.int .u8)) := Box.below x_i9 hb
  have x_ir10 : Box w10 (w8.heap.size) (I.map (Value.int .u8)) := Box.below x_ir9 hb
  have J_k10 : Hid (IsL w10 .u8 (.slice a0 K.length c0) K) := Lib.hid (IsL.below J_k9.out hb)
  have J_x10 : Hid (IsL w10 .u8 (.slice a1 xs.length c1) xs) := Lib.hid (IsL.below J_x9.out hb)
  have J_o10 : Hid (IsL w10 .u8 (.slice a_o K.length c_o) K) := Lib.hid (IsL.below J_o9.out hb)
  have J_b10 : Hid (IsL w10 .u8 (.slice a_b xs.length c_b) xs) := Lib.hid (IsL.below J_b9.out hb)
  clear hB9 hs9 x_d9 x_p9 x_q9 x_pr9 x_qr9 x_i9 x_ir9 J_k9 J_x9 J_o9 J_b9
  clear hb
  go_upto_region 9 with (refine wpList_store_box (cs := O.map (Value.int .u8)) rfl _ _ _ rfl (Box.newc (l := zero32) rfl rfl) rfl rfl SO.out NO.out (oneCell_ints _) ?_; intro W10_0 hW10_0)
  have hN : Below w10.heap.size w10 W10_0 := (hW10_0.below _ _ (by omega) ((Below.refl _ w10).alloc (Nat.le_refl _) _))
  have x_u11 : Box W10_0 (w10.heap.size) (O.map (Value.int .u8)) := hW10_0.box
  have hB11 : Below w.heap.size w W10_0 := below_thru hB10 hN
  have hs11 := hB11.size
  have x_d11 : Box W10_0 (w.heap.size) (d.map (Value.int .u8)) := Box.below x_d10 hN
  have x_p11 : Box W10_0 (w2.heap.size) (P.map (Value.int .u8)) := Box.below x_p10 hN
  have x_q11 : Box W10_0 (w2.heap.size + 1) (Q.map (Value.int .u8)) := Box.below x_q10 hN
  have x_pr11 : Box W10_0 (w4.heap.size) (P.map (Value.int .u8)) := Box.below x_pr10 hN
  have x_qr11 : Box W10_0 (w4.heap.size + 1) (Q.map (Value.int .u8)) := Box.below x_qr10 hN
  have x_i11 : Box W10_0 (w6.heap.size) (I.map (Value.int .u8)) := Box.below x_i10 hN
  have x_ir11 : Box W10_0 (w8.heap.size) (I.map (Value.int .u8)) := Box.below x_ir10 hN
  have J_k11 : Hid (IsL W10_0 .u8 (.slice a0 K.length c0) K) := Lib.hid (IsL.below J_k10.out hN)
  have J_x11 : Hid (IsL W10_0 .u8 (.slice a1 xs.length c1) xs) := Lib.hid (IsL.below J_x10.out hN)
  have J_o11 : Hid (IsL W10_0 .u8 (.slice a_o K.length c_o) K) := Lib.hid (IsL.below J_o10.out hN)
  have J_b11 : Hid (IsL W10_0 .u8 (.slice a_b xs.length c_b) xs) := Lib.hid (IsL.below J_b10.out hN)
  clear hB10 hs10 x_d10 x_p10 x_q10 x_pr10 x_qr10 x_i10 x_ir10 J_k10 J_x10 J_o10 J_b10
  clear hN hW10_0
  go_wp2_with ((refine wpList_load_box rfl _ _ rfl x_d11 rfl Tryd.underlying31 rfl Sd.out ?_))
  refine (router_any (d := d) _ J_k11 hk HDL.out HDB.out H3).mono ?_
  rintro e w12 ⟨rfl, hb⟩
  have hB12 : Below w.heap.size w w12 := below_thru hB11 hb
  have hs12 := hB12.size
  have x_d12 : Box w12 (w.heap.size) (d.map (Value.int .u8)) := Box.below x_d11 hb
  have x_p12 : Box w12 (w2.heap.size) (P.map (Value.int .u8)) := Box.below x_p11 hb
  have x_q12 : Box w12 (w2.heap.size + 1) (Q.map (Value.int .u8)) := Box.below x_q11 hb
  have x_pr12 : Box w12 (w4.heap.size) (P.map (Value.int .u8)) := Box.below x_pr11 hb
  have x_qr12 : Box w12 (w4.heap.size + 1) (Q.map (Value.int .u8)) := Box.below x_qr11 hb
  have x_i12 : Box w12 (w6.heap.size) (I.map (Value.int .u8)) := Box.below x_i11 hb
  have x_ir12 : Box w12 (w8.heap.size) (I.map (Value.int .u8)) := Box.below x_ir11 hb
  have x_u12 : Box w12 (w10.heap.size) (O.map (Value.int .u8)) := Box.below x_u11 hb
  have J_k12 : Hid (IsL w12 .u8 (.slice a0 K.length c0) K) := Lib.hid (IsL.below J_k11.out hb)
  have J_x12 : Hid (IsL w12 .u8 (.slice a1 xs.length c1) xs) := Lib.hid (IsL.below J_x11.out hb)
  have J_o12 : Hid (IsL w12 .u8 (.slice a_o K.length c_o) K) := Lib.hid (IsL.below J_o11.out hb)
  have J_b12 : Hid (IsL w12 .u8 (.slice a_b xs.length c_b) xs) := Lib.hid (IsL.below J_b11.out hb)
  clear hB11 hs11 x_d11 x_p11 x_q11 x_pr11 x_qr11 x_i11 x_ir11 x_u11 J_k11 J_x11 J_o11 J_b11
  clear hb
  go_upto_region 10 with (refine wpList_store_box (cs := O.map (Value.int .u8)) rfl _ _ _ rfl (Box.newc (l := zero32) rfl rfl) rfl rfl SO.out NO.out (oneCell_ints _) ?_; intro W12_0 hW12_0)
  have hN : Below w12.heap.size w12 W12_0 := (hW12_0.below _ _ (by omega) ((Below.refl _ w12).alloc (Nat.le_refl _) _))
  have x_ur13 : Box W12_0 (w12.heap.size) (O.map (Value.int .u8)) := hW12_0.box
  have hB13 : Below w.heap.size w W12_0 := below_thru hB12 hN
  have hs13 := hB13.size
  have x_d13 : Box W12_0 (w.heap.size) (d.map (Value.int .u8)) := Box.below x_d12 hN
  have x_p13 : Box W12_0 (w2.heap.size) (P.map (Value.int .u8)) := Box.below x_p12 hN
  have x_q13 : Box W12_0 (w2.heap.size + 1) (Q.map (Value.int .u8)) := Box.below x_q12 hN
  have x_pr13 : Box W12_0 (w4.heap.size) (P.map (Value.int .u8)) := Box.below x_pr12 hN
  have x_qr13 : Box W12_0 (w4.heap.size + 1) (Q.map (Value.int .u8)) := Box.below x_qr12 hN
  have x_i13 : Box W12_0 (w6.heap.size) (I.map (Value.int .u8)) := Box.below x_i12 hN
  have x_ir13 : Box W12_0 (w8.heap.size) (I.map (Value.int .u8)) := Box.below x_ir12 hN
  have x_u13 : Box W12_0 (w10.heap.size) (O.map (Value.int .u8)) := Box.below x_u12 hN
  have J_k13 : Hid (IsL W12_0 .u8 (.slice a0 K.length c0) K) := Lib.hid (IsL.below J_k12.out hN)
  have J_x13 : Hid (IsL W12_0 .u8 (.slice a1 xs.length c1) xs) := Lib.hid (IsL.below J_x12.out hN)
  have J_o13 : Hid (IsL W12_0 .u8 (.slice a_o K.length c_o) K) := Lib.hid (IsL.below J_o12.out hN)
  have J_b13 : Hid (IsL W12_0 .u8 (.slice a_b xs.length c_b) xs) := Lib.hid (IsL.below J_b12.out hN)
  clear hB12 hs12 x_d12 x_p12 x_q12 x_pr12 x_qr12 x_i12 x_ir12 x_u12 J_k12 J_x12 J_o12 J_b12
  clear hN hW12_0
  clear x_d13
  go_wp2_with fail
  refine (tag_any _ J_o13 J_b13 hk hx H4 (Lib.hid (hL.out.below hB13))).mono ?_
  rintro e w14 ⟨rfl, hb⟩
  have hB14 : Below w.heap.size w w14 := below_thru hB13 hb
  have hs14 := hB14.size
  have x_p14 : Box w14 (w2.heap.size) (P.map (Value.int .u8)) := Box.below x_p13 hb
  have x_q14 : Box w14 (w2.heap.size + 1) (Q.map (Value.int .u8)) := Box.below x_q13 hb
  have x_pr14 : Box w14 (w4.heap.size) (P.map (Value.int .u8)) := Box.below x_pr13 hb
  have x_qr14 : Box w14 (w4.heap.size + 1) (Q.map (Value.int .u8)) := Box.below x_qr13 hb
  have x_i14 : Box w14 (w6.heap.size) (I.map (Value.int .u8)) := Box.below x_i13 hb
  have x_ir14 : Box w14 (w8.heap.size) (I.map (Value.int .u8)) := Box.below x_ir13 hb
  have x_u14 : Box w14 (w10.heap.size) (O.map (Value.int .u8)) := Box.below x_u13 hb
  have x_ur14 : Box w14 (w12.heap.size) (O.map (Value.int .u8)) := Box.below x_ur13 hb
  have J_k14 : Hid (IsL w14 .u8 (.slice a0 K.length c0) K) := Lib.hid (IsL.below J_k13.out hb)
  have J_x14 : Hid (IsL w14 .u8 (.slice a1 xs.length c1) xs) := Lib.hid (IsL.below J_x13.out hb)
  have J_o14 : Hid (IsL w14 .u8 (.slice a_o K.length c_o) K) := Lib.hid (IsL.below J_o13.out hb)
  have J_b14 : Hid (IsL w14 .u8 (.slice a_b xs.length c_b) xs) := Lib.hid (IsL.below J_b13.out hb)
  clear hB13 hs13 x_p13 x_q13 x_pr13 x_qr13 x_i13 x_ir13 x_u13 x_ur13 J_k13 J_x13 J_o13 J_b13
  clear hb
  go_upto_region 11 with (refine wpList_store_box (cs := T.map (Value.int .u8)) rfl _ _ _ rfl (Box.newc (l := zero32) rfl rfl) rfl rfl ST.out NT.out (oneCell_ints _) ?_; intro W14_0 hW14_0)
  have hN : Below w14.heap.size w14 W14_0 := (hW14_0.below _ _ (by omega) ((Below.refl _ w14).alloc (Nat.le_refl _) _))
  have x_t15 : Box W14_0 (w14.heap.size) (T.map (Value.int .u8)) := hW14_0.box
  have hB15 : Below w.heap.size w W14_0 := below_thru hB14 hN
  have hs15 := hB15.size
  have x_p15 : Box W14_0 (w2.heap.size) (P.map (Value.int .u8)) := Box.below x_p14 hN
  have x_q15 : Box W14_0 (w2.heap.size + 1) (Q.map (Value.int .u8)) := Box.below x_q14 hN
  have x_pr15 : Box W14_0 (w4.heap.size) (P.map (Value.int .u8)) := Box.below x_pr14 hN
  have x_qr15 : Box W14_0 (w4.heap.size + 1) (Q.map (Value.int .u8)) := Box.below x_qr14 hN
  have x_i15 : Box W14_0 (w6.heap.size) (I.map (Value.int .u8)) := Box.below x_i14 hN
  have x_ir15 : Box W14_0 (w8.heap.size) (I.map (Value.int .u8)) := Box.below x_ir14 hN
  have x_u15 : Box W14_0 (w10.heap.size) (O.map (Value.int .u8)) := Box.below x_u14 hN
  have x_ur15 : Box W14_0 (w12.heap.size) (O.map (Value.int .u8)) := Box.below x_ur14 hN
  have J_k15 : Hid (IsL W14_0 .u8 (.slice a0 K.length c0) K) := Lib.hid (IsL.below J_k14.out hN)
  have J_x15 : Hid (IsL W14_0 .u8 (.slice a1 xs.length c1) xs) := Lib.hid (IsL.below J_x14.out hN)
  have J_o15 : Hid (IsL W14_0 .u8 (.slice a_o K.length c_o) K) := Lib.hid (IsL.below J_o14.out hN)
  have J_b15 : Hid (IsL W14_0 .u8 (.slice a_b xs.length c_b) xs) := Lib.hid (IsL.below J_b14.out hN)
  clear hB14 hs14 x_p14 x_q14 x_pr14 x_qr14 x_i14 x_ir14 x_u14 x_ur14 J_k14 J_x14 J_o14 J_b14
  clear hN hW14_0
  go_wp2_with fail
  refine (rsum6_any _ J_k15 J_x15 hk hx H4).mono ?_
  rintro e w16 ⟨rfl, hb⟩
  have hB16 : Below w.heap.size w w16 := below_thru hB15 hb
  have hs16 := hB16.size
  have x_p16 : Box w16 (w2.heap.size) (P.map (Value.int .u8)) := Box.below x_p15 hb
  have x_q16 : Box w16 (w2.heap.size + 1) (Q.map (Value.int .u8)) := Box.below x_q15 hb
  have x_pr16 : Box w16 (w4.heap.size) (P.map (Value.int .u8)) := Box.below x_pr15 hb
  have x_qr16 : Box w16 (w4.heap.size + 1) (Q.map (Value.int .u8)) := Box.below x_qr15 hb
  have x_i16 : Box w16 (w6.heap.size) (I.map (Value.int .u8)) := Box.below x_i15 hb
  have x_ir16 : Box w16 (w8.heap.size) (I.map (Value.int .u8)) := Box.below x_ir15 hb
  have x_u16 : Box w16 (w10.heap.size) (O.map (Value.int .u8)) := Box.below x_u15 hb
  have x_ur16 : Box w16 (w12.heap.size) (O.map (Value.int .u8)) := Box.below x_ur15 hb
  have x_t16 : Box w16 (w14.heap.size) (T.map (Value.int .u8)) := Box.below x_t15 hb
  have J_k16 : Hid (IsL w16 .u8 (.slice a0 K.length c0) K) := Lib.hid (IsL.below J_k15.out hb)
  have J_x16 : Hid (IsL w16 .u8 (.slice a1 xs.length c1) xs) := Lib.hid (IsL.below J_x15.out hb)
  have J_o16 : Hid (IsL w16 .u8 (.slice a_o K.length c_o) K) := Lib.hid (IsL.below J_o15.out hb)
  have J_b16 : Hid (IsL w16 .u8 (.slice a_b xs.length c_b) xs) := Lib.hid (IsL.below J_b15.out hb)
  clear hB15 hs15 x_p15 x_q15 x_pr15 x_qr15 x_i15 x_ir15 x_u15 x_ur15 x_t15 J_k15 J_x15 J_o15 J_b15
  clear hb
  go_upto_region 12 with (refine wpList_store_box (cs := T.map (Value.int .u8)) rfl _ _ _ rfl (Box.newc (l := zero32) rfl rfl) rfl rfl ST.out NT.out (oneCell_ints _) ?_; intro W16_0 hW16_0)
  have hN : Below w16.heap.size w16 W16_0 := (hW16_0.below _ _ (by omega) ((Below.refl _ w16).alloc (Nat.le_refl _) _))
  have x_tr17 : Box W16_0 (w16.heap.size) (T.map (Value.int .u8)) := hW16_0.box
  have hB17 : Below w.heap.size w W16_0 := below_thru hB16 hN
  have hs17 := hB17.size
  have x_p17 : Box W16_0 (w2.heap.size) (P.map (Value.int .u8)) := Box.below x_p16 hN
  have x_q17 : Box W16_0 (w2.heap.size + 1) (Q.map (Value.int .u8)) := Box.below x_q16 hN
  have x_pr17 : Box W16_0 (w4.heap.size) (P.map (Value.int .u8)) := Box.below x_pr16 hN
  have x_qr17 : Box W16_0 (w4.heap.size + 1) (Q.map (Value.int .u8)) := Box.below x_qr16 hN
  have x_i17 : Box W16_0 (w6.heap.size) (I.map (Value.int .u8)) := Box.below x_i16 hN
  have x_ir17 : Box W16_0 (w8.heap.size) (I.map (Value.int .u8)) := Box.below x_ir16 hN
  have x_u17 : Box W16_0 (w10.heap.size) (O.map (Value.int .u8)) := Box.below x_u16 hN
  have x_ur17 : Box W16_0 (w12.heap.size) (O.map (Value.int .u8)) := Box.below x_ur16 hN
  have x_t17 : Box W16_0 (w14.heap.size) (T.map (Value.int .u8)) := Box.below x_t16 hN
  have J_k17 : Hid (IsL W16_0 .u8 (.slice a0 K.length c0) K) := Lib.hid (IsL.below J_k16.out hN)
  have J_x17 : Hid (IsL W16_0 .u8 (.slice a1 xs.length c1) xs) := Lib.hid (IsL.below J_x16.out hN)
  have J_o17 : Hid (IsL W16_0 .u8 (.slice a_o K.length c_o) K) := Lib.hid (IsL.below J_o16.out hN)
  have J_b17 : Hid (IsL W16_0 .u8 (.slice a_b xs.length c_b) xs) := Lib.hid (IsL.below J_b16.out hN)
  clear hB16 hs16 x_p16 x_q16 x_pr16 x_qr16 x_i16 x_ir16 x_u16 x_ur16 x_t16 J_k16 J_x16 J_o16 J_b16
  clear hN hW16_0
  have FP : ∀ W, (Op.equalIn 10000 26 (.agg (P.map (Value.int .u8)).toArray) (.agg (P.map (Value.int .u8)).toArray)).run Tryd.prog W = .ok true W := EP.out
  have FQ : ∀ W, (Op.equalIn 10000 26 (.agg (Q.map (Value.int .u8)).toArray) (.agg (Q.map (Value.int .u8)).toArray)).run Tryd.prog W = .ok true W := EQ.out
  have FI : ∀ W, (Op.equalIn 10000 31 (.agg (I.map (Value.int .u8)).toArray) (.agg (I.map (Value.int .u8)).toArray)).run Tryd.prog W = .ok true W := EI.out
  have FO : ∀ W, (Op.equalIn 10000 31 (.agg (O.map (Value.int .u8)).toArray) (.agg (O.map (Value.int .u8)).toArray)).run Tryd.prog W = .ok true W := EO.out
  have FT : ∀ W, (Op.equalIn 10000 31 (.agg (T.map (Value.int .u8)).toArray) (.agg (T.map (Value.int .u8)).toArray)).run Tryd.prog W = .ok true W := ET.out
  go_wp2_with (first
    | (refine wpList_load_boxw rfl _ _ rfl x_p17 rfl Tryd.underlying26 rfl SP.out ?_)
    | (refine wpList_load_boxw rfl _ _ rfl x_pr17 rfl Tryd.underlying26 rfl SP.out ?_)
    | (refine wpList_load_boxw rfl _ _ rfl x_q17 rfl Tryd.underlying26 rfl SQ.out ?_)
    | (refine wpList_load_boxw rfl _ _ rfl x_qr17 rfl Tryd.underlying26 rfl SQ.out ?_)
    | (refine wpList_load_boxw rfl _ _ rfl x_i17 rfl Tryd.underlying31 rfl SI.out ?_)
    | (refine wpList_load_boxw rfl _ _ rfl x_ir17 rfl Tryd.underlying31 rfl SI.out ?_)
    | (refine wpList_load_boxw rfl _ _ rfl x_u17 rfl Tryd.underlying31 rfl SO.out ?_)
    | (refine wpList_load_boxw rfl _ _ rfl x_ur17 rfl Tryd.underlying31 rfl SO.out ?_)
    | (refine wpList_load_boxw rfl _ _ rfl x_t17 rfl Tryd.underlying31 rfl ST.out ?_)
    | (refine wpList_load_boxw rfl _ _ rfl x_tr17 rfl Tryd.underlying31 rfl ST.out ?_))
  refine (sameb_tt _ J_o17.out J_k17.out).mono ?_
  rintro e w18 ⟨rfl, hb⟩
  have hB18 : Below w.heap.size w w18 := below_thru hB17 hb
  have hs18 := hB18.size
  have J_k18 : Hid (IsL w18 .u8 (.slice a0 K.length c0) K) := Lib.hid (IsL.below J_k17.out hb)
  have J_x18 : Hid (IsL w18 .u8 (.slice a1 xs.length c1) xs) := Lib.hid (IsL.below J_x17.out hb)
  have J_o18 : Hid (IsL w18 .u8 (.slice a_o K.length c_o) K) := Lib.hid (IsL.below J_o17.out hb)
  have J_b18 : Hid (IsL w18 .u8 (.slice a_b xs.length c_b) xs) := Lib.hid (IsL.below J_b17.out hb)
  clear hB17 hs17 J_k17 J_x17 J_o17 J_b17
  clear hb
  go_wp2_with fail
  refine (sameb_tt _ J_b18.out J_x18.out).mono ?_
  rintro e w19 ⟨rfl, hb⟩
  have hB19 : Below w.heap.size w w19 := below_thru hB18 hb
  have hs19 := hB19.size
  have J_k19 : Hid (IsL w19 .u8 (.slice a0 K.length c0) K) := Lib.hid (IsL.below J_k18.out hb)
  have J_x19 : Hid (IsL w19 .u8 (.slice a1 xs.length c1) xs) := Lib.hid (IsL.below J_x18.out hb)
  have J_o19 : Hid (IsL w19 .u8 (.slice a_o K.length c_o) K) := Lib.hid (IsL.below J_o18.out hb)
  have J_b19 : Hid (IsL w19 .u8 (.slice a_b xs.length c_b) xs) := Lib.hid (IsL.below J_b18.out hb)
  clear hB18 hs18 J_k18 J_x18 J_o18 J_b18
  clear hb
  go_wp2_with fail
  go_returns
  exact ⟨rfl, hB19⟩

theorem sums6_any {a0 a1 : Option Addr} {c0 c1 : Nat} {K xs d : List Int} {w : World} (i0 : IsL w .u8 (.slice a0 K.length c0) K) (i1 : IsL w .u8 (.slice a1 xs.length c1) xs) (hk : bytesL K) (hx : bytesL xs) (hdl : d.length = 32) (hdb : bytesL d) (hL : LaidS w) :
    Calls Tryd.prog 4 #[.slice a0 K.length c0, .slice a1 xs.length c1, av d] w fun e w' => e = .returned (.bool true) ∧ Below w.heap.size w w' := by
  have m0 := i0.room
  have m1 := i1.room
  by_cases h : 300 < K.length ∨ 2000 < xs.length
  · exact sums6_long w h (by omega) (by omega)
  · exact sums6_main w (by omega) (by omega) (Lib.hid i0) (Lib.hid i1) (Lib.hid hk) (Lib.hid hx) hdl hdb (Lib.hid hL)

end Go.Proofs.YtfobjdkpdeiidaaDoor
