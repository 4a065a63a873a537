/-
  Layer 14's statements, walked: alive, ProbeFinds, ProbeMoves.
-/
import Derived.Test.YtalfnmlbidohcaaPbG
namespace Go.Proofs.Ytalfnmlbidohcaa
open Go.RowKit

theorem RowX.row {w : World} {B : Nat} {v : Value} {y : List Cel} (h : RowX w B v y) (hl : y.length = 16) : RowC w B v y := by
  rcases h with ⟨rfl, _⟩ | h
  · cases hl
  · exact h
theorem cel_newX {i : Nat} : cel newX i = Cel.zero := by
  unfold cel newX
  rw [List.getD_eq_getElem?_getD, List.getElem?_replicate]
  split <;> rfl
theorem unused_newX (i : Nat) : ¬ (cel newX i).u = true := by
  rw [cel_newX]
  exact Bool.false_ne_true
theorem valid_newX : Valid newX where
  len := rfl
  few := by show cnt newX ≤ 12; decide
  zer _ _ _ := cel_newX
  plc i _ h := absurd h (unused_newX i)
  one i _ _ _ h := absurd h (unused_newX i)
  way i _ h := absurd h (unused_newX i)
theorem none_newX (key : Int) (i : Nat) : ¬ Has newX key i := fun h => unused_newX i h.2.1
def a14 : List Cel := putL newX 1 4 0
def b14 : List Cel := putL a14 22 5 1
def c14 : List Cel := drpL b14 9
theorem lk_a : Look newX 1 0 := ⟨by decide, by decide, fun m hm => absurd hm (Nat.not_lt_zero m)⟩
theorem ua_14 : (cel newX (lst 1 0)).u = false := by decide
theorem ca_14 : cnt newX < 12 := by decide
theorem va_14 : Valid a14 := valid_newX.put lk_a ua_14 (by decide) ca_14
theorem put_a14 : PutX newX 1 4 a14 0 := Or.inr (Or.inr (Or.inr (Or.inr ⟨valid_newX, by decide, none_newX 1, rfl, ca_14, 0, lk_a, ua_14, rfl⟩)))
theorem lk_b : Look a14 22 1 := ⟨by decide, by decide, fun m hm => by
  obtain rfl : m = 0 := by omega
  decide⟩
theorem ub_14 : (cel a14 (lst 22 1)).u = false := by decide
theorem cb_14 : cnt a14 < 12 := by decide
theorem nb_14 (i : Nat) : ¬ Has a14 22 i := fun h => va_14.none lk_b ub_14 i h.1 h.2.1 h.2.2
theorem vb_14 : Valid b14 := va_14.put lk_b ub_14 (by decide) cb_14
theorem put_b14 : PutX a14 22 5 b14 0 := Or.inr (Or.inr (Or.inr (Or.inr ⟨va_14, by decide, nb_14, rfl, cb_14, 1, lk_b, ub_14, rfl⟩)))
theorem hb_14 : Has b14 1 9 := ⟨by decide, by decide, by decide⟩
theorem drop_c14 : DrpX b14 1 c14 0 := Or.inr (Or.inr ⟨vb_14, rfl, 9, hb_14, rfl⟩)
theorem vc_14 : Valid c14 := vb_14.drop hb_14.1 hb_14.2.1
theorem c14_at : cel c14 9 = ⟨22, 5, true⟩ ∧ (cel c14 10).u = false ∧ c14.length = 16 := ⟨by kernel_rfl, by kernel_rfl, by kernel_rfl⟩
theorem lk_c : Look c14 1 1 := ⟨by decide, by kernel_rfl, fun m hm => by
  obtain rfl : m = 0 := by omega
  kernel_rfl⟩
theorem step_14 : StpX c14 1 2 0 := Or.inr ⟨vc_14, rfl, 1, lk_c, rfl⟩
theorem b14_at : (cel b14 9).k = 1 ∧ (cel b14 10).k = 22 ∧ b14.length = 16 := ⟨by kernel_rfl, by kernel_rfl, by kernel_rfl⟩
theorem homs_14 : hom 0 = 0 ∧ hom 1 = 9 ∧ hom 2 = 3 ∧ hom 8 = 15 ∧ hom 22 = 9 := by decide

set_option maxRecDepth 100000 in
set_option maxHeartbeats 6400000 in
theorem alive14_is (w : World) : Calls Try.prog 23 #[] w fun e w' => e = .returned (.bool true) ∧ Below w.heap.size w w' := by
  have NW := fun W => pnew_is W; have PA := fun (W : World) (v : Value) (h : IsR LCel W v newX) => pput_is put_a14 W h; have PB := fun (W : World) (v : Value) (h : IsR LCel W v a14) => pput_is put_b14 W h; have DC := fun (W : World) (v : Value) (h : IsR LCel W v b14) => pdrop_is drop_c14 W h; have SC := fun (W : World) (v : Value) (h : IsR LCel W v c14) => pstep_is step_14 W h
  have HB := Lib.hid b14_at; have HC := Lib.hid c14_at
  obtain ⟨A0, hA0⟩ : ∃ A, newX = A := ⟨_, rfl⟩
  obtain ⟨A1, hA1⟩ : ∃ A, a14 = A := ⟨_, rfl⟩
  obtain ⟨A2, hA2⟩ : ∃ A, b14 = A := ⟨_, rfl⟩
  obtain ⟨A3, hA3⟩ : ∃ A, c14 = A := ⟨_, rfl⟩
  rw [hA0] at NW PA; rw [hA1] at PA PB; rw [hA2] at PB DC HB; rw [hA3] at DC SC HC; clear hA0 hA1 hA2 hA3
  have H0 : ∀ W, Calls Try.prog 13 #[.int .u32 0] W fun e w' => e = .returned (.int .i64 0) ∧ Below W.heap.size W w' := fun W => by have := hom_is 0 W; rw [show hom 0 = 0 by decide] at this; exact this
  have H1 : ∀ W, Calls Try.prog 13 #[.int .u32 1] W fun e w' => e = .returned (.int .i64 9) ∧ Below W.heap.size W w' := fun W => by have := hom_is 1 W; rw [show hom 1 = 9 by decide] at this; exact this
  have H2 : ∀ W, Calls Try.prog 13 #[.int .u32 2] W fun e w' => e = .returned (.int .i64 3) ∧ Below W.heap.size W w' := fun W => by have := hom_is 2 W; rw [show hom 2 = 3 by decide] at this; exact this
  have H8 : ∀ W, Calls Try.prog 13 #[.int .u32 8] W fun e w' => e = .returned (.int .i64 15) ∧ Below W.heap.size W w' := fun W => by have := hom_is 8 W; rw [show hom 8 = 15 by decide] at this; exact this
  have H22 : ∀ W, Calls Try.prog 13 #[.int .u32 22] W fun e w' => e = .returned (.int .i64 9) ∧ Below W.heap.size W w' := fun W => by have := hom_is 22 W; rw [show hom 22 = 9 by decide] at this; exact this
  have hB0 := Below.refl w.heap.size w
  have hs0 := hB0.size
  go_enter Try.func23, Try.ntmps23
  go_wp2_with fail
  refine (NW _).mono ?_
  rintro e w1 ⟨un, rfl, hI, hb⟩
  have hB1 : Below w.heap.size w w1 := below_thru hB0 hb
  have hs1 := hB1.size
  clear hB0 hs0
  clear hb
  have K_w1_1 : Below w1.heap.size w1 w1 := Below.refl _ _
  have In := Lib.hid hI; clear hI
  go_wp2_with fail
  refine (PA _ _ (In.out.isR.below K_w1_1)).mono ?_
  rintro e w2 ⟨ua, rfl, hI, hb⟩
  have K_w1_2 : Below w1.heap.size w1 w2 := below_thru K_w1_1 hb
  clear K_w1_1
  have hB2 : Below w.heap.size w w2 := below_thru hB1 hb
  have hs2 := hB2.size
  clear hB1 hs1
  clear hb
  have K_w2_2 : Below w2.heap.size w2 w2 := Below.refl _ _
  have Ia := Lib.hid hI; clear hI
  go_wp2_with fail
  refine (PB _ _ (Ia.out.isR.below K_w2_2)).mono ?_
  rintro e w3 ⟨ub, rfl, hI, hb⟩
  have K_w1_3 : Below w1.heap.size w1 w3 := below_thru K_w1_2 hb
  have K_w2_3 : Below w2.heap.size w2 w3 := below_thru K_w2_2 hb
  clear K_w1_2 K_w2_2
  have hB3 : Below w.heap.size w w3 := below_thru hB2 hb
  have hs3 := hB3.size
  clear hB2 hs2
  clear hb
  have K_w3_3 : Below w3.heap.size w3 w3 := Below.refl _ _
  have Ib := Lib.hid hI; clear hI
  go_wp2_with fail
  refine (DC _ _ (Ib.out.isR.below K_w3_3)).mono ?_
  rintro e w4 ⟨uc, rfl, hI, hb⟩
  have K_w1_4 : Below w1.heap.size w1 w4 := below_thru K_w1_3 hb
  have K_w2_4 : Below w2.heap.size w2 w4 := below_thru K_w2_3 hb
  have K_w3_4 : Below w3.heap.size w3 w4 := below_thru K_w3_3 hb
  clear K_w1_3 K_w2_3 K_w3_3
  have hB4 : Below w.heap.size w w4 := below_thru hB3 hb
  have hs4 := hB4.size
  clear hB3 hs3
  clear hb
  have K_w4_4 : Below w4.heap.size w4 w4 := Below.refl _ _
  have Ic := Lib.hid hI; clear hI
  go_wp2_with fail
  refine (SC _ _ (Ic.out.isR.below K_w4_4)).mono ?_
  rintro e w5 ⟨rfl, hb⟩
  have K_w1_5 : Below w1.heap.size w1 w5 := below_thru K_w1_4 hb
  have K_w2_5 : Below w2.heap.size w2 w5 := below_thru K_w2_4 hb
  have K_w3_5 : Below w3.heap.size w3 w5 := below_thru K_w3_4 hb
  have K_w4_5 : Below w4.heap.size w4 w5 := below_thru K_w4_4 hb
  clear K_w1_4 K_w2_4 K_w3_4 K_w4_4
  have hB5 : Below w.heap.size w w5 := below_thru hB4 hb
  have hs5 := hB5.size
  clear hB4 hs4
  clear hb
  go_wp2_with fail
  refine (H0 _).mono ?_
  rintro e w6 ⟨rfl, hb⟩
  have K_w1_6 : Below w1.heap.size w1 w6 := below_thru K_w1_5 hb
  have K_w2_6 : Below w2.heap.size w2 w6 := below_thru K_w2_5 hb
  have K_w3_6 : Below w3.heap.size w3 w6 := below_thru K_w3_5 hb
  have K_w4_6 : Below w4.heap.size w4 w6 := below_thru K_w4_5 hb
  clear K_w1_5 K_w2_5 K_w3_5 K_w4_5
  have hB6 : Below w.heap.size w w6 := below_thru hB5 hb
  have hs6 := hB6.size
  clear hB5 hs5
  clear hb
  go_wp2_with fail
  refine (H1 _).mono ?_
  rintro e w7 ⟨rfl, hb⟩
  have K_w1_7 : Below w1.heap.size w1 w7 := below_thru K_w1_6 hb
  have K_w2_7 : Below w2.heap.size w2 w7 := below_thru K_w2_6 hb
  have K_w3_7 : Below w3.heap.size w3 w7 := below_thru K_w3_6 hb
  have K_w4_7 : Below w4.heap.size w4 w7 := below_thru K_w4_6 hb
  clear K_w1_6 K_w2_6 K_w3_6 K_w4_6
  have hB7 : Below w.heap.size w w7 := below_thru hB6 hb
  have hs7 := hB7.size
  clear hB6 hs6
  clear hb
  go_wp2_with fail
  refine (H2 _).mono ?_
  rintro e w8 ⟨rfl, hb⟩
  have K_w1_8 : Below w1.heap.size w1 w8 := below_thru K_w1_7 hb
  have K_w2_8 : Below w2.heap.size w2 w8 := below_thru K_w2_7 hb
  have K_w3_8 : Below w3.heap.size w3 w8 := below_thru K_w3_7 hb
  have K_w4_8 : Below w4.heap.size w4 w8 := below_thru K_w4_7 hb
  clear K_w1_7 K_w2_7 K_w3_7 K_w4_7
  have hB8 : Below w.heap.size w w8 := below_thru hB7 hb
  have hs8 := hB8.size
  clear hB7 hs7
  clear hb
  go_wp2_with fail
  refine (H8 _).mono ?_
  rintro e w9 ⟨rfl, hb⟩
  have K_w1_9 : Below w1.heap.size w1 w9 := below_thru K_w1_8 hb
  have K_w2_9 : Below w2.heap.size w2 w9 := below_thru K_w2_8 hb
  have K_w3_9 : Below w3.heap.size w3 w9 := below_thru K_w3_8 hb
  have K_w4_9 : Below w4.heap.size w4 w9 := below_thru K_w4_8 hb
  clear K_w1_8 K_w2_8 K_w3_8 K_w4_8
  have hB9 : Below w.heap.size w w9 := below_thru hB8 hb
  have hs9 := hB9.size
  clear hB8 hs8
  clear hb
  go_wp2_with fail
  refine (H22 _).mono ?_
  rintro e w10 ⟨rfl, hb⟩
  have K_w1_10 : Below w1.heap.size w1 w10 := below_thru K_w1_9 hb
  have K_w2_10 : Below w2.heap.size w2 w10 := below_thru K_w2_9 hb
  have K_w3_10 : Below w3.heap.size w3 w10 := below_thru K_w3_9 hb
  have K_w4_10 : Below w4.heap.size w4 w10 := below_thru K_w4_9 hb
  clear K_w1_9 K_w2_9 K_w3_9 K_w4_9
  have hB10 : Below w.heap.size w w10 := below_thru hB9 hb
  have hs10 := hB10.size
  clear hB9 hs9
  clear hb
  have RB := Ib.out.row HB.out.2.2; have RC := Ic.out.row HC.out.2.2; clear In Ia Ib Ic
  obtain ⟨_, gb, db, rfl, _, hd1, hd2, hxb, _⟩ := RB; obtain ⟨_, gc, dc, rfl, _, he1, he2, hxc, _⟩ := RC
  have xb := hxb.below K_w3_10; have xc := hxc.below K_w4_10; clear hxb hxc
  have zb := xb.lt; have zc := xc.lt; have b9 := ((xb.cells HB.out.2.2) 9 (by decide)).1; have b10 := ((xb.cells HB.out.2.2) 10 (by decide)).1; have c9 := (xc.cells HC.out.2.2).range (i := 9) (by decide); have c10 := ((xc.cells HC.out.2.2) 10 (by decide)).2.2; rw [HB.out.1] at b9; rw [HB.out.2.1] at b10; rw [HC.out.1] at c9; rw [HC.out.2.1] at c10
  have EQ := fun (W : World) => eq_cel 22 22 5 5 true true W; rw [eqc_t] at EQ
  clear xb xc K_w1_10 K_w2_10 K_w3_10 K_w4_10; simp only [Nat.zero_add] at b9 b10 c9 c10
  go_wp2_with (refine wpList_load_rangew rfl _ _ rfl c9 (by first | rfl | simp) Try.underlying42 rfl (size_cel _ _ _) ?_)
  go_returns
  exact ⟨rfl, hB10⟩

set_option maxRecDepth 100000 in
set_option maxHeartbeats 6400000 in
theorem finds14_a {v : Value} {x : List Cel} {key : Int} (h : 100 < x.length) (w : World) (h1 : IsR LCel w v x) : Calls Try.prog 3 #[v, .int .u32 key] w fun e w' => e = .returned (.bool true) ∧ Below w.heap.size w w' := by
  obtain ⟨a, c, rfl, hr⟩ := id h1; have hm := hr.most; have hro := hr.room; obtain ⟨n, hn⟩ : ∃ n, x.length = n := ⟨_, rfl⟩; rw [hn] at h hro ⊢; clear hn h1 hr; have hd : decide (100 < (n : Int)) = true := decide_eq_true (by omega); have hdn : decide (100 < n) = true := decide_eq_true h; have hB0 := Below.refl w.heap.size w
  go_enter Try.func3, Try.ntmps3
  go_wp2_with fail
  go_returns
  exact ⟨rfl, hB0⟩

set_option maxRecDepth 100000 in
set_option maxHeartbeats 6400000 in
theorem finds14_b {v : Value} {x : List Cel} {key : Int} (hky : Keys x) (hkey : 0 ≤ key ∧ key ≤ 4294967295) (h : x.length ≤ 100) (w : World) (h1 : IsR LCel w v x) : Calls Try.prog 3 #[v, .int .u32 key] w fun e w' => e = .returned (.bool true) ∧ Below w.heap.size w w' := by
  obtain ⟨p, q, hF⟩ := FndX.ex x key; obtain ⟨n, s, hS⟩ := StpX.ex x key; obtain ⟨y, hC⟩ := ChkX.ex x; have H1 := Lib.hid h1
  have F1 := fun (W : World) (u : Value) (h : IsR LCel W u x) => pfind_is hF W h
  have F2 := fun (W : World) (u : Value) (h : IsR LCel W u x) => rfind_is hky hF W h
  have S1 := fun (W : World) (u : Value) (h : IsR LCel W u x) => pstep_is hS W h
  have S2 := fun (W : World) (u : Value) (h : IsR LCel W u x) => rstep_is hky hkey hS W h
  have C1 := fun (W : World) (u : Value) (h : IsR LCel W u x) => pchk_is W h hC
  have C2 := fun (W : World) (u : Value) (h : IsR LCel W u x) => rchk_is hky W h hC
  have O1 := fun W => hom_is key W; have O2 := fun W => rhom_is hkey W; obtain ⟨m, hm⟩ : ∃ m, hom key = m := ⟨_, rfl⟩; rw [hm] at O1 O2; clear hm hF hS hC hky hkey
  obtain ⟨a, c, rfl, hr⟩ := id h1; have hmo := hr.most; have hro := hr.room; obtain ⟨len, hn⟩ : ∃ n, x.length = n := ⟨_, rfl⟩; rw [hn] at h hro H1 ⊢; clear hn h1 hr; have hd : decide (100 < (len : Int)) = false := decide_eq_false (by omega); have hdn : decide (100 < len) = false := decide_eq_false (by omega)
  have hB0 := Below.refl w.heap.size w
  have hs0 := hB0.size
  go_enter Try.func3, Try.ntmps3
  go_wp2_with fail
  refine (F1 _ _ (H1.out.below hB0)).mono ?_
  rintro e w1 ⟨rfl, hb⟩
  have hB1 : Below w.heap.size w w1 := below_thru hB0 hb
  have hs1 := hB1.size
  clear hB0 hs0
  clear hb
  go_wp2_with fail
  refine (F2 _ _ (H1.out.below hB1)).mono ?_
  rintro e w2 ⟨rfl, hb⟩
  have hB2 : Below w.heap.size w w2 := below_thru hB1 hb
  have hs2 := hB2.size
  clear hB1 hs1
  clear hb
  go_wp2_with fail
  refine (S1 _ _ (H1.out.below hB2)).mono ?_
  rintro e w3 ⟨rfl, hb⟩
  have hB3 : Below w.heap.size w w3 := below_thru hB2 hb
  have hs3 := hB3.size
  clear hB2 hs2
  clear hb
  go_wp2_with fail
  refine (S2 _ _ (H1.out.below hB3)).mono ?_
  rintro e w4 ⟨rfl, hb⟩
  have hB4 : Below w.heap.size w w4 := below_thru hB3 hb
  have hs4 := hB4.size
  clear hB3 hs3
  clear hb
  go_wp2_with fail
  refine (O1 _).mono ?_
  rintro e w5 ⟨rfl, hb⟩
  have hB5 : Below w.heap.size w w5 := below_thru hB4 hb
  have hs5 := hB5.size
  clear hB4 hs4
  clear hb
  go_wp2_with fail
  refine (O2 _).mono ?_
  rintro e w6 ⟨rfl, hb⟩
  have hB6 : Below w.heap.size w w6 := below_thru hB5 hb
  have hs6 := hB6.size
  clear hB5 hs5
  clear hb
  go_wp2_with fail
  refine (C1 _ _ (H1.out.below hB6)).mono ?_
  rintro e w7 ⟨rfl, hb⟩
  have hB7 : Below w.heap.size w w7 := below_thru hB6 hb
  have hs7 := hB7.size
  clear hB6 hs6
  clear hb
  go_wp2_with fail
  refine (C2 _ _ (H1.out.below hB7)).mono ?_
  rintro e w8 ⟨rfl, hb⟩
  have hB8 : Below w.heap.size w w8 := below_thru hB7 hb
  have hs8 := hB8.size
  clear hB7 hs7
  clear hb
  go_wp2_with fail
  go_returns
  exact ⟨rfl, hB8⟩

theorem finds14_is {v : Value} {x : List Cel} {key : Int} (hky : Keys x) (hkey : 0 ≤ key ∧ key ≤ 4294967295) (w : World) (h1 : IsR LCel w v x) : Calls Try.prog 3 #[v, .int .u32 key] w fun e w' => e = .returned (.bool true) ∧ Below w.heap.size w w' := by
  by_cases h : 100 < x.length
  · exact finds14_a h w h1
  · exact finds14_b hky hkey (by omega) w h1

set_option maxRecDepth 100000 in
set_option maxHeartbeats 6400000 in
theorem moves14_a {v : Value} {x : List Cel} {key p : Int} (h : 100 < x.length) (w : World) (h1 : IsR LCel w v x) : Calls Try.prog 4 #[v, .int .u32 key, .int .i64 p] w fun e w' => e = .returned (.bool true) ∧ Below w.heap.size w w' := by
  obtain ⟨a, c, rfl, hr⟩ := id h1; have hm := hr.most; have hro := hr.room; obtain ⟨n, hn⟩ : ∃ n, x.length = n := ⟨_, rfl⟩; rw [hn] at h hro ⊢; clear hn h1 hr; have hd : decide (100 < (n : Int)) = true := decide_eq_true (by omega); have hdn : decide (100 < n) = true := decide_eq_true h; have hB0 := Below.refl w.heap.size w
  go_enter Try.func4, Try.ntmps4
  go_wp2_with fail
  go_returns
  exact ⟨rfl, hB0⟩

set_option maxRecDepth 100000 in
set_option maxHeartbeats 6400000 in
theorem moves14_b {v : Value} {x : List Cel} {key p : Int} (hky : Keys x) (hkey : 0 ≤ key ∧ key ≤ 4294967295) (h : x.length ≤ 100) (w : World) (h1 : IsR LCel w v x) : Calls Try.prog 4 #[v, .int .u32 key, .int .i64 p] w fun e w' => e = .returned (.bool true) ∧ Below w.heap.size w w' := by
  obtain ⟨y, q, hP⟩ := PutX.ex x key p; obtain ⟨z, s, hD⟩ := DrpX.ex x key; have H1 := Lib.hid h1; have h16 := hP.len; have g16 := hD.len
  have P1 := fun (W : World) (u : Value) (h : IsR LCel W u x) => pput_is hP W h
  have P2 := fun (W : World) (u : Value) (h : IsR LCel W u x) => rput_is hky hkey hP W h
  have D1 := fun (W : World) (u : Value) (h : IsR LCel W u x) => pdrop_is hD W h
  have D2 := fun (W : World) (u : Value) (h : IsR LCel W u x) => rdrop_is hky hD W h
  have SM := fun (l : List Cel) (hl : l.length ≤ 100) (W : World) (u v : Value) (h : IsR LCel W u l) (g : IsR LCel W v l) => rsame_is (b := true) hl ⟨fun _ => rfl, fun _ => rfl⟩ W h g; have SY := SM y (by omega); have SZ := SM z (by omega); have SX := SM x h; clear SM hP hD hky hkey h16 g16
  obtain ⟨ti, hin, hz0, hz1, hz2⟩ := info_parts info_cel; have HL := Lib.hid h
  obtain ⟨a, c, rfl, hr⟩ := id h1; have hmo := hr.most; have hro := hr.room; obtain ⟨len, hn⟩ : ∃ n, x.length = n := ⟨_, rfl⟩; rw [hn] at h hro H1 ⊢; clear hn h1 hr; have hd : decide (100 < (len : Int)) = false := decide_eq_false (by omega); have hdn : decide (100 < len) = false := decide_eq_false (by omega)
  have hB0 := Below.refl w.heap.size w
  have hs0 := hB0.size
  go_enter Try.func4, Try.ntmps4
  have LE : (w.alloc (.cells #[] 42)).ownsRow w.heap.size 42 3 (.slice (some ⟨w.heap.size, 0, none⟩) 0 0) 0 [] := ownR_built (L := LCel) (c := #[]) (n := 0) (m := 0) [] rfl rfl rfl rfl rfl (by decide)
  have XS : IsR LCel (w.alloc (.cells #[] 42)) (.slice a len c) x := H1.out.alloc _
  go_wp2_with (at_builtin; refine wpList_append_rows rfl LCel _ _ 22 rfl w.heap.size 42 ti (.agg celz.toArray) 3 24 rfl Try.underlying22 hin hz0 hz1 hz2 rfl _ 0 _ rfl LE _ x rfl XS (by have := HL.out; unfold maxLen; omega) (by have := HL.out; omega) (by simp) ?_; intro v9 w9 own9 gr9)
  have hB9 := ((Below.refl _ w).alloc (Nat.le_refl _) (.cells #[] 42)).grown gr9 (by simp) (ownR_block LE); rw [Nat.zero_add, List.nil_append] at own9; have IO : Hid (IsR LCel w9 v9 x) := Lib.hid (IsR.own own9 rfl rfl); clear LE XS own9 gr9 hB0 hs0 hin hz0 hz1 hz2
  have hs9 := hB9.size
  have K_w9_9 : Below w9.heap.size w9 w9 := Below.refl _ _
  refine (P1 _ _ (IO.out.below K_w9_9)).mono ?_
  rintro e w10 ⟨ua, rfl, hI, hb⟩
  have K_w9_10 : Below w9.heap.size w9 w10 := below_thru K_w9_9 hb
  clear K_w9_9
  have hB10 : Below w.heap.size w w10 := below_thru hB9 hb
  have hs10 := hB10.size
  clear hB9 hs9
  clear hb
  have K_w10_10 : Below w10.heap.size w10 w10 := Below.refl _ _
  have Ia := Lib.hid hI; clear hI
  go_wp2_with fail
  refine (P2 _ _ (H1.out.below hB10)).mono ?_
  rintro e w11 ⟨ub, rfl, hI, hb⟩
  have K_w9_11 : Below w9.heap.size w9 w11 := below_thru K_w9_10 hb
  have K_w10_11 : Below w10.heap.size w10 w11 := below_thru K_w10_10 hb
  clear K_w9_10 K_w10_10
  have hB11 : Below w.heap.size w w11 := below_thru hB10 hb
  have hs11 := hB11.size
  clear hB10 hs10
  clear hb
  have K_w11_11 : Below w11.heap.size w11 w11 := Below.refl _ _
  have Ib := Lib.hid hI; clear hI
  go_wp2_with fail
  refine (D1 _ _ (IO.out.below K_w9_11)).mono ?_
  rintro e w12 ⟨uc, rfl, hI, hb⟩
  have K_w9_12 : Below w9.heap.size w9 w12 := below_thru K_w9_11 hb
  have K_w10_12 : Below w10.heap.size w10 w12 := below_thru K_w10_11 hb
  have K_w11_12 : Below w11.heap.size w11 w12 := below_thru K_w11_11 hb
  clear K_w9_11 K_w10_11 K_w11_11
  have hB12 : Below w.heap.size w w12 := below_thru hB11 hb
  have hs12 := hB12.size
  clear hB11 hs11
  clear hb
  have K_w12_12 : Below w12.heap.size w12 w12 := Below.refl _ _
  have Ic := Lib.hid hI; clear hI
  go_wp2_with fail
  refine (D2 _ _ (H1.out.below hB12)).mono ?_
  rintro e w13 ⟨ud, rfl, hI, hb⟩
  have K_w9_13 : Below w9.heap.size w9 w13 := below_thru K_w9_12 hb
  have K_w10_13 : Below w10.heap.size w10 w13 := below_thru K_w10_12 hb
  have K_w11_13 : Below w11.heap.size w11 w13 := below_thru K_w11_12 hb
  have K_w12_13 : Below w12.heap.size w12 w13 := below_thru K_w12_12 hb
  clear K_w9_12 K_w10_12 K_w11_12 K_w12_12
  have hB13 : Below w.heap.size w w13 := below_thru hB12 hb
  have hs13 := hB13.size
  clear hB12 hs12
  clear hb
  have K_w13_13 : Below w13.heap.size w13 w13 := Below.refl _ _
  have Id := Lib.hid hI; clear hI
  go_wp2_with fail
  refine (SY _ _ _ (Ia.out.isR.below K_w10_13) (Ib.out.isR.below K_w11_13)).mono ?_
  rintro e w14 ⟨rfl, hb⟩
  have K_w9_14 : Below w9.heap.size w9 w14 := below_thru K_w9_13 hb
  have K_w10_14 : Below w10.heap.size w10 w14 := below_thru K_w10_13 hb
  have K_w11_14 : Below w11.heap.size w11 w14 := below_thru K_w11_13 hb
  have K_w12_14 : Below w12.heap.size w12 w14 := below_thru K_w12_13 hb
  have K_w13_14 : Below w13.heap.size w13 w14 := below_thru K_w13_13 hb
  clear K_w9_13 K_w10_13 K_w11_13 K_w12_13 K_w13_13
  have hB14 : Below w.heap.size w w14 := below_thru hB13 hb
  have hs14 := hB14.size
  clear hB13 hs13
  clear hb
  go_wp2_with fail
  refine (SZ _ _ _ (Ic.out.isR.below K_w12_14) (Id.out.isR.below K_w13_14)).mono ?_
  rintro e w15 ⟨rfl, hb⟩
  have K_w9_15 : Below w9.heap.size w9 w15 := below_thru K_w9_14 hb
  have K_w10_15 : Below w10.heap.size w10 w15 := below_thru K_w10_14 hb
  have K_w11_15 : Below w11.heap.size w11 w15 := below_thru K_w11_14 hb
  have K_w12_15 : Below w12.heap.size w12 w15 := below_thru K_w12_14 hb
  have K_w13_15 : Below w13.heap.size w13 w15 := below_thru K_w13_14 hb
  clear K_w9_14 K_w10_14 K_w11_14 K_w12_14 K_w13_14
  have hB15 : Below w.heap.size w w15 := below_thru hB14 hb
  have hs15 := hB15.size
  clear hB14 hs14
  clear hb
  go_wp2_with fail
  refine (SX _ _ _ (IO.out.below K_w9_15) (H1.out.below hB15)).mono ?_
  rintro e w16 ⟨rfl, hb⟩
  have K_w9_16 : Below w9.heap.size w9 w16 := below_thru K_w9_15 hb
  have K_w10_16 : Below w10.heap.size w10 w16 := below_thru K_w10_15 hb
  have K_w11_16 : Below w11.heap.size w11 w16 := below_thru K_w11_15 hb
  have K_w12_16 : Below w12.heap.size w12 w16 := below_thru K_w12_15 hb
  have K_w13_16 : Below w13.heap.size w13 w16 := below_thru K_w13_15 hb
  clear K_w9_15 K_w10_15 K_w11_15 K_w12_15 K_w13_15
  have hB16 : Below w.heap.size w w16 := below_thru hB15 hb
  have hs16 := hB16.size
  clear hB15 hs15
  clear hb
  go_wp2_with fail
  go_returns
  exact ⟨rfl, hB16⟩

theorem moves14_is {v : Value} {x : List Cel} {key p : Int} (hky : Keys x) (hkey : 0 ≤ key ∧ key ≤ 4294967295) (w : World) (h1 : IsR LCel w v x) : Calls Try.prog 4 #[v, .int .u32 key, .int .i64 p] w fun e w' => e = .returned (.bool true) ∧ Below w.heap.size w w' := by
  by_cases h : 100 < x.length
  · exact moves14_a h w h1
  · exact moves14_b hky hkey (by omega) w h1


end Go.Proofs.Ytalfnmlbidohcaa
