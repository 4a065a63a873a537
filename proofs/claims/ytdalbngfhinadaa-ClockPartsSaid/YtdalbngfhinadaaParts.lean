/-
  ClockParts, walked: it returns true.
-/
import Derived.Test.YtdalbngfhinadaaClockMath
import Derived.Test.YtdalbngfhinadaaAlive02
namespace Go.Proofs.Ytdalbngfhinadaa
open Go.RowKit

theorem IsL.upto {w : World} {k : IntKind} {a : Option Addr} {n c : Nat} {xs : List Int} (h : IsL w k (.slice a n c) xs) (m : Nat) (hm : m ≤ xs.length) : IsL w k (.slice a m c) (xs.take m) := by
  obtain ⟨a', c', e, hi, h0⟩ := h
  injection e with e1 e2 e3
  subst e1 e2 e3
  exact ⟨a, c, by rw [List.length_take, Nat.min_eq_left hm], hi.take m hm, h0⟩
theorem IsL.cut {w : World} {k : IntKind} {a : Option Addr} {n c : Nat} {xs : List Int} (h : IsL w k (.slice a n c) xs) (m : Nat) (hm : m ≤ xs.length) :
    IsL w k (.slice (if c = m then a else a.map (·.add m)) (n - m) (c - m)) (xs.drop m) := by
  obtain ⟨a', c', e, hi, h0⟩ := h
  injection e with e1 e2 e3
  subst e1 e2 e3
  have hr := hi.room
  have hx := hi.most
  refine ⟨_, c - m, by rw [List.length_drop], ⟨by rw [List.length_drop]; omega, by omega, fun hp => ?_⟩, fun q => ?_⟩
  · rw [List.length_drop] at hp
    obtain ⟨b, off, rfl, hc⟩ := hi.cells (by omega)
    rw [if_neg (by omega)]
    refine ⟨b, off + m, by simp [Go.WideShapes.add_plain], fun i hj => ?_⟩
    rw [List.length_drop] at hj
    rw [nth_drop, show off + m + i = off + (m + i) by omega]
    exact hc (m + i) (by omega)
  · split at q
    · omega
    · have := h0 (by simpa using q)
      omega
theorem clV_short {now : Int} {xs : List Int} (h : xs.length ≤ 200) : clV now xs = cl now xs xs.length := if_neg (by omega)
theorem clE_short {xs : List Int} (h : xs.length ≤ 200) : clE xs = 0 := if_neg (by omega)
theorem bkL_short {now : Int} {xs : List Int} (h : xs.length ≤ 200) : bkL now xs = bk now xs xs.length := if_neg (by omega)

set_option maxRecDepth 100000 in
set_option maxHeartbeats 3200000 in
theorem parts_long (now : Int) (xs : List Int) (at0 : Option Addr) (cap : Nat) (at1 : Int) (w : World) (hi : IsL w .u64 (.slice at0 xs.length cap) xs) (hl : 40 < xs.length) :
    Calls Try.prog 7 #[.int .u64 now, .slice at0 xs.length cap, .int .i64 at1] w fun e w' => e = .returned (.bool true) ∧ Below w.heap.size w w' := by
  obtain ⟨_, hr, hm⟩ := hi.room
  skip
  have L_l_0 := Lib.hid hi
  clear hi
  have d1 : decide ((40 : Int) < (xs.length : Int)) = true := decide_eq_true (by omega)
  go_enter Try.func7, Try.ntmps7
  go_wp2_with fail
  refine (alive02_any _).mono ?_
  rintro e w1 ⟨rfl, hb⟩
  go_wp2_with fail
  go_returns
  exact ⟨rfl, hb⟩

set_option maxRecDepth 100000 in
set_option maxHeartbeats 3200000 in
theorem parts_neg (now : Int) (xs : List Int) (at0 : Option Addr) (cap : Nat) (at1 : Int) (w : World) (hi : IsL w .u64 (.slice at0 xs.length cap) xs) (hl : xs.length ≤ 40) (hn : at1 < 0) :
    Calls Try.prog 7 #[.int .u64 now, .slice at0 xs.length cap, .int .i64 at1] w fun e w' => e = .returned (.bool true) ∧ Below w.heap.size w w' := by
  obtain ⟨_, hr, hm⟩ := hi.room
  skip
  have L_l_0 := Lib.hid hi
  clear hi
  have d1 : decide ((40 : Int) < (xs.length : Int)) = false := decide_eq_false (by omega)
  have d2 : decide (at1 < 0) = true := decide_eq_true hn
  go_enter Try.func7, Try.ntmps7
  go_wp2_with fail
  refine (alive02_any _).mono ?_
  rintro e w1 ⟨rfl, hb⟩
  go_wp2_with fail
  go_returns
  exact ⟨rfl, hb⟩

set_option maxRecDepth 100000 in
set_option maxHeartbeats 3200000 in
theorem parts_far (now : Int) (xs : List Int) (at0 : Option Addr) (cap : Nat) (at1 : Int) (w : World) (hi : IsL w .u64 (.slice at0 xs.length cap) xs) (hl : xs.length ≤ 40) (hn : 0 ≤ at1) (hf : (xs.length : Int) < at1) :
    Calls Try.prog 7 #[.int .u64 now, .slice at0 xs.length cap, .int .i64 at1] w fun e w' => e = .returned (.bool true) ∧ Below w.heap.size w w' := by
  obtain ⟨_, hr, hm⟩ := hi.room
  skip
  have L_l_0 := Lib.hid hi
  clear hi
  have d1 : decide ((40 : Int) < (xs.length : Int)) = false := decide_eq_false (by omega)
  have d2 : decide (at1 < 0) = false := decide_eq_false (by omega)
  have d3 : decide ((xs.length : Int) < at1) = true := decide_eq_true hf
  go_enter Try.func7, Try.ntmps7
  go_wp2_with fail
  refine (alive02_any _).mono ?_
  rintro e w1 ⟨rfl, hb⟩
  go_wp2_with fail
  go_returns
  exact ⟨rfl, hb⟩

set_option maxRecDepth 100000 in
set_option maxHeartbeats 3200000 in
theorem parts_zr (now : Int) (xs : List Int) (at0 : Option Addr) (cap : Nat) (w : World) (hi : IsL w .u64 (.slice at0 xs.length cap) xs) (hl : xs.length ≤ 40) (hris : risB ([now] ++ xs) = true) :
    Calls Try.prog 7 #[.int .u64 now, .slice at0 xs.length cap, .int .i64 0] w fun e w' => e = .returned (.bool true) ∧ Below w.heap.size w w' := by
  obtain ⟨_, hr, hm⟩ := hi.room
  skip
  have L_l_0 := Lib.hid hi
  clear hi
  have d1 : decide ((40 : Int) < (xs.length : Int)) = false := decide_eq_false (by omega)
  have d3 : decide ((xs.length : Int) < 0) = false := decide_eq_false (by omega)
  have i1 : (0 : Int) ≤ (cap : Int) := by omega
  have i2 : (0 : Int) ≤ (xs.length : Int) := by omega
  obtain ⟨A, hA⟩ : ∃ A, cl now xs xs.length = A := ⟨_, rfl⟩
  obtain ⟨C, hC⟩ : ∃ C, cl now (xs.take 0) 0 = C := ⟨_, rfl⟩
  obtain ⟨s, hS⟩ : ∃ s, gr now (xs.take 0) = s := ⟨_, rfl⟩
  obtain ⟨D, hD⟩ : ∃ D, cl s (xs.drop 0) (xs.length - 0) = D := ⟨_, rfl⟩
  have hAl : A.length = xs.length := by rw [← hA, cl_len]
  have hCl : C.length = 0 := by rw [← hC, cl_len]
  have hDl : D.length = xs.length - 0 := by rw [← hD, cl_len]
  have hAr : risB ([now] ++ A) = true := by rw [← hA]; exact cl_rises now xs
  have hsplit : A = C ++ D := by rw [← hA, ← hC, ← hD, ← hS]; exact cl_parts now xs 0 (by omega)
  have ht : (xs.take 0).length = 0 := by rw [List.length_take]; omega
  have a1 := Lib.hid (show clV now xs = A by rw [clV_short (by omega)]; exact hA)
  have a2 := Lib.hid (show clE xs = 0 from clE_short (by omega))
  have a3 := Lib.hid (show clV now A = A by rw [clV_short (by omega)]; exact cl_of_rising now A hAr)
  have a4 := Lib.hid (show clE A = 0 from clE_short (by omega))
  have a5 := Lib.hid (show clV now (xs.take 0) = C by rw [clV_short (by omega), ht]; exact hC)
  have a6 := Lib.hid (show clE (xs.take 0) = 0 from clE_short (by omega))
  have a7 := Lib.hid (show clV s (xs.drop 0) = D by rw [clV_short (by rw [List.length_drop]; omega), List.length_drop]; exact hD)
  have a8 := Lib.hid (show clE (xs.drop 0) = 0 from clE_short (by rw [List.length_drop]; omega))
  have a9 := Lib.hid (show bkL now A = [] by rw [bkL_short (by omega)]; exact bk_of_rising now A hAr _ (Nat.le_refl _))
  have b1 := Lib.hid hris
  have b2 := Lib.hid hsplit
  have b3 := Lib.hid (show A = xs by rw [← hA]; exact cl_of_rising now xs hris)
  have hC0 : C = [] := List.eq_nil_of_length_eq_zero hCl
  have hs0 : now = s := (gr_zero now xs).symm.trans hS
  subst hC0 hs0
  have l1 : A.length ≤ 40 := by omega
  have l3 : D.length ≤ 40 := by omega
  have hAl' := Lib.hid hAl
  clear hA hC hS hD hAl hCl hDl hAr hsplit ht hris
  obtain ⟨ti, hin, hz0, hz1, hz2⟩ := info_parts info_u64
  go_enter Try.func7, Try.ntmps7
  go_wp2_with fail
  refine (clamps_is a1 a2 (by repeat (first | (with_reducible exact Hid.out (by with_reducible assumption)) | (with_reducible refine IsL.alloc ?_ _) | (with_reducible refine IsL.drew ?_) | (with_reducible refine IsL.drewN ?_ _) | (with_reducible exact IsL.none)))).mono ?_
  rintro e w1 ⟨v_a, rfl, hl, hb⟩
  have hB1 : Below w.heap.size w w1 := below_thru (by go_grown) hb
  have hs1 : w.heap.size ≤ w1.heap.size := hB1.size
  have L_l_1 : Hid (IsL w1 .u64 (.slice at0 xs.length cap) xs) := Lib.hid (IsL.below (by repeat (first | (with_reducible exact Hid.out (by with_reducible assumption)) | (with_reducible refine IsL.alloc ?_ _) | (with_reducible refine IsL.drew ?_) | (with_reducible refine IsL.drewN ?_ _) | (with_reducible exact IsL.none))) hb)
  clear hb L_l_0
  have L_a_1 := Lib.hid hl
  clear hl
  go_wp2_with fail
  refine (clamps_is a3 a4 (by repeat (first | (with_reducible exact Hid.out (by with_reducible assumption)) | (with_reducible refine IsL.alloc ?_ _) | (with_reducible refine IsL.drew ?_) | (with_reducible refine IsL.drewN ?_ _) | (with_reducible exact IsL.none)))).mono ?_
  rintro e w2 ⟨v_b, rfl, hl, hb⟩
  have hB2 : Below w.heap.size w w2 := below_thru (by go_grown) hb
  have hs2 : w.heap.size ≤ w2.heap.size := hB2.size
  have L_l_2 : Hid (IsL w2 .u64 (.slice at0 xs.length cap) xs) := Lib.hid (IsL.below (by repeat (first | (with_reducible exact Hid.out (by with_reducible assumption)) | (with_reducible refine IsL.alloc ?_ _) | (with_reducible refine IsL.drew ?_) | (with_reducible refine IsL.drewN ?_ _) | (with_reducible exact IsL.none))) hb)
  have L_a_2 : Hid (IsL w2 .u64 v_a A) := Lib.hid (IsL.below (by repeat (first | (with_reducible exact Hid.out (by with_reducible assumption)) | (with_reducible refine IsL.alloc ?_ _) | (with_reducible refine IsL.drew ?_) | (with_reducible refine IsL.drewN ?_ _) | (with_reducible exact IsL.none))) hb)
  clear hb hB1 hs1 L_l_1 L_a_1
  have L_b_2 := Lib.hid hl
  clear hl
  have L_m := Lib.hid (L_l_2.out.upto 0 (by omega))
  go_wp2_with fail
  refine (clamps_is a5 a6 L_m.out).mono ?_
  rintro e w3 ⟨v_c, rfl, hl, hb⟩
  have hB3 : Below w.heap.size w w3 := below_thru (by go_grown) hb
  have hs3 : w.heap.size ≤ w3.heap.size := hB3.size
  have L_l_3 : Hid (IsL w3 .u64 (.slice at0 xs.length cap) xs) := Lib.hid (IsL.below (by repeat (first | (with_reducible exact Hid.out (by with_reducible assumption)) | (with_reducible refine IsL.alloc ?_ _) | (with_reducible refine IsL.drew ?_) | (with_reducible refine IsL.drewN ?_ _) | (with_reducible exact IsL.none))) hb)
  have L_a_3 : Hid (IsL w3 .u64 v_a A) := Lib.hid (IsL.below (by repeat (first | (with_reducible exact Hid.out (by with_reducible assumption)) | (with_reducible refine IsL.alloc ?_ _) | (with_reducible refine IsL.drew ?_) | (with_reducible refine IsL.drewN ?_ _) | (with_reducible exact IsL.none))) hb)
  have L_b_3 : Hid (IsL w3 .u64 v_b A) := Lib.hid (IsL.below (by repeat (first | (with_reducible exact Hid.out (by with_reducible assumption)) | (with_reducible refine IsL.alloc ?_ _) | (with_reducible refine IsL.drew ?_) | (with_reducible refine IsL.drewN ?_ _) | (with_reducible exact IsL.none))) hb)
  clear hb hB2 hs2 L_l_2 L_a_2 L_b_2
  have L_c_3 := Lib.hid hl
  clear hl
  clear L_m
  obtain ⟨ac, cc, rfl, _⟩ := id L_c_3.out
  obtain ⟨_, hrc, hmc⟩ := L_c_3.out.room
  replace L_c_3 : Hid (IsL w3 .u64 (.slice ac 0 cc) []) := L_c_3
  have L_d := L_l_3
  have j6 : 0 ≤ 40 := by omega
  go_wp2_with fail
  refine (clamps_is a7 a8 L_d.out).mono ?_
  rintro e w4 ⟨v_d, rfl, hl, hb⟩
  have hB4 : Below w.heap.size w w4 := below_thru (by go_grown) hb
  have hs4 : w.heap.size ≤ w4.heap.size := hB4.size
  have L_l_4 : Hid (IsL w4 .u64 (.slice at0 xs.length cap) xs) := Lib.hid (IsL.below (by repeat (first | (with_reducible exact Hid.out (by with_reducible assumption)) | (with_reducible refine IsL.alloc ?_ _) | (with_reducible refine IsL.drew ?_) | (with_reducible refine IsL.drewN ?_ _) | (with_reducible exact IsL.none))) hb)
  have L_a_4 : Hid (IsL w4 .u64 v_a A) := Lib.hid (IsL.below (by repeat (first | (with_reducible exact Hid.out (by with_reducible assumption)) | (with_reducible refine IsL.alloc ?_ _) | (with_reducible refine IsL.drew ?_) | (with_reducible refine IsL.drewN ?_ _) | (with_reducible exact IsL.none))) hb)
  have L_b_4 : Hid (IsL w4 .u64 v_b A) := Lib.hid (IsL.below (by repeat (first | (with_reducible exact Hid.out (by with_reducible assumption)) | (with_reducible refine IsL.alloc ?_ _) | (with_reducible refine IsL.drew ?_) | (with_reducible refine IsL.drewN ?_ _) | (with_reducible exact IsL.none))) hb)
  have L_c_4 : Hid (IsL w4 .u64 (.slice ac 0 cc) []) := Lib.hid (IsL.below (by repeat (first | (with_reducible exact Hid.out (by with_reducible assumption)) | (with_reducible refine IsL.alloc ?_ _) | (with_reducible refine IsL.drew ?_) | (with_reducible refine IsL.drewN ?_ _) | (with_reducible exact IsL.none))) hb)
  clear hb hB3 hs3 L_l_3 L_a_3 L_b_3 L_c_3
  have L_d_4 := Lib.hid hl
  clear hl
  clear L_d
  go_wp2_with fail
  refine (same_tt (xs := A) (by repeat (first | (with_reducible exact Hid.out (by with_reducible assumption)) | (with_reducible refine IsL.alloc ?_ _) | (with_reducible refine IsL.drew ?_) | (with_reducible refine IsL.drewN ?_ _) | (with_reducible exact IsL.none))) (by repeat (first | (with_reducible exact Hid.out (by with_reducible assumption)) | (with_reducible refine IsL.alloc ?_ _) | (with_reducible refine IsL.drew ?_) | (with_reducible refine IsL.drewN ?_ _) | (with_reducible exact IsL.none)))).mono ?_
  rintro e w5 ⟨rfl, hb⟩
  have hB5 : Below w.heap.size w w5 := below_thru (by go_grown) hb
  have hs5 : w.heap.size ≤ w5.heap.size := hB5.size
  have L_l_5 : Hid (IsL w5 .u64 (.slice at0 xs.length cap) xs) := Lib.hid (IsL.below (by repeat (first | (with_reducible exact Hid.out (by with_reducible assumption)) | (with_reducible refine IsL.alloc ?_ _) | (with_reducible refine IsL.drew ?_) | (with_reducible refine IsL.drewN ?_ _) | (with_reducible exact IsL.none))) hb)
  have L_a_5 : Hid (IsL w5 .u64 v_a A) := Lib.hid (IsL.below (by repeat (first | (with_reducible exact Hid.out (by with_reducible assumption)) | (with_reducible refine IsL.alloc ?_ _) | (with_reducible refine IsL.drew ?_) | (with_reducible refine IsL.drewN ?_ _) | (with_reducible exact IsL.none))) hb)
  have L_b_5 : Hid (IsL w5 .u64 v_b A) := Lib.hid (IsL.below (by repeat (first | (with_reducible exact Hid.out (by with_reducible assumption)) | (with_reducible refine IsL.alloc ?_ _) | (with_reducible refine IsL.drew ?_) | (with_reducible refine IsL.drewN ?_ _) | (with_reducible exact IsL.none))) hb)
  have L_c_5 : Hid (IsL w5 .u64 (.slice ac 0 cc) []) := Lib.hid (IsL.below (by repeat (first | (with_reducible exact Hid.out (by with_reducible assumption)) | (with_reducible refine IsL.alloc ?_ _) | (with_reducible refine IsL.drew ?_) | (with_reducible refine IsL.drewN ?_ _) | (with_reducible exact IsL.none))) hb)
  have L_d_5 : Hid (IsL w5 .u64 v_d D) := Lib.hid (IsL.below (by repeat (first | (with_reducible exact Hid.out (by with_reducible assumption)) | (with_reducible refine IsL.alloc ?_ _) | (with_reducible refine IsL.drew ?_) | (with_reducible refine IsL.drewN ?_ _) | (with_reducible exact IsL.none))) hb)
  clear hb hB4 hs4 L_l_4 L_a_4 L_b_4 L_c_4 L_d_4
  go_wp2_with (first | (at_builtin; refine wpList_append_built rfl _ _ 22 rfl 26 ti (.int .u64 0) 8 .u64 Try.underlying22 hin hz0 hz1 hz2 rfl [] [] _ (.slice ac 0 cc) _ _ _ rfl rfl rfl rfl rfl rfl L_c_5.out (by unfold maxLen; simp <;> omega) (by simp <;> omega) ?_; intro v_m wm hown hbm) | (at_builtin; refine wpList_append_onto rfl _ _ 22 rfl w5.heap.size 26 ti (.int .u64 0) 8 .u64 Try.underlying22 hin hz0 hz1 hz2 rfl v_m ([] ++ []) D v_d rfl rfl hown (IsL.below L_d_5.out hbm) (by unfold maxLen; simp <;> omega) (by simp <;> omega) hbm.size ?_; intro v_n w6 hown2 hbn))
  have hb := hbm.trans hbn
  have L_n : Hid (IsL w6 .u64 v_n A) := Lib.hid (by rw [b2.out]; exact IsL.own hown2 rfl)
  clear hown hown2 hbm hbn
  have hB6 : Below w.heap.size w w6 := below_thru (by go_grown) hb
  have hs6 : w.heap.size ≤ w6.heap.size := hB6.size
  have L_l_6 : Hid (IsL w6 .u64 (.slice at0 xs.length cap) xs) := Lib.hid (IsL.below (by repeat (first | (with_reducible exact Hid.out (by with_reducible assumption)) | (with_reducible refine IsL.alloc ?_ _) | (with_reducible refine IsL.drew ?_) | (with_reducible refine IsL.drewN ?_ _) | (with_reducible exact IsL.none))) hb)
  have L_a_6 : Hid (IsL w6 .u64 v_a A) := Lib.hid (IsL.below (by repeat (first | (with_reducible exact Hid.out (by with_reducible assumption)) | (with_reducible refine IsL.alloc ?_ _) | (with_reducible refine IsL.drew ?_) | (with_reducible refine IsL.drewN ?_ _) | (with_reducible exact IsL.none))) hb)
  have L_b_6 : Hid (IsL w6 .u64 v_b A) := Lib.hid (IsL.below (by repeat (first | (with_reducible exact Hid.out (by with_reducible assumption)) | (with_reducible refine IsL.alloc ?_ _) | (with_reducible refine IsL.drew ?_) | (with_reducible refine IsL.drewN ?_ _) | (with_reducible exact IsL.none))) hb)
  have L_c_6 : Hid (IsL w6 .u64 (.slice ac 0 cc) []) := Lib.hid (IsL.below (by repeat (first | (with_reducible exact Hid.out (by with_reducible assumption)) | (with_reducible refine IsL.alloc ?_ _) | (with_reducible refine IsL.drew ?_) | (with_reducible refine IsL.drewN ?_ _) | (with_reducible exact IsL.none))) hb)
  have L_d_6 : Hid (IsL w6 .u64 v_d D) := Lib.hid (IsL.below (by repeat (first | (with_reducible exact Hid.out (by with_reducible assumption)) | (with_reducible refine IsL.alloc ?_ _) | (with_reducible refine IsL.drew ?_) | (with_reducible refine IsL.drewN ?_ _) | (with_reducible exact IsL.none))) hb)
  clear hb hB5 hs5 L_l_5 L_a_5 L_b_5 L_c_5 L_d_5
  have L_n_6 := L_n
  clear L_n
  go_wp2_with fail
  refine (same_tt (xs := A) (by repeat (first | (with_reducible exact Hid.out (by with_reducible assumption)) | (with_reducible refine IsL.alloc ?_ _) | (with_reducible refine IsL.drew ?_) | (with_reducible refine IsL.drewN ?_ _) | (with_reducible exact IsL.none))) (by repeat (first | (with_reducible exact Hid.out (by with_reducible assumption)) | (with_reducible refine IsL.alloc ?_ _) | (with_reducible refine IsL.drew ?_) | (with_reducible refine IsL.drewN ?_ _) | (with_reducible exact IsL.none)))).mono ?_
  rintro e w7 ⟨rfl, hb⟩
  have hB7 : Below w.heap.size w w7 := below_thru (by go_grown) hb
  have hs7 : w.heap.size ≤ w7.heap.size := hB7.size
  have L_l_7 : Hid (IsL w7 .u64 (.slice at0 xs.length cap) xs) := Lib.hid (IsL.below (by repeat (first | (with_reducible exact Hid.out (by with_reducible assumption)) | (with_reducible refine IsL.alloc ?_ _) | (with_reducible refine IsL.drew ?_) | (with_reducible refine IsL.drewN ?_ _) | (with_reducible exact IsL.none))) hb)
  have L_a_7 : Hid (IsL w7 .u64 v_a A) := Lib.hid (IsL.below (by repeat (first | (with_reducible exact Hid.out (by with_reducible assumption)) | (with_reducible refine IsL.alloc ?_ _) | (with_reducible refine IsL.drew ?_) | (with_reducible refine IsL.drewN ?_ _) | (with_reducible exact IsL.none))) hb)
  have L_b_7 : Hid (IsL w7 .u64 v_b A) := Lib.hid (IsL.below (by repeat (first | (with_reducible exact Hid.out (by with_reducible assumption)) | (with_reducible refine IsL.alloc ?_ _) | (with_reducible refine IsL.drew ?_) | (with_reducible refine IsL.drewN ?_ _) | (with_reducible exact IsL.none))) hb)
  have L_c_7 : Hid (IsL w7 .u64 (.slice ac 0 cc) []) := Lib.hid (IsL.below (by repeat (first | (with_reducible exact Hid.out (by with_reducible assumption)) | (with_reducible refine IsL.alloc ?_ _) | (with_reducible refine IsL.drew ?_) | (with_reducible refine IsL.drewN ?_ _) | (with_reducible exact IsL.none))) hb)
  have L_d_7 : Hid (IsL w7 .u64 v_d D) := Lib.hid (IsL.below (by repeat (first | (with_reducible exact Hid.out (by with_reducible assumption)) | (with_reducible refine IsL.alloc ?_ _) | (with_reducible refine IsL.drew ?_) | (with_reducible refine IsL.drewN ?_ _) | (with_reducible exact IsL.none))) hb)
  have L_n_7 : Hid (IsL w7 .u64 v_n A) := Lib.hid (IsL.below (by repeat (first | (with_reducible exact Hid.out (by with_reducible assumption)) | (with_reducible refine IsL.alloc ?_ _) | (with_reducible refine IsL.drew ?_) | (with_reducible refine IsL.drewN ?_ _) | (with_reducible exact IsL.none))) hb)
  clear hb hB6 hs6 L_l_6 L_a_6 L_b_6 L_c_6 L_d_6 L_n_6
  clear L_n_7
  clear L_d_7
  clear L_c_7
  clear L_b_7
  go_wp2_with fail
  refine (back_is a9 a4 (by repeat (first | (with_reducible exact Hid.out (by with_reducible assumption)) | (with_reducible refine IsL.alloc ?_ _) | (with_reducible refine IsL.drew ?_) | (with_reducible refine IsL.drewN ?_ _) | (with_reducible exact IsL.none)))).mono ?_
  rintro e w8 ⟨v_e, rfl, hl, hb⟩
  have hB8 : Below w.heap.size w w8 := below_thru (by go_grown) hb
  have hs8 : w.heap.size ≤ w8.heap.size := hB8.size
  have L_l_8 : Hid (IsL w8 .u64 (.slice at0 xs.length cap) xs) := Lib.hid (IsL.below (by repeat (first | (with_reducible exact Hid.out (by with_reducible assumption)) | (with_reducible refine IsL.alloc ?_ _) | (with_reducible refine IsL.drew ?_) | (with_reducible refine IsL.drewN ?_ _) | (with_reducible exact IsL.none))) hb)
  have L_a_8 : Hid (IsL w8 .u64 v_a A) := Lib.hid (IsL.below (by repeat (first | (with_reducible exact Hid.out (by with_reducible assumption)) | (with_reducible refine IsL.alloc ?_ _) | (with_reducible refine IsL.drew ?_) | (with_reducible refine IsL.drewN ?_ _) | (with_reducible exact IsL.none))) hb)
  clear hb hB7 hs7 L_l_7 L_a_7
  have L_e_8 := Lib.hid hl
  clear hl
  obtain ⟨ae, ce, rfl, _⟩ := id L_e_8.out
  clear L_e_8
  go_wp2_with (at_builtin; refine wpList_append_built rfl _ _ 22 rfl 26 ti (.int .u64 0) 8 .u64 Try.underlying22 hin hz0 hz1 hz2 rfl [now] xs _ (.slice at0 xs.length cap) _ _ _ rfl rfl rfl rfl rfl rfl L_l_8.out (by unfold maxLen; simp; omega) (by simp; omega) ?_; intro v_r w9 hown hb)
  have hB9 : Below w.heap.size w w9 := below_thru (by go_grown) hb
  have hs9 : w.heap.size ≤ w9.heap.size := hB9.size
  have L_l_9 : Hid (IsL w9 .u64 (.slice at0 xs.length cap) xs) := Lib.hid (IsL.below (by repeat (first | (with_reducible exact Hid.out (by with_reducible assumption)) | (with_reducible refine IsL.alloc ?_ _) | (with_reducible refine IsL.drew ?_) | (with_reducible refine IsL.drewN ?_ _) | (with_reducible exact IsL.none))) hb)
  have L_a_9 : Hid (IsL w9 .u64 v_a A) := Lib.hid (IsL.below (by repeat (first | (with_reducible exact Hid.out (by with_reducible assumption)) | (with_reducible refine IsL.alloc ?_ _) | (with_reducible refine IsL.drew ?_) | (with_reducible refine IsL.drewN ?_ _) | (with_reducible exact IsL.none))) hb)
  clear hb hB8 hs8 L_l_8 L_a_8
  have L_r_9 := Lib.hid (IsL.own hown rfl)
  clear hown
  go_wp2_with fail
  refine (rising_b b1 (by repeat (first | (with_reducible exact Hid.out (by with_reducible assumption)) | (with_reducible refine IsL.alloc ?_ _) | (with_reducible refine IsL.drew ?_) | (with_reducible refine IsL.drewN ?_ _) | (with_reducible exact IsL.none)))).mono ?_
  rintro e w10 ⟨rfl, hb⟩
  have hB10 : Below w.heap.size w w10 := below_thru (by go_grown) hb
  have hs10 : w.heap.size ≤ w10.heap.size := hB10.size
  have L_l_10 : Hid (IsL w10 .u64 (.slice at0 xs.length cap) xs) := Lib.hid (IsL.below (by repeat (first | (with_reducible exact Hid.out (by with_reducible assumption)) | (with_reducible refine IsL.alloc ?_ _) | (with_reducible refine IsL.drew ?_) | (with_reducible refine IsL.drewN ?_ _) | (with_reducible exact IsL.none))) hb)
  have L_a_10 : Hid (IsL w10 .u64 v_a A) := Lib.hid (IsL.below (by repeat (first | (with_reducible exact Hid.out (by with_reducible assumption)) | (with_reducible refine IsL.alloc ?_ _) | (with_reducible refine IsL.drew ?_) | (with_reducible refine IsL.drewN ?_ _) | (with_reducible exact IsL.none))) hb)
  have L_r_10 : Hid (IsL w10 .u64 v_r ([now] ++ xs)) := Lib.hid (IsL.below (by repeat (first | (with_reducible exact Hid.out (by with_reducible assumption)) | (with_reducible refine IsL.alloc ?_ _) | (with_reducible refine IsL.drew ?_) | (with_reducible refine IsL.drewN ?_ _) | (with_reducible exact IsL.none))) hb)
  clear hb hB9 hs9 L_l_9 L_a_9 L_r_9
  clear L_r_10
  rw [b3.out] at L_a_10
  go_wp2_with fail
  refine (same_tt (xs := xs) (by repeat (first | (with_reducible exact Hid.out (by with_reducible assumption)) | (with_reducible refine IsL.alloc ?_ _) | (with_reducible refine IsL.drew ?_) | (with_reducible refine IsL.drewN ?_ _) | (with_reducible exact IsL.none))) (by repeat (first | (with_reducible exact Hid.out (by with_reducible assumption)) | (with_reducible refine IsL.alloc ?_ _) | (with_reducible refine IsL.drew ?_) | (with_reducible refine IsL.drewN ?_ _) | (with_reducible exact IsL.none)))).mono ?_
  rintro e w11 ⟨rfl, hb⟩
  have hB11 : Below w.heap.size w w11 := below_thru (by go_grown) hb
  have hs11 : w.heap.size ≤ w11.heap.size := hB11.size
  have L_l_11 : Hid (IsL w11 .u64 (.slice at0 xs.length cap) xs) := Lib.hid (IsL.below (by repeat (first | (with_reducible exact Hid.out (by with_reducible assumption)) | (with_reducible refine IsL.alloc ?_ _) | (with_reducible refine IsL.drew ?_) | (with_reducible refine IsL.drewN ?_ _) | (with_reducible exact IsL.none))) hb)
  have L_a_11 : Hid (IsL w11 .u64 v_a xs) := Lib.hid (IsL.below (by repeat (first | (with_reducible exact Hid.out (by with_reducible assumption)) | (with_reducible refine IsL.alloc ?_ _) | (with_reducible refine IsL.drew ?_) | (with_reducible refine IsL.drewN ?_ _) | (with_reducible exact IsL.none))) hb)
  clear hb hB10 hs10 L_l_10 L_a_10
  go_wp2_with fail
  refine (alive02_any _).mono ?_
  rintro e w12 ⟨rfl, hb⟩
  have hB12 : Below w.heap.size w w12 := below_thru (by go_grown) hb
  have hs12 : w.heap.size ≤ w12.heap.size := hB12.size
  have L_l_12 : Hid (IsL w12 .u64 (.slice at0 xs.length cap) xs) := Lib.hid (IsL.below (by repeat (first | (with_reducible exact Hid.out (by with_reducible assumption)) | (with_reducible refine IsL.alloc ?_ _) | (with_reducible refine IsL.drew ?_) | (with_reducible refine IsL.drewN ?_ _) | (with_reducible exact IsL.none))) hb)
  have L_a_12 : Hid (IsL w12 .u64 v_a xs) := Lib.hid (IsL.below (by repeat (first | (with_reducible exact Hid.out (by with_reducible assumption)) | (with_reducible refine IsL.alloc ?_ _) | (with_reducible refine IsL.drew ?_) | (with_reducible refine IsL.drewN ?_ _) | (with_reducible exact IsL.none))) hb)
  clear hb hB11 hs11 L_l_11 L_a_11
  go_wp2_with fail
  go_returns
  exact ⟨rfl, hB12⟩

set_option maxRecDepth 100000 in
set_option maxHeartbeats 3200000 in
theorem parts_zf (now : Int) (xs : List Int) (at0 : Option Addr) (cap : Nat) (w : World) (hi : IsL w .u64 (.slice at0 xs.length cap) xs) (hl : xs.length ≤ 40) (hris : risB ([now] ++ xs) = false) :
    Calls Try.prog 7 #[.int .u64 now, .slice at0 xs.length cap, .int .i64 0] w fun e w' => e = .returned (.bool true) ∧ Below w.heap.size w w' := by
  obtain ⟨_, hr, hm⟩ := hi.room
  skip
  have L_l_0 := Lib.hid hi
  clear hi
  have d1 : decide ((40 : Int) < (xs.length : Int)) = false := decide_eq_false (by omega)
  have d3 : decide ((xs.length : Int) < 0) = false := decide_eq_false (by omega)
  have i1 : (0 : Int) ≤ (cap : Int) := by omega
  have i2 : (0 : Int) ≤ (xs.length : Int) := by omega
  obtain ⟨A, hA⟩ : ∃ A, cl now xs xs.length = A := ⟨_, rfl⟩
  obtain ⟨C, hC⟩ : ∃ C, cl now (xs.take 0) 0 = C := ⟨_, rfl⟩
  obtain ⟨s, hS⟩ : ∃ s, gr now (xs.take 0) = s := ⟨_, rfl⟩
  obtain ⟨D, hD⟩ : ∃ D, cl s (xs.drop 0) (xs.length - 0) = D := ⟨_, rfl⟩
  have hAl : A.length = xs.length := by rw [← hA, cl_len]
  have hCl : C.length = 0 := by rw [← hC, cl_len]
  have hDl : D.length = xs.length - 0 := by rw [← hD, cl_len]
  have hAr : risB ([now] ++ A) = true := by rw [← hA]; exact cl_rises now xs
  have hsplit : A = C ++ D := by rw [← hA, ← hC, ← hD, ← hS]; exact cl_parts now xs 0 (by omega)
  have ht : (xs.take 0).length = 0 := by rw [List.length_take]; omega
  have a1 := Lib.hid (show clV now xs = A by rw [clV_short (by omega)]; exact hA)
  have a2 := Lib.hid (show clE xs = 0 from clE_short (by omega))
  have a3 := Lib.hid (show clV now A = A by rw [clV_short (by omega)]; exact cl_of_rising now A hAr)
  have a4 := Lib.hid (show clE A = 0 from clE_short (by omega))
  have a5 := Lib.hid (show clV now (xs.take 0) = C by rw [clV_short (by omega), ht]; exact hC)
  have a6 := Lib.hid (show clE (xs.take 0) = 0 from clE_short (by omega))
  have a7 := Lib.hid (show clV s (xs.drop 0) = D by rw [clV_short (by rw [List.length_drop]; omega), List.length_drop]; exact hD)
  have a8 := Lib.hid (show clE (xs.drop 0) = 0 from clE_short (by rw [List.length_drop]; omega))
  have a9 := Lib.hid (show bkL now A = [] by rw [bkL_short (by omega)]; exact bk_of_rising now A hAr _ (Nat.le_refl _))
  have b1 := Lib.hid hris
  have b2 := Lib.hid hsplit
  have hC0 : C = [] := List.eq_nil_of_length_eq_zero hCl
  have hs0 : now = s := (gr_zero now xs).symm.trans hS
  subst hC0 hs0
  have l1 : A.length ≤ 40 := by omega
  have l3 : D.length ≤ 40 := by omega
  have hAl' := Lib.hid hAl
  clear hA hC hS hD hAl hCl hDl hAr hsplit ht hris
  obtain ⟨ti, hin, hz0, hz1, hz2⟩ := info_parts info_u64
  go_enter Try.func7, Try.ntmps7
  go_wp2_with fail
  refine (clamps_is a1 a2 (by repeat (first | (with_reducible exact Hid.out (by with_reducible assumption)) | (with_reducible refine IsL.alloc ?_ _) | (with_reducible refine IsL.drew ?_) | (with_reducible refine IsL.drewN ?_ _) | (with_reducible exact IsL.none)))).mono ?_
  rintro e w1 ⟨v_a, rfl, hl, hb⟩
  have hB1 : Below w.heap.size w w1 := below_thru (by go_grown) hb
  have hs1 : w.heap.size ≤ w1.heap.size := hB1.size
  have L_l_1 : Hid (IsL w1 .u64 (.slice at0 xs.length cap) xs) := Lib.hid (IsL.below (by repeat (first | (with_reducible exact Hid.out (by with_reducible assumption)) | (with_reducible refine IsL.alloc ?_ _) | (with_reducible refine IsL.drew ?_) | (with_reducible refine IsL.drewN ?_ _) | (with_reducible exact IsL.none))) hb)
  clear hb L_l_0
  have L_a_1 := Lib.hid hl
  clear hl
  go_wp2_with fail
  refine (clamps_is a3 a4 (by repeat (first | (with_reducible exact Hid.out (by with_reducible assumption)) | (with_reducible refine IsL.alloc ?_ _) | (with_reducible refine IsL.drew ?_) | (with_reducible refine IsL.drewN ?_ _) | (with_reducible exact IsL.none)))).mono ?_
  rintro e w2 ⟨v_b, rfl, hl, hb⟩
  have hB2 : Below w.heap.size w w2 := below_thru (by go_grown) hb
  have hs2 : w.heap.size ≤ w2.heap.size := hB2.size
  have L_l_2 : Hid (IsL w2 .u64 (.slice at0 xs.length cap) xs) := Lib.hid (IsL.below (by repeat (first | (with_reducible exact Hid.out (by with_reducible assumption)) | (with_reducible refine IsL.alloc ?_ _) | (with_reducible refine IsL.drew ?_) | (with_reducible refine IsL.drewN ?_ _) | (with_reducible exact IsL.none))) hb)
  have L_a_2 : Hid (IsL w2 .u64 v_a A) := Lib.hid (IsL.below (by repeat (first | (with_reducible exact Hid.out (by with_reducible assumption)) | (with_reducible refine IsL.alloc ?_ _) | (with_reducible refine IsL.drew ?_) | (with_reducible refine IsL.drewN ?_ _) | (with_reducible exact IsL.none))) hb)
  clear hb hB1 hs1 L_l_1 L_a_1
  have L_b_2 := Lib.hid hl
  clear hl
  have L_m := Lib.hid (L_l_2.out.upto 0 (by omega))
  go_wp2_with fail
  refine (clamps_is a5 a6 L_m.out).mono ?_
  rintro e w3 ⟨v_c, rfl, hl, hb⟩
  have hB3 : Below w.heap.size w w3 := below_thru (by go_grown) hb
  have hs3 : w.heap.size ≤ w3.heap.size := hB3.size
  have L_l_3 : Hid (IsL w3 .u64 (.slice at0 xs.length cap) xs) := Lib.hid (IsL.below (by repeat (first | (with_reducible exact Hid.out (by with_reducible assumption)) | (with_reducible refine IsL.alloc ?_ _) | (with_reducible refine IsL.drew ?_) | (with_reducible refine IsL.drewN ?_ _) | (with_reducible exact IsL.none))) hb)
  have L_a_3 : Hid (IsL w3 .u64 v_a A) := Lib.hid (IsL.below (by repeat (first | (with_reducible exact Hid.out (by with_reducible assumption)) | (with_reducible refine IsL.alloc ?_ _) | (with_reducible refine IsL.drew ?_) | (with_reducible refine IsL.drewN ?_ _) | (with_reducible exact IsL.none))) hb)
  have L_b_3 : Hid (IsL w3 .u64 v_b A) := Lib.hid (IsL.below (by repeat (first | (with_reducible exact Hid.out (by with_reducible assumption)) | (with_reducible refine IsL.alloc ?_ _) | (with_reducible refine IsL.drew ?_) | (with_reducible refine IsL.drewN ?_ _) | (with_reducible exact IsL.none))) hb)
  clear hb hB2 hs2 L_l_2 L_a_2 L_b_2
  have L_c_3 := Lib.hid hl
  clear hl
  clear L_m
  obtain ⟨ac, cc, rfl, _⟩ := id L_c_3.out
  obtain ⟨_, hrc, hmc⟩ := L_c_3.out.room
  replace L_c_3 : Hid (IsL w3 .u64 (.slice ac 0 cc) []) := L_c_3
  have L_d := L_l_3
  have j6 : 0 ≤ 40 := by omega
  go_wp2_with fail
  refine (clamps_is a7 a8 L_d.out).mono ?_
  rintro e w4 ⟨v_d, rfl, hl, hb⟩
  have hB4 : Below w.heap.size w w4 := below_thru (by go_grown) hb
  have hs4 : w.heap.size ≤ w4.heap.size := hB4.size
  have L_l_4 : Hid (IsL w4 .u64 (.slice at0 xs.length cap) xs) := Lib.hid (IsL.below (by repeat (first | (with_reducible exact Hid.out (by with_reducible assumption)) | (with_reducible refine IsL.alloc ?_ _) | (with_reducible refine IsL.drew ?_) | (with_reducible refine IsL.drewN ?_ _) | (with_reducible exact IsL.none))) hb)
  have L_a_4 : Hid (IsL w4 .u64 v_a A) := Lib.hid (IsL.below (by repeat (first | (with_reducible exact Hid.out (by with_reducible assumption)) | (with_reducible refine IsL.alloc ?_ _) | (with_reducible refine IsL.drew ?_) | (with_reducible refine IsL.drewN ?_ _) | (with_reducible exact IsL.none))) hb)
  have L_b_4 : Hid (IsL w4 .u64 v_b A) := Lib.hid (IsL.below (by repeat (first | (with_reducible exact Hid.out (by with_reducible assumption)) | (with_reducible refine IsL.alloc ?_ _) | (with_reducible refine IsL.drew ?_) | (with_reducible refine IsL.drewN ?_ _) | (with_reducible exact IsL.none))) hb)
  have L_c_4 : Hid (IsL w4 .u64 (.slice ac 0 cc) []) := Lib.hid (IsL.below (by repeat (first | (with_reducible exact Hid.out (by with_reducible assumption)) | (with_reducible refine IsL.alloc ?_ _) | (with_reducible refine IsL.drew ?_) | (with_reducible refine IsL.drewN ?_ _) | (with_reducible exact IsL.none))) hb)
  clear hb hB3 hs3 L_l_3 L_a_3 L_b_3 L_c_3
  have L_d_4 := Lib.hid hl
  clear hl
  clear L_d
  go_wp2_with fail
  refine (same_tt (xs := A) (by repeat (first | (with_reducible exact Hid.out (by with_reducible assumption)) | (with_reducible refine IsL.alloc ?_ _) | (with_reducible refine IsL.drew ?_) | (with_reducible refine IsL.drewN ?_ _) | (with_reducible exact IsL.none))) (by repeat (first | (with_reducible exact Hid.out (by with_reducible assumption)) | (with_reducible refine IsL.alloc ?_ _) | (with_reducible refine IsL.drew ?_) | (with_reducible refine IsL.drewN ?_ _) | (with_reducible exact IsL.none)))).mono ?_
  rintro e w5 ⟨rfl, hb⟩
  have hB5 : Below w.heap.size w w5 := below_thru (by go_grown) hb
  have hs5 : w.heap.size ≤ w5.heap.size := hB5.size
  have L_l_5 : Hid (IsL w5 .u64 (.slice at0 xs.length cap) xs) := Lib.hid (IsL.below (by repeat (first | (with_reducible exact Hid.out (by with_reducible assumption)) | (with_reducible refine IsL.alloc ?_ _) | (with_reducible refine IsL.drew ?_) | (with_reducible refine IsL.drewN ?_ _) | (with_reducible exact IsL.none))) hb)
  have L_a_5 : Hid (IsL w5 .u64 v_a A) := Lib.hid (IsL.below (by repeat (first | (with_reducible exact Hid.out (by with_reducible assumption)) | (with_reducible refine IsL.alloc ?_ _) | (with_reducible refine IsL.drew ?_) | (with_reducible refine IsL.drewN ?_ _) | (with_reducible exact IsL.none))) hb)
  have L_b_5 : Hid (IsL w5 .u64 v_b A) := Lib.hid (IsL.below (by repeat (first | (with_reducible exact Hid.out (by with_reducible assumption)) | (with_reducible refine IsL.alloc ?_ _) | (with_reducible refine IsL.drew ?_) | (with_reducible refine IsL.drewN ?_ _) | (with_reducible exact IsL.none))) hb)
  have L_c_5 : Hid (IsL w5 .u64 (.slice ac 0 cc) []) := Lib.hid (IsL.below (by repeat (first | (with_reducible exact Hid.out (by with_reducible assumption)) | (with_reducible refine IsL.alloc ?_ _) | (with_reducible refine IsL.drew ?_) | (with_reducible refine IsL.drewN ?_ _) | (with_reducible exact IsL.none))) hb)
  have L_d_5 : Hid (IsL w5 .u64 v_d D) := Lib.hid (IsL.below (by repeat (first | (with_reducible exact Hid.out (by with_reducible assumption)) | (with_reducible refine IsL.alloc ?_ _) | (with_reducible refine IsL.drew ?_) | (with_reducible refine IsL.drewN ?_ _) | (with_reducible exact IsL.none))) hb)
  clear hb hB4 hs4 L_l_4 L_a_4 L_b_4 L_c_4 L_d_4
  go_wp2_with (first | (at_builtin; refine wpList_append_built rfl _ _ 22 rfl 26 ti (.int .u64 0) 8 .u64 Try.underlying22 hin hz0 hz1 hz2 rfl [] [] _ (.slice ac 0 cc) _ _ _ rfl rfl rfl rfl rfl rfl L_c_5.out (by unfold maxLen; simp <;> omega) (by simp <;> omega) ?_; intro v_m wm hown hbm) | (at_builtin; refine wpList_append_onto rfl _ _ 22 rfl w5.heap.size 26 ti (.int .u64 0) 8 .u64 Try.underlying22 hin hz0 hz1 hz2 rfl v_m ([] ++ []) D v_d rfl rfl hown (IsL.below L_d_5.out hbm) (by unfold maxLen; simp <;> omega) (by simp <;> omega) hbm.size ?_; intro v_n w6 hown2 hbn))
  have hb := hbm.trans hbn
  have L_n : Hid (IsL w6 .u64 v_n A) := Lib.hid (by rw [b2.out]; exact IsL.own hown2 rfl)
  clear hown hown2 hbm hbn
  have hB6 : Below w.heap.size w w6 := below_thru (by go_grown) hb
  have hs6 : w.heap.size ≤ w6.heap.size := hB6.size
  have L_l_6 : Hid (IsL w6 .u64 (.slice at0 xs.length cap) xs) := Lib.hid (IsL.below (by repeat (first | (with_reducible exact Hid.out (by with_reducible assumption)) | (with_reducible refine IsL.alloc ?_ _) | (with_reducible refine IsL.drew ?_) | (with_reducible refine IsL.drewN ?_ _) | (with_reducible exact IsL.none))) hb)
  have L_a_6 : Hid (IsL w6 .u64 v_a A) := Lib.hid (IsL.below (by repeat (first | (with_reducible exact Hid.out (by with_reducible assumption)) | (with_reducible refine IsL.alloc ?_ _) | (with_reducible refine IsL.drew ?_) | (with_reducible refine IsL.drewN ?_ _) | (with_reducible exact IsL.none))) hb)
  have L_b_6 : Hid (IsL w6 .u64 v_b A) := Lib.hid (IsL.below (by repeat (first | (with_reducible exact Hid.out (by with_reducible assumption)) | (with_reducible refine IsL.alloc ?_ _) | (with_reducible refine IsL.drew ?_) | (with_reducible refine IsL.drewN ?_ _) | (with_reducible exact IsL.none))) hb)
  have L_c_6 : Hid (IsL w6 .u64 (.slice ac 0 cc) []) := Lib.hid (IsL.below (by repeat (first | (with_reducible exact Hid.out (by with_reducible assumption)) | (with_reducible refine IsL.alloc ?_ _) | (with_reducible refine IsL.drew ?_) | (with_reducible refine IsL.drewN ?_ _) | (with_reducible exact IsL.none))) hb)
  have L_d_6 : Hid (IsL w6 .u64 v_d D) := Lib.hid (IsL.below (by repeat (first | (with_reducible exact Hid.out (by with_reducible assumption)) | (with_reducible refine IsL.alloc ?_ _) | (with_reducible refine IsL.drew ?_) | (with_reducible refine IsL.drewN ?_ _) | (with_reducible exact IsL.none))) hb)
  clear hb hB5 hs5 L_l_5 L_a_5 L_b_5 L_c_5 L_d_5
  have L_n_6 := L_n
  clear L_n
  go_wp2_with fail
  refine (same_tt (xs := A) (by repeat (first | (with_reducible exact Hid.out (by with_reducible assumption)) | (with_reducible refine IsL.alloc ?_ _) | (with_reducible refine IsL.drew ?_) | (with_reducible refine IsL.drewN ?_ _) | (with_reducible exact IsL.none))) (by repeat (first | (with_reducible exact Hid.out (by with_reducible assumption)) | (with_reducible refine IsL.alloc ?_ _) | (with_reducible refine IsL.drew ?_) | (with_reducible refine IsL.drewN ?_ _) | (with_reducible exact IsL.none)))).mono ?_
  rintro e w7 ⟨rfl, hb⟩
  have hB7 : Below w.heap.size w w7 := below_thru (by go_grown) hb
  have hs7 : w.heap.size ≤ w7.heap.size := hB7.size
  have L_l_7 : Hid (IsL w7 .u64 (.slice at0 xs.length cap) xs) := Lib.hid (IsL.below (by repeat (first | (with_reducible exact Hid.out (by with_reducible assumption)) | (with_reducible refine IsL.alloc ?_ _) | (with_reducible refine IsL.drew ?_) | (with_reducible refine IsL.drewN ?_ _) | (with_reducible exact IsL.none))) hb)
  have L_a_7 : Hid (IsL w7 .u64 v_a A) := Lib.hid (IsL.below (by repeat (first | (with_reducible exact Hid.out (by with_reducible assumption)) | (with_reducible refine IsL.alloc ?_ _) | (with_reducible refine IsL.drew ?_) | (with_reducible refine IsL.drewN ?_ _) | (with_reducible exact IsL.none))) hb)
  have L_b_7 : Hid (IsL w7 .u64 v_b A) := Lib.hid (IsL.below (by repeat (first | (with_reducible exact Hid.out (by with_reducible assumption)) | (with_reducible refine IsL.alloc ?_ _) | (with_reducible refine IsL.drew ?_) | (with_reducible refine IsL.drewN ?_ _) | (with_reducible exact IsL.none))) hb)
  have L_c_7 : Hid (IsL w7 .u64 (.slice ac 0 cc) []) := Lib.hid (IsL.below (by repeat (first | (with_reducible exact Hid.out (by with_reducible assumption)) | (with_reducible refine IsL.alloc ?_ _) | (with_reducible refine IsL.drew ?_) | (with_reducible refine IsL.drewN ?_ _) | (with_reducible exact IsL.none))) hb)
  have L_d_7 : Hid (IsL w7 .u64 v_d D) := Lib.hid (IsL.below (by repeat (first | (with_reducible exact Hid.out (by with_reducible assumption)) | (with_reducible refine IsL.alloc ?_ _) | (with_reducible refine IsL.drew ?_) | (with_reducible refine IsL.drewN ?_ _) | (with_reducible exact IsL.none))) hb)
  have L_n_7 : Hid (IsL w7 .u64 v_n A) := Lib.hid (IsL.below (by repeat (first | (with_reducible exact Hid.out (by with_reducible assumption)) | (with_reducible refine IsL.alloc ?_ _) | (with_reducible refine IsL.drew ?_) | (with_reducible refine IsL.drewN ?_ _) | (with_reducible exact IsL.none))) hb)
  clear hb hB6 hs6 L_l_6 L_a_6 L_b_6 L_c_6 L_d_6 L_n_6
  clear L_n_7
  clear L_d_7
  clear L_c_7
  clear L_b_7
  go_wp2_with fail
  refine (back_is a9 a4 (by repeat (first | (with_reducible exact Hid.out (by with_reducible assumption)) | (with_reducible refine IsL.alloc ?_ _) | (with_reducible refine IsL.drew ?_) | (with_reducible refine IsL.drewN ?_ _) | (with_reducible exact IsL.none)))).mono ?_
  rintro e w8 ⟨v_e, rfl, hl, hb⟩
  have hB8 : Below w.heap.size w w8 := below_thru (by go_grown) hb
  have hs8 : w.heap.size ≤ w8.heap.size := hB8.size
  have L_l_8 : Hid (IsL w8 .u64 (.slice at0 xs.length cap) xs) := Lib.hid (IsL.below (by repeat (first | (with_reducible exact Hid.out (by with_reducible assumption)) | (with_reducible refine IsL.alloc ?_ _) | (with_reducible refine IsL.drew ?_) | (with_reducible refine IsL.drewN ?_ _) | (with_reducible exact IsL.none))) hb)
  have L_a_8 : Hid (IsL w8 .u64 v_a A) := Lib.hid (IsL.below (by repeat (first | (with_reducible exact Hid.out (by with_reducible assumption)) | (with_reducible refine IsL.alloc ?_ _) | (with_reducible refine IsL.drew ?_) | (with_reducible refine IsL.drewN ?_ _) | (with_reducible exact IsL.none))) hb)
  clear hb hB7 hs7 L_l_7 L_a_7
  have L_e_8 := Lib.hid hl
  clear hl
  obtain ⟨ae, ce, rfl, _⟩ := id L_e_8.out
  clear L_e_8
  go_wp2_with (at_builtin; refine wpList_append_built rfl _ _ 22 rfl 26 ti (.int .u64 0) 8 .u64 Try.underlying22 hin hz0 hz1 hz2 rfl [now] xs _ (.slice at0 xs.length cap) _ _ _ rfl rfl rfl rfl rfl rfl L_l_8.out (by unfold maxLen; simp; omega) (by simp; omega) ?_; intro v_r w9 hown hb)
  have hB9 : Below w.heap.size w w9 := below_thru (by go_grown) hb
  have hs9 : w.heap.size ≤ w9.heap.size := hB9.size
  have L_l_9 : Hid (IsL w9 .u64 (.slice at0 xs.length cap) xs) := Lib.hid (IsL.below (by repeat (first | (with_reducible exact Hid.out (by with_reducible assumption)) | (with_reducible refine IsL.alloc ?_ _) | (with_reducible refine IsL.drew ?_) | (with_reducible refine IsL.drewN ?_ _) | (with_reducible exact IsL.none))) hb)
  have L_a_9 : Hid (IsL w9 .u64 v_a A) := Lib.hid (IsL.below (by repeat (first | (with_reducible exact Hid.out (by with_reducible assumption)) | (with_reducible refine IsL.alloc ?_ _) | (with_reducible refine IsL.drew ?_) | (with_reducible refine IsL.drewN ?_ _) | (with_reducible exact IsL.none))) hb)
  clear hb hB8 hs8 L_l_8 L_a_8
  have L_r_9 := Lib.hid (IsL.own hown rfl)
  clear hown
  go_wp2_with fail
  refine (rising_b b1 (by repeat (first | (with_reducible exact Hid.out (by with_reducible assumption)) | (with_reducible refine IsL.alloc ?_ _) | (with_reducible refine IsL.drew ?_) | (with_reducible refine IsL.drewN ?_ _) | (with_reducible exact IsL.none)))).mono ?_
  rintro e w10 ⟨rfl, hb⟩
  have hB10 : Below w.heap.size w w10 := below_thru (by go_grown) hb
  have hs10 : w.heap.size ≤ w10.heap.size := hB10.size
  have L_l_10 : Hid (IsL w10 .u64 (.slice at0 xs.length cap) xs) := Lib.hid (IsL.below (by repeat (first | (with_reducible exact Hid.out (by with_reducible assumption)) | (with_reducible refine IsL.alloc ?_ _) | (with_reducible refine IsL.drew ?_) | (with_reducible refine IsL.drewN ?_ _) | (with_reducible exact IsL.none))) hb)
  have L_a_10 : Hid (IsL w10 .u64 v_a A) := Lib.hid (IsL.below (by repeat (first | (with_reducible exact Hid.out (by with_reducible assumption)) | (with_reducible refine IsL.alloc ?_ _) | (with_reducible refine IsL.drew ?_) | (with_reducible refine IsL.drewN ?_ _) | (with_reducible exact IsL.none))) hb)
  have L_r_10 : Hid (IsL w10 .u64 v_r ([now] ++ xs)) := Lib.hid (IsL.below (by repeat (first | (with_reducible exact Hid.out (by with_reducible assumption)) | (with_reducible refine IsL.alloc ?_ _) | (with_reducible refine IsL.drew ?_) | (with_reducible refine IsL.drewN ?_ _) | (with_reducible exact IsL.none))) hb)
  clear hb hB9 hs9 L_l_9 L_a_9 L_r_9
  clear L_r_10
  go_wp2_with fail
  refine (alive02_any _).mono ?_
  rintro e w11 ⟨rfl, hb⟩
  have hB11 : Below w.heap.size w w11 := below_thru (by go_grown) hb
  have hs11 : w.heap.size ≤ w11.heap.size := hB11.size
  have L_l_11 : Hid (IsL w11 .u64 (.slice at0 xs.length cap) xs) := Lib.hid (IsL.below (by repeat (first | (with_reducible exact Hid.out (by with_reducible assumption)) | (with_reducible refine IsL.alloc ?_ _) | (with_reducible refine IsL.drew ?_) | (with_reducible refine IsL.drewN ?_ _) | (with_reducible exact IsL.none))) hb)
  have L_a_11 : Hid (IsL w11 .u64 v_a A) := Lib.hid (IsL.below (by repeat (first | (with_reducible exact Hid.out (by with_reducible assumption)) | (with_reducible refine IsL.alloc ?_ _) | (with_reducible refine IsL.drew ?_) | (with_reducible refine IsL.drewN ?_ _) | (with_reducible exact IsL.none))) hb)
  clear hb hB10 hs10 L_l_10 L_a_10
  go_wp2_with fail
  go_returns
  exact ⟨rfl, hB11⟩

set_option maxRecDepth 100000 in
set_option maxHeartbeats 3200000 in
theorem parts_pr (now : Int) (xs : List Int) (at0 : Option Addr) (cap : Nat) (w : World) (hi : IsL w .u64 (.slice at0 xs.length cap) xs) (k : Nat) (hk : k + 1 ≤ xs.length) (hcap : ¬ cap = k + 1) (hl : xs.length ≤ 40) (hris : risB ([now] ++ xs) = true) :
    Calls Try.prog 7 #[.int .u64 now, .slice at0 xs.length cap, .int .i64 ((k + 1 : Nat) : Int)] w fun e w' => e = .returned (.bool true) ∧ Below w.heap.size w w' := by
  obtain ⟨_, hr, hm⟩ := hi.room
  obtain ⟨bz, oz, hz, _⟩ := hi.get 0 (by omega)
  subst hz
  have L_l_0 := Lib.hid hi
  clear hi
  have d1 : decide ((40 : Int) < (xs.length : Int)) = false := decide_eq_false (by omega)
  have d2 : decide (((k + 1 : Nat) : Int) < 0) = false := decide_eq_false (by omega)
  have d2' : decide ((k : Int) + 1 < 0) = false := decide_eq_false (by omega)
  have d3 : decide ((xs.length : Int) < ((k + 1 : Nat) : Int)) = false := decide_eq_false (by omega)
  have d3' : decide ((xs.length : Int) < (k : Int) + 1) = false := decide_eq_false (by omega)
  have i0 : (0 : Int) ≤ (k : Int) + 1 := by omega
  have i1 : (k : Int) + 1 ≤ (cap : Int) := by omega
  have i2 : (k : Int) + 1 ≤ (xs.length : Int) := by omega
  have i3 : ((k : Int) + 1).toNat = k + 1 := by omega
  obtain ⟨A, hA⟩ : ∃ A, cl now xs xs.length = A := ⟨_, rfl⟩
  obtain ⟨C, hC⟩ : ∃ C, cl now (xs.take (k + 1)) (k + 1) = C := ⟨_, rfl⟩
  obtain ⟨s, hS⟩ : ∃ s, gr now (xs.take (k + 1)) = s := ⟨_, rfl⟩
  obtain ⟨D, hD⟩ : ∃ D, cl s (xs.drop (k + 1)) (xs.length - (k + 1)) = D := ⟨_, rfl⟩
  have hAl : A.length = xs.length := by rw [← hA, cl_len]
  have hCl : C.length = (k + 1) := by rw [← hC, cl_len]
  have hDl : D.length = xs.length - (k + 1) := by rw [← hD, cl_len]
  have hAr : risB ([now] ++ A) = true := by rw [← hA]; exact cl_rises now xs
  have hsplit : A = C ++ D := by rw [← hA, ← hC, ← hD, ← hS]; exact cl_parts now xs (k + 1) (by omega)
  have ht : (xs.take (k + 1)).length = (k + 1) := by rw [List.length_take]; omega
  have a1 := Lib.hid (show clV now xs = A by rw [clV_short (by omega)]; exact hA)
  have a2 := Lib.hid (show clE xs = 0 from clE_short (by omega))
  have a3 := Lib.hid (show clV now A = A by rw [clV_short (by omega)]; exact cl_of_rising now A hAr)
  have a4 := Lib.hid (show clE A = 0 from clE_short (by omega))
  have a5 := Lib.hid (show clV now (xs.take (k + 1)) = C by rw [clV_short (by omega), ht]; exact hC)
  have a6 := Lib.hid (show clE (xs.take (k + 1)) = 0 from clE_short (by omega))
  have a7 := Lib.hid (show clV s (xs.drop (k + 1)) = D by rw [clV_short (by rw [List.length_drop]; omega), List.length_drop]; exact hD)
  have a8 := Lib.hid (show clE (xs.drop (k + 1)) = 0 from clE_short (by rw [List.length_drop]; omega))
  have a9 := Lib.hid (show bkL now A = [] by rw [bkL_short (by omega)]; exact bk_of_rising now A hAr _ (Nat.le_refl _))
  have b1 := Lib.hid hris
  have b2 := Lib.hid hsplit
  have b3 := Lib.hid (show A = xs by rw [← hA]; exact cl_of_rising now xs hris)
  have hCk : nth C k = s := by rw [← hC, ← hS]; exact (cl_nth now (xs.take (k + 1)) (k + 1) k (by omega)).trans (by rw [List.take_take, Nat.min_self])
  have hCk' := Lib.hid hCk
  have j0 : decide ((0 : Int) < (C.length : Int)) = true := decide_eq_true (by omega)
  have j1 : (0 : Int) ≤ (C.length : Int) - 1 := by omega
  have j2 : (C.length : Int) - 1 < (C.length : Int) := by omega
  have j3 : ((C.length : Int) - 1).toNat = k := by omega
  have j4 : C.length = k + 1 := hCl
  have l2 : C.length ≤ 40 := by omega
  have l4 : C.length + D.length ≤ 40 := by omega
  have l1 : A.length ≤ 40 := by omega
  have l3 : D.length ≤ 40 := by omega
  have hAl' := Lib.hid hAl
  have j5 := Lib.hid j4
  have j5 := Lib.hid j4
  have j5 := Lib.hid j4
  have j5 := Lib.hid j4
  clear hA hC hS hD hAl hCl hDl hAr hsplit ht hris hCk j4
  obtain ⟨ti, hin, hz0, hz1, hz2⟩ := info_parts info_u64
  go_enter Try.func7, Try.ntmps7
  go_wp2_with fail
  refine (clamps_is a1 a2 (by repeat (first | (with_reducible exact Hid.out (by with_reducible assumption)) | (with_reducible refine IsL.alloc ?_ _) | (with_reducible refine IsL.drew ?_) | (with_reducible refine IsL.drewN ?_ _) | (with_reducible exact IsL.none)))).mono ?_
  rintro e w1 ⟨v_a, rfl, hl, hb⟩
  have hB1 : Below w.heap.size w w1 := below_thru (by go_grown) hb
  have hs1 : w.heap.size ≤ w1.heap.size := hB1.size
  have L_l_1 : Hid (IsL w1 .u64 (.slice (some ⟨bz, oz, none⟩) xs.length cap) xs) := Lib.hid (IsL.below (by repeat (first | (with_reducible exact Hid.out (by with_reducible assumption)) | (with_reducible refine IsL.alloc ?_ _) | (with_reducible refine IsL.drew ?_) | (with_reducible refine IsL.drewN ?_ _) | (with_reducible exact IsL.none))) hb)
  clear hb L_l_0
  have L_a_1 := Lib.hid hl
  clear hl
  go_wp2_with fail
  refine (clamps_is a3 a4 (by repeat (first | (with_reducible exact Hid.out (by with_reducible assumption)) | (with_reducible refine IsL.alloc ?_ _) | (with_reducible refine IsL.drew ?_) | (with_reducible refine IsL.drewN ?_ _) | (with_reducible exact IsL.none)))).mono ?_
  rintro e w2 ⟨v_b, rfl, hl, hb⟩
  have hB2 : Below w.heap.size w w2 := below_thru (by go_grown) hb
  have hs2 : w.heap.size ≤ w2.heap.size := hB2.size
  have L_l_2 : Hid (IsL w2 .u64 (.slice (some ⟨bz, oz, none⟩) xs.length cap) xs) := Lib.hid (IsL.below (by repeat (first | (with_reducible exact Hid.out (by with_reducible assumption)) | (with_reducible refine IsL.alloc ?_ _) | (with_reducible refine IsL.drew ?_) | (with_reducible refine IsL.drewN ?_ _) | (with_reducible exact IsL.none))) hb)
  have L_a_2 : Hid (IsL w2 .u64 v_a A) := Lib.hid (IsL.below (by repeat (first | (with_reducible exact Hid.out (by with_reducible assumption)) | (with_reducible refine IsL.alloc ?_ _) | (with_reducible refine IsL.drew ?_) | (with_reducible refine IsL.drewN ?_ _) | (with_reducible exact IsL.none))) hb)
  clear hb hB1 hs1 L_l_1 L_a_1
  have L_b_2 := Lib.hid hl
  clear hl
  have L_m := Lib.hid (L_l_2.out.upto (k + 1) (by omega))
  go_wp2_with fail
  refine (clamps_is a5 a6 L_m.out).mono ?_
  rintro e w3 ⟨v_c, rfl, hl, hb⟩
  have hB3 : Below w.heap.size w w3 := below_thru (by go_grown) hb
  have hs3 : w.heap.size ≤ w3.heap.size := hB3.size
  have L_l_3 : Hid (IsL w3 .u64 (.slice (some ⟨bz, oz, none⟩) xs.length cap) xs) := Lib.hid (IsL.below (by repeat (first | (with_reducible exact Hid.out (by with_reducible assumption)) | (with_reducible refine IsL.alloc ?_ _) | (with_reducible refine IsL.drew ?_) | (with_reducible refine IsL.drewN ?_ _) | (with_reducible exact IsL.none))) hb)
  have L_a_3 : Hid (IsL w3 .u64 v_a A) := Lib.hid (IsL.below (by repeat (first | (with_reducible exact Hid.out (by with_reducible assumption)) | (with_reducible refine IsL.alloc ?_ _) | (with_reducible refine IsL.drew ?_) | (with_reducible refine IsL.drewN ?_ _) | (with_reducible exact IsL.none))) hb)
  have L_b_3 : Hid (IsL w3 .u64 v_b A) := Lib.hid (IsL.below (by repeat (first | (with_reducible exact Hid.out (by with_reducible assumption)) | (with_reducible refine IsL.alloc ?_ _) | (with_reducible refine IsL.drew ?_) | (with_reducible refine IsL.drewN ?_ _) | (with_reducible exact IsL.none))) hb)
  clear hb hB2 hs2 L_l_2 L_a_2 L_b_2
  have L_c_3 := Lib.hid hl
  clear hl
  clear L_m
  obtain ⟨ac, cc, rfl, _⟩ := id L_c_3.out
  obtain ⟨_, hrc, hmc⟩ := L_c_3.out.room
  obtain ⟨bb, oo, hac, hcc⟩ := L_c_3.out.get k (by rw [j5.out]; omega)
  subst hac
  rw [hCk'.out] at hcc
  have L_d0 := L_l_3.out.cut (k + 1) (by omega)
  rw [if_neg hcap] at L_d0
  have L_d1 : IsL w3 .u64 (.slice (some ⟨bz, oz + (k + 1), none⟩) (xs.length - (k + 1)) (cap - (k + 1))) (xs.drop (k + 1)) := L_d0
  have L_d := Lib.hid L_d1
  clear L_d0 L_d1
  have j6 : C.length ≤ 40 := by omega
  go_wp2_with fail
  clear hcc
  refine (clamps_is a7 a8 L_d.out).mono ?_
  rintro e w4 ⟨v_d, rfl, hl, hb⟩
  have hB4 : Below w.heap.size w w4 := below_thru (by go_grown) hb
  have hs4 : w.heap.size ≤ w4.heap.size := hB4.size
  have L_l_4 : Hid (IsL w4 .u64 (.slice (some ⟨bz, oz, none⟩) xs.length cap) xs) := Lib.hid (IsL.below (by repeat (first | (with_reducible exact Hid.out (by with_reducible assumption)) | (with_reducible refine IsL.alloc ?_ _) | (with_reducible refine IsL.drew ?_) | (with_reducible refine IsL.drewN ?_ _) | (with_reducible exact IsL.none))) hb)
  have L_a_4 : Hid (IsL w4 .u64 v_a A) := Lib.hid (IsL.below (by repeat (first | (with_reducible exact Hid.out (by with_reducible assumption)) | (with_reducible refine IsL.alloc ?_ _) | (with_reducible refine IsL.drew ?_) | (with_reducible refine IsL.drewN ?_ _) | (with_reducible exact IsL.none))) hb)
  have L_b_4 : Hid (IsL w4 .u64 v_b A) := Lib.hid (IsL.below (by repeat (first | (with_reducible exact Hid.out (by with_reducible assumption)) | (with_reducible refine IsL.alloc ?_ _) | (with_reducible refine IsL.drew ?_) | (with_reducible refine IsL.drewN ?_ _) | (with_reducible exact IsL.none))) hb)
  have L_c_4 : Hid (IsL w4 .u64 (.slice (some ⟨bb, oo, none⟩) C.length cc) C) := Lib.hid (IsL.below (by repeat (first | (with_reducible exact Hid.out (by with_reducible assumption)) | (with_reducible refine IsL.alloc ?_ _) | (with_reducible refine IsL.drew ?_) | (with_reducible refine IsL.drewN ?_ _) | (with_reducible exact IsL.none))) hb)
  clear hb hB3 hs3 L_l_3 L_a_3 L_b_3 L_c_3
  have L_d_4 := Lib.hid hl
  clear hl
  clear L_d
  go_wp2_with fail
  refine (same_tt (xs := A) (by repeat (first | (with_reducible exact Hid.out (by with_reducible assumption)) | (with_reducible refine IsL.alloc ?_ _) | (with_reducible refine IsL.drew ?_) | (with_reducible refine IsL.drewN ?_ _) | (with_reducible exact IsL.none))) (by repeat (first | (with_reducible exact Hid.out (by with_reducible assumption)) | (with_reducible refine IsL.alloc ?_ _) | (with_reducible refine IsL.drew ?_) | (with_reducible refine IsL.drewN ?_ _) | (with_reducible exact IsL.none)))).mono ?_
  rintro e w5 ⟨rfl, hb⟩
  have hB5 : Below w.heap.size w w5 := below_thru (by go_grown) hb
  have hs5 : w.heap.size ≤ w5.heap.size := hB5.size
  have L_l_5 : Hid (IsL w5 .u64 (.slice (some ⟨bz, oz, none⟩) xs.length cap) xs) := Lib.hid (IsL.below (by repeat (first | (with_reducible exact Hid.out (by with_reducible assumption)) | (with_reducible refine IsL.alloc ?_ _) | (with_reducible refine IsL.drew ?_) | (with_reducible refine IsL.drewN ?_ _) | (with_reducible exact IsL.none))) hb)
  have L_a_5 : Hid (IsL w5 .u64 v_a A) := Lib.hid (IsL.below (by repeat (first | (with_reducible exact Hid.out (by with_reducible assumption)) | (with_reducible refine IsL.alloc ?_ _) | (with_reducible refine IsL.drew ?_) | (with_reducible refine IsL.drewN ?_ _) | (with_reducible exact IsL.none))) hb)
  have L_b_5 : Hid (IsL w5 .u64 v_b A) := Lib.hid (IsL.below (by repeat (first | (with_reducible exact Hid.out (by with_reducible assumption)) | (with_reducible refine IsL.alloc ?_ _) | (with_reducible refine IsL.drew ?_) | (with_reducible refine IsL.drewN ?_ _) | (with_reducible exact IsL.none))) hb)
  have L_c_5 : Hid (IsL w5 .u64 (.slice (some ⟨bb, oo, none⟩) C.length cc) C) := Lib.hid (IsL.below (by repeat (first | (with_reducible exact Hid.out (by with_reducible assumption)) | (with_reducible refine IsL.alloc ?_ _) | (with_reducible refine IsL.drew ?_) | (with_reducible refine IsL.drewN ?_ _) | (with_reducible exact IsL.none))) hb)
  have L_d_5 : Hid (IsL w5 .u64 v_d D) := Lib.hid (IsL.below (by repeat (first | (with_reducible exact Hid.out (by with_reducible assumption)) | (with_reducible refine IsL.alloc ?_ _) | (with_reducible refine IsL.drew ?_) | (with_reducible refine IsL.drewN ?_ _) | (with_reducible exact IsL.none))) hb)
  clear hb hB4 hs4 L_l_4 L_a_4 L_b_4 L_c_4 L_d_4
  go_wp2_with (first | (at_builtin; refine wpList_append_built rfl _ _ 22 rfl 26 ti (.int .u64 0) 8 .u64 Try.underlying22 hin hz0 hz1 hz2 rfl [] C _ (.slice (some ⟨bb, oo, none⟩) C.length cc) _ _ _ rfl rfl rfl rfl rfl rfl L_c_5.out (by unfold maxLen; simp <;> omega) (by simp <;> omega) ?_; intro v_m wm hown hbm) | (at_builtin; refine wpList_append_onto rfl _ _ 22 rfl w5.heap.size 26 ti (.int .u64 0) 8 .u64 Try.underlying22 hin hz0 hz1 hz2 rfl v_m ([] ++ C) D v_d rfl rfl hown (IsL.below L_d_5.out hbm) (by unfold maxLen; simp <;> omega) (by simp <;> omega) hbm.size ?_; intro v_n w6 hown2 hbn))
  have hb := hbm.trans hbn
  have L_n : Hid (IsL w6 .u64 v_n A) := Lib.hid (by rw [b2.out]; exact IsL.own hown2 rfl)
  clear hown hown2 hbm hbn
  have hB6 : Below w.heap.size w w6 := below_thru (by go_grown) hb
  have hs6 : w.heap.size ≤ w6.heap.size := hB6.size
  have L_l_6 : Hid (IsL w6 .u64 (.slice (some ⟨bz, oz, none⟩) xs.length cap) xs) := Lib.hid (IsL.below (by repeat (first | (with_reducible exact Hid.out (by with_reducible assumption)) | (with_reducible refine IsL.alloc ?_ _) | (with_reducible refine IsL.drew ?_) | (with_reducible refine IsL.drewN ?_ _) | (with_reducible exact IsL.none))) hb)
  have L_a_6 : Hid (IsL w6 .u64 v_a A) := Lib.hid (IsL.below (by repeat (first | (with_reducible exact Hid.out (by with_reducible assumption)) | (with_reducible refine IsL.alloc ?_ _) | (with_reducible refine IsL.drew ?_) | (with_reducible refine IsL.drewN ?_ _) | (with_reducible exact IsL.none))) hb)
  have L_b_6 : Hid (IsL w6 .u64 v_b A) := Lib.hid (IsL.below (by repeat (first | (with_reducible exact Hid.out (by with_reducible assumption)) | (with_reducible refine IsL.alloc ?_ _) | (with_reducible refine IsL.drew ?_) | (with_reducible refine IsL.drewN ?_ _) | (with_reducible exact IsL.none))) hb)
  have L_c_6 : Hid (IsL w6 .u64 (.slice (some ⟨bb, oo, none⟩) C.length cc) C) := Lib.hid (IsL.below (by repeat (first | (with_reducible exact Hid.out (by with_reducible assumption)) | (with_reducible refine IsL.alloc ?_ _) | (with_reducible refine IsL.drew ?_) | (with_reducible refine IsL.drewN ?_ _) | (with_reducible exact IsL.none))) hb)
  have L_d_6 : Hid (IsL w6 .u64 v_d D) := Lib.hid (IsL.below (by repeat (first | (with_reducible exact Hid.out (by with_reducible assumption)) | (with_reducible refine IsL.alloc ?_ _) | (with_reducible refine IsL.drew ?_) | (with_reducible refine IsL.drewN ?_ _) | (with_reducible exact IsL.none))) hb)
  clear hb hB5 hs5 L_l_5 L_a_5 L_b_5 L_c_5 L_d_5
  have L_n_6 := L_n
  clear L_n
  go_wp2_with fail
  refine (same_tt (xs := A) (by repeat (first | (with_reducible exact Hid.out (by with_reducible assumption)) | (with_reducible refine IsL.alloc ?_ _) | (with_reducible refine IsL.drew ?_) | (with_reducible refine IsL.drewN ?_ _) | (with_reducible exact IsL.none))) (by repeat (first | (with_reducible exact Hid.out (by with_reducible assumption)) | (with_reducible refine IsL.alloc ?_ _) | (with_reducible refine IsL.drew ?_) | (with_reducible refine IsL.drewN ?_ _) | (with_reducible exact IsL.none)))).mono ?_
  rintro e w7 ⟨rfl, hb⟩
  have hB7 : Below w.heap.size w w7 := below_thru (by go_grown) hb
  have hs7 : w.heap.size ≤ w7.heap.size := hB7.size
  have L_l_7 : Hid (IsL w7 .u64 (.slice (some ⟨bz, oz, none⟩) xs.length cap) xs) := Lib.hid (IsL.below (by repeat (first | (with_reducible exact Hid.out (by with_reducible assumption)) | (with_reducible refine IsL.alloc ?_ _) | (with_reducible refine IsL.drew ?_) | (with_reducible refine IsL.drewN ?_ _) | (with_reducible exact IsL.none))) hb)
  have L_a_7 : Hid (IsL w7 .u64 v_a A) := Lib.hid (IsL.below (by repeat (first | (with_reducible exact Hid.out (by with_reducible assumption)) | (with_reducible refine IsL.alloc ?_ _) | (with_reducible refine IsL.drew ?_) | (with_reducible refine IsL.drewN ?_ _) | (with_reducible exact IsL.none))) hb)
  have L_b_7 : Hid (IsL w7 .u64 v_b A) := Lib.hid (IsL.below (by repeat (first | (with_reducible exact Hid.out (by with_reducible assumption)) | (with_reducible refine IsL.alloc ?_ _) | (with_reducible refine IsL.drew ?_) | (with_reducible refine IsL.drewN ?_ _) | (with_reducible exact IsL.none))) hb)
  have L_c_7 : Hid (IsL w7 .u64 (.slice (some ⟨bb, oo, none⟩) C.length cc) C) := Lib.hid (IsL.below (by repeat (first | (with_reducible exact Hid.out (by with_reducible assumption)) | (with_reducible refine IsL.alloc ?_ _) | (with_reducible refine IsL.drew ?_) | (with_reducible refine IsL.drewN ?_ _) | (with_reducible exact IsL.none))) hb)
  have L_d_7 : Hid (IsL w7 .u64 v_d D) := Lib.hid (IsL.below (by repeat (first | (with_reducible exact Hid.out (by with_reducible assumption)) | (with_reducible refine IsL.alloc ?_ _) | (with_reducible refine IsL.drew ?_) | (with_reducible refine IsL.drewN ?_ _) | (with_reducible exact IsL.none))) hb)
  have L_n_7 : Hid (IsL w7 .u64 v_n A) := Lib.hid (IsL.below (by repeat (first | (with_reducible exact Hid.out (by with_reducible assumption)) | (with_reducible refine IsL.alloc ?_ _) | (with_reducible refine IsL.drew ?_) | (with_reducible refine IsL.drewN ?_ _) | (with_reducible exact IsL.none))) hb)
  clear hb hB6 hs6 L_l_6 L_a_6 L_b_6 L_c_6 L_d_6 L_n_6
  clear L_n_7
  clear L_d_7
  clear L_c_7
  clear L_b_7
  go_wp2_with fail
  refine (back_is a9 a4 (by repeat (first | (with_reducible exact Hid.out (by with_reducible assumption)) | (with_reducible refine IsL.alloc ?_ _) | (with_reducible refine IsL.drew ?_) | (with_reducible refine IsL.drewN ?_ _) | (with_reducible exact IsL.none)))).mono ?_
  rintro e w8 ⟨v_e, rfl, hl, hb⟩
  have hB8 : Below w.heap.size w w8 := below_thru (by go_grown) hb
  have hs8 : w.heap.size ≤ w8.heap.size := hB8.size
  have L_l_8 : Hid (IsL w8 .u64 (.slice (some ⟨bz, oz, none⟩) xs.length cap) xs) := Lib.hid (IsL.below (by repeat (first | (with_reducible exact Hid.out (by with_reducible assumption)) | (with_reducible refine IsL.alloc ?_ _) | (with_reducible refine IsL.drew ?_) | (with_reducible refine IsL.drewN ?_ _) | (with_reducible exact IsL.none))) hb)
  have L_a_8 : Hid (IsL w8 .u64 v_a A) := Lib.hid (IsL.below (by repeat (first | (with_reducible exact Hid.out (by with_reducible assumption)) | (with_reducible refine IsL.alloc ?_ _) | (with_reducible refine IsL.drew ?_) | (with_reducible refine IsL.drewN ?_ _) | (with_reducible exact IsL.none))) hb)
  clear hb hB7 hs7 L_l_7 L_a_7
  have L_e_8 := Lib.hid hl
  clear hl
  obtain ⟨ae, ce, rfl, _⟩ := id L_e_8.out
  clear L_e_8
  go_wp2_with (at_builtin; refine wpList_append_built rfl _ _ 22 rfl 26 ti (.int .u64 0) 8 .u64 Try.underlying22 hin hz0 hz1 hz2 rfl [now] xs _ (.slice (some ⟨bz, oz, none⟩) xs.length cap) _ _ _ rfl rfl rfl rfl rfl rfl L_l_8.out (by unfold maxLen; simp; omega) (by simp; omega) ?_; intro v_r w9 hown hb)
  have hB9 : Below w.heap.size w w9 := below_thru (by go_grown) hb
  have hs9 : w.heap.size ≤ w9.heap.size := hB9.size
  have L_l_9 : Hid (IsL w9 .u64 (.slice (some ⟨bz, oz, none⟩) xs.length cap) xs) := Lib.hid (IsL.below (by repeat (first | (with_reducible exact Hid.out (by with_reducible assumption)) | (with_reducible refine IsL.alloc ?_ _) | (with_reducible refine IsL.drew ?_) | (with_reducible refine IsL.drewN ?_ _) | (with_reducible exact IsL.none))) hb)
  have L_a_9 : Hid (IsL w9 .u64 v_a A) := Lib.hid (IsL.below (by repeat (first | (with_reducible exact Hid.out (by with_reducible assumption)) | (with_reducible refine IsL.alloc ?_ _) | (with_reducible refine IsL.drew ?_) | (with_reducible refine IsL.drewN ?_ _) | (with_reducible exact IsL.none))) hb)
  clear hb hB8 hs8 L_l_8 L_a_8
  have L_r_9 := Lib.hid (IsL.own hown rfl)
  clear hown
  go_wp2_with fail
  refine (rising_b b1 (by repeat (first | (with_reducible exact Hid.out (by with_reducible assumption)) | (with_reducible refine IsL.alloc ?_ _) | (with_reducible refine IsL.drew ?_) | (with_reducible refine IsL.drewN ?_ _) | (with_reducible exact IsL.none)))).mono ?_
  rintro e w10 ⟨rfl, hb⟩
  have hB10 : Below w.heap.size w w10 := below_thru (by go_grown) hb
  have hs10 : w.heap.size ≤ w10.heap.size := hB10.size
  have L_l_10 : Hid (IsL w10 .u64 (.slice (some ⟨bz, oz, none⟩) xs.length cap) xs) := Lib.hid (IsL.below (by repeat (first | (with_reducible exact Hid.out (by with_reducible assumption)) | (with_reducible refine IsL.alloc ?_ _) | (with_reducible refine IsL.drew ?_) | (with_reducible refine IsL.drewN ?_ _) | (with_reducible exact IsL.none))) hb)
  have L_a_10 : Hid (IsL w10 .u64 v_a A) := Lib.hid (IsL.below (by repeat (first | (with_reducible exact Hid.out (by with_reducible assumption)) | (with_reducible refine IsL.alloc ?_ _) | (with_reducible refine IsL.drew ?_) | (with_reducible refine IsL.drewN ?_ _) | (with_reducible exact IsL.none))) hb)
  have L_r_10 : Hid (IsL w10 .u64 v_r ([now] ++ xs)) := Lib.hid (IsL.below (by repeat (first | (with_reducible exact Hid.out (by with_reducible assumption)) | (with_reducible refine IsL.alloc ?_ _) | (with_reducible refine IsL.drew ?_) | (with_reducible refine IsL.drewN ?_ _) | (with_reducible exact IsL.none))) hb)
  clear hb hB9 hs9 L_l_9 L_a_9 L_r_9
  clear L_r_10
  rw [b3.out] at L_a_10
  go_wp2_with fail
  refine (same_tt (xs := xs) (by repeat (first | (with_reducible exact Hid.out (by with_reducible assumption)) | (with_reducible refine IsL.alloc ?_ _) | (with_reducible refine IsL.drew ?_) | (with_reducible refine IsL.drewN ?_ _) | (with_reducible exact IsL.none))) (by repeat (first | (with_reducible exact Hid.out (by with_reducible assumption)) | (with_reducible refine IsL.alloc ?_ _) | (with_reducible refine IsL.drew ?_) | (with_reducible refine IsL.drewN ?_ _) | (with_reducible exact IsL.none)))).mono ?_
  rintro e w11 ⟨rfl, hb⟩
  have hB11 : Below w.heap.size w w11 := below_thru (by go_grown) hb
  have hs11 : w.heap.size ≤ w11.heap.size := hB11.size
  have L_l_11 : Hid (IsL w11 .u64 (.slice (some ⟨bz, oz, none⟩) xs.length cap) xs) := Lib.hid (IsL.below (by repeat (first | (with_reducible exact Hid.out (by with_reducible assumption)) | (with_reducible refine IsL.alloc ?_ _) | (with_reducible refine IsL.drew ?_) | (with_reducible refine IsL.drewN ?_ _) | (with_reducible exact IsL.none))) hb)
  have L_a_11 : Hid (IsL w11 .u64 v_a xs) := Lib.hid (IsL.below (by repeat (first | (with_reducible exact Hid.out (by with_reducible assumption)) | (with_reducible refine IsL.alloc ?_ _) | (with_reducible refine IsL.drew ?_) | (with_reducible refine IsL.drewN ?_ _) | (with_reducible exact IsL.none))) hb)
  clear hb hB10 hs10 L_l_10 L_a_10
  go_wp2_with fail
  refine (alive02_any _).mono ?_
  rintro e w12 ⟨rfl, hb⟩
  have hB12 : Below w.heap.size w w12 := below_thru (by go_grown) hb
  have hs12 : w.heap.size ≤ w12.heap.size := hB12.size
  have L_l_12 : Hid (IsL w12 .u64 (.slice (some ⟨bz, oz, none⟩) xs.length cap) xs) := Lib.hid (IsL.below (by repeat (first | (with_reducible exact Hid.out (by with_reducible assumption)) | (with_reducible refine IsL.alloc ?_ _) | (with_reducible refine IsL.drew ?_) | (with_reducible refine IsL.drewN ?_ _) | (with_reducible exact IsL.none))) hb)
  have L_a_12 : Hid (IsL w12 .u64 v_a xs) := Lib.hid (IsL.below (by repeat (first | (with_reducible exact Hid.out (by with_reducible assumption)) | (with_reducible refine IsL.alloc ?_ _) | (with_reducible refine IsL.drew ?_) | (with_reducible refine IsL.drewN ?_ _) | (with_reducible exact IsL.none))) hb)
  clear hb hB11 hs11 L_l_11 L_a_11
  go_wp2_with fail
  go_returns
  exact ⟨rfl, hB12⟩

set_option maxRecDepth 100000 in
set_option maxHeartbeats 3200000 in
theorem parts_pf (now : Int) (xs : List Int) (at0 : Option Addr) (cap : Nat) (w : World) (hi : IsL w .u64 (.slice at0 xs.length cap) xs) (k : Nat) (hk : k + 1 ≤ xs.length) (hcap : ¬ cap = k + 1) (hl : xs.length ≤ 40) (hris : risB ([now] ++ xs) = false) :
    Calls Try.prog 7 #[.int .u64 now, .slice at0 xs.length cap, .int .i64 ((k + 1 : Nat) : Int)] w fun e w' => e = .returned (.bool true) ∧ Below w.heap.size w w' := by
  obtain ⟨_, hr, hm⟩ := hi.room
  obtain ⟨bz, oz, hz, _⟩ := hi.get 0 (by omega)
  subst hz
  have L_l_0 := Lib.hid hi
  clear hi
  have d1 : decide ((40 : Int) < (xs.length : Int)) = false := decide_eq_false (by omega)
  have d2 : decide (((k + 1 : Nat) : Int) < 0) = false := decide_eq_false (by omega)
  have d2' : decide ((k : Int) + 1 < 0) = false := decide_eq_false (by omega)
  have d3 : decide ((xs.length : Int) < ((k + 1 : Nat) : Int)) = false := decide_eq_false (by omega)
  have d3' : decide ((xs.length : Int) < (k : Int) + 1) = false := decide_eq_false (by omega)
  have i0 : (0 : Int) ≤ (k : Int) + 1 := by omega
  have i1 : (k : Int) + 1 ≤ (cap : Int) := by omega
  have i2 : (k : Int) + 1 ≤ (xs.length : Int) := by omega
  have i3 : ((k : Int) + 1).toNat = k + 1 := by omega
  obtain ⟨A, hA⟩ : ∃ A, cl now xs xs.length = A := ⟨_, rfl⟩
  obtain ⟨C, hC⟩ : ∃ C, cl now (xs.take (k + 1)) (k + 1) = C := ⟨_, rfl⟩
  obtain ⟨s, hS⟩ : ∃ s, gr now (xs.take (k + 1)) = s := ⟨_, rfl⟩
  obtain ⟨D, hD⟩ : ∃ D, cl s (xs.drop (k + 1)) (xs.length - (k + 1)) = D := ⟨_, rfl⟩
  have hAl : A.length = xs.length := by rw [← hA, cl_len]
  have hCl : C.length = (k + 1) := by rw [← hC, cl_len]
  have hDl : D.length = xs.length - (k + 1) := by rw [← hD, cl_len]
  have hAr : risB ([now] ++ A) = true := by rw [← hA]; exact cl_rises now xs
  have hsplit : A = C ++ D := by rw [← hA, ← hC, ← hD, ← hS]; exact cl_parts now xs (k + 1) (by omega)
  have ht : (xs.take (k + 1)).length = (k + 1) := by rw [List.length_take]; omega
  have a1 := Lib.hid (show clV now xs = A by rw [clV_short (by omega)]; exact hA)
  have a2 := Lib.hid (show clE xs = 0 from clE_short (by omega))
  have a3 := Lib.hid (show clV now A = A by rw [clV_short (by omega)]; exact cl_of_rising now A hAr)
  have a4 := Lib.hid (show clE A = 0 from clE_short (by omega))
  have a5 := Lib.hid (show clV now (xs.take (k + 1)) = C by rw [clV_short (by omega), ht]; exact hC)
  have a6 := Lib.hid (show clE (xs.take (k + 1)) = 0 from clE_short (by omega))
  have a7 := Lib.hid (show clV s (xs.drop (k + 1)) = D by rw [clV_short (by rw [List.length_drop]; omega), List.length_drop]; exact hD)
  have a8 := Lib.hid (show clE (xs.drop (k + 1)) = 0 from clE_short (by rw [List.length_drop]; omega))
  have a9 := Lib.hid (show bkL now A = [] by rw [bkL_short (by omega)]; exact bk_of_rising now A hAr _ (Nat.le_refl _))
  have b1 := Lib.hid hris
  have b2 := Lib.hid hsplit
  have hCk : nth C k = s := by rw [← hC, ← hS]; exact (cl_nth now (xs.take (k + 1)) (k + 1) k (by omega)).trans (by rw [List.take_take, Nat.min_self])
  have hCk' := Lib.hid hCk
  have j0 : decide ((0 : Int) < (C.length : Int)) = true := decide_eq_true (by omega)
  have j1 : (0 : Int) ≤ (C.length : Int) - 1 := by omega
  have j2 : (C.length : Int) - 1 < (C.length : Int) := by omega
  have j3 : ((C.length : Int) - 1).toNat = k := by omega
  have j4 : C.length = k + 1 := hCl
  have l2 : C.length ≤ 40 := by omega
  have l4 : C.length + D.length ≤ 40 := by omega
  have l1 : A.length ≤ 40 := by omega
  have l3 : D.length ≤ 40 := by omega
  have hAl' := Lib.hid hAl
  have j5 := Lib.hid j4
  have j5 := Lib.hid j4
  have j5 := Lib.hid j4
  clear hA hC hS hD hAl hCl hDl hAr hsplit ht hris hCk j4
  obtain ⟨ti, hin, hz0, hz1, hz2⟩ := info_parts info_u64
  go_enter Try.func7, Try.ntmps7
  go_wp2_with fail
  refine (clamps_is a1 a2 (by repeat (first | (with_reducible exact Hid.out (by with_reducible assumption)) | (with_reducible refine IsL.alloc ?_ _) | (with_reducible refine IsL.drew ?_) | (with_reducible refine IsL.drewN ?_ _) | (with_reducible exact IsL.none)))).mono ?_
  rintro e w1 ⟨v_a, rfl, hl, hb⟩
  have hB1 : Below w.heap.size w w1 := below_thru (by go_grown) hb
  have hs1 : w.heap.size ≤ w1.heap.size := hB1.size
  have L_l_1 : Hid (IsL w1 .u64 (.slice (some ⟨bz, oz, none⟩) xs.length cap) xs) := Lib.hid (IsL.below (by repeat (first | (with_reducible exact Hid.out (by with_reducible assumption)) | (with_reducible refine IsL.alloc ?_ _) | (with_reducible refine IsL.drew ?_) | (with_reducible refine IsL.drewN ?_ _) | (with_reducible exact IsL.none))) hb)
  clear hb L_l_0
  have L_a_1 := Lib.hid hl
  clear hl
  go_wp2_with fail
  refine (clamps_is a3 a4 (by repeat (first | (with_reducible exact Hid.out (by with_reducible assumption)) | (with_reducible refine IsL.alloc ?_ _) | (with_reducible refine IsL.drew ?_) | (with_reducible refine IsL.drewN ?_ _) | (with_reducible exact IsL.none)))).mono ?_
  rintro e w2 ⟨v_b, rfl, hl, hb⟩
  have hB2 : Below w.heap.size w w2 := below_thru (by go_grown) hb
  have hs2 : w.heap.size ≤ w2.heap.size := hB2.size
  have L_l_2 : Hid (IsL w2 .u64 (.slice (some ⟨bz, oz, none⟩) xs.length cap) xs) := Lib.hid (IsL.below (by repeat (first | (with_reducible exact Hid.out (by with_reducible assumption)) | (with_reducible refine IsL.alloc ?_ _) | (with_reducible refine IsL.drew ?_) | (with_reducible refine IsL.drewN ?_ _) | (with_reducible exact IsL.none))) hb)
  have L_a_2 : Hid (IsL w2 .u64 v_a A) := Lib.hid (IsL.below (by repeat (first | (with_reducible exact Hid.out (by with_reducible assumption)) | (with_reducible refine IsL.alloc ?_ _) | (with_reducible refine IsL.drew ?_) | (with_reducible refine IsL.drewN ?_ _) | (with_reducible exact IsL.none))) hb)
  clear hb hB1 hs1 L_l_1 L_a_1
  have L_b_2 := Lib.hid hl
  clear hl
  have L_m := Lib.hid (L_l_2.out.upto (k + 1) (by omega))
  go_wp2_with fail
  refine (clamps_is a5 a6 L_m.out).mono ?_
  rintro e w3 ⟨v_c, rfl, hl, hb⟩
  have hB3 : Below w.heap.size w w3 := below_thru (by go_grown) hb
  have hs3 : w.heap.size ≤ w3.heap.size := hB3.size
  have L_l_3 : Hid (IsL w3 .u64 (.slice (some ⟨bz, oz, none⟩) xs.length cap) xs) := Lib.hid (IsL.below (by repeat (first | (with_reducible exact Hid.out (by with_reducible assumption)) | (with_reducible refine IsL.alloc ?_ _) | (with_reducible refine IsL.drew ?_) | (with_reducible refine IsL.drewN ?_ _) | (with_reducible exact IsL.none))) hb)
  have L_a_3 : Hid (IsL w3 .u64 v_a A) := Lib.hid (IsL.below (by repeat (first | (with_reducible exact Hid.out (by with_reducible assumption)) | (with_reducible refine IsL.alloc ?_ _) | (with_reducible refine IsL.drew ?_) | (with_reducible refine IsL.drewN ?_ _) | (with_reducible exact IsL.none))) hb)
  have L_b_3 : Hid (IsL w3 .u64 v_b A) := Lib.hid (IsL.below (by repeat (first | (with_reducible exact Hid.out (by with_reducible assumption)) | (with_reducible refine IsL.alloc ?_ _) | (with_reducible refine IsL.drew ?_) | (with_reducible refine IsL.drewN ?_ _) | (with_reducible exact IsL.none))) hb)
  clear hb hB2 hs2 L_l_2 L_a_2 L_b_2
  have L_c_3 := Lib.hid hl
  clear hl
  clear L_m
  obtain ⟨ac, cc, rfl, _⟩ := id L_c_3.out
  obtain ⟨_, hrc, hmc⟩ := L_c_3.out.room
  obtain ⟨bb, oo, hac, hcc⟩ := L_c_3.out.get k (by rw [j5.out]; omega)
  subst hac
  rw [hCk'.out] at hcc
  have L_d0 := L_l_3.out.cut (k + 1) (by omega)
  rw [if_neg hcap] at L_d0
  have L_d1 : IsL w3 .u64 (.slice (some ⟨bz, oz + (k + 1), none⟩) (xs.length - (k + 1)) (cap - (k + 1))) (xs.drop (k + 1)) := L_d0
  have L_d := Lib.hid L_d1
  clear L_d0 L_d1
  have j6 : C.length ≤ 40 := by omega
  go_wp2_with fail
  clear hcc
  refine (clamps_is a7 a8 L_d.out).mono ?_
  rintro e w4 ⟨v_d, rfl, hl, hb⟩
  have hB4 : Below w.heap.size w w4 := below_thru (by go_grown) hb
  have hs4 : w.heap.size ≤ w4.heap.size := hB4.size
  have L_l_4 : Hid (IsL w4 .u64 (.slice (some ⟨bz, oz, none⟩) xs.length cap) xs) := Lib.hid (IsL.below (by repeat (first | (with_reducible exact Hid.out (by with_reducible assumption)) | (with_reducible refine IsL.alloc ?_ _) | (with_reducible refine IsL.drew ?_) | (with_reducible refine IsL.drewN ?_ _) | (with_reducible exact IsL.none))) hb)
  have L_a_4 : Hid (IsL w4 .u64 v_a A) := Lib.hid (IsL.below (by repeat (first | (with_reducible exact Hid.out (by with_reducible assumption)) | (with_reducible refine IsL.alloc ?_ _) | (with_reducible refine IsL.drew ?_) | (with_reducible refine IsL.drewN ?_ _) | (with_reducible exact IsL.none))) hb)
  have L_b_4 : Hid (IsL w4 .u64 v_b A) := Lib.hid (IsL.below (by repeat (first | (with_reducible exact Hid.out (by with_reducible assumption)) | (with_reducible refine IsL.alloc ?_ _) | (with_reducible refine IsL.drew ?_) | (with_reducible refine IsL.drewN ?_ _) | (with_reducible exact IsL.none))) hb)
  have L_c_4 : Hid (IsL w4 .u64 (.slice (some ⟨bb, oo, none⟩) C.length cc) C) := Lib.hid (IsL.below (by repeat (first | (with_reducible exact Hid.out (by with_reducible assumption)) | (with_reducible refine IsL.alloc ?_ _) | (with_reducible refine IsL.drew ?_) | (with_reducible refine IsL.drewN ?_ _) | (with_reducible exact IsL.none))) hb)
  clear hb hB3 hs3 L_l_3 L_a_3 L_b_3 L_c_3
  have L_d_4 := Lib.hid hl
  clear hl
  clear L_d
  go_wp2_with fail
  refine (same_tt (xs := A) (by repeat (first | (with_reducible exact Hid.out (by with_reducible assumption)) | (with_reducible refine IsL.alloc ?_ _) | (with_reducible refine IsL.drew ?_) | (with_reducible refine IsL.drewN ?_ _) | (with_reducible exact IsL.none))) (by repeat (first | (with_reducible exact Hid.out (by with_reducible assumption)) | (with_reducible refine IsL.alloc ?_ _) | (with_reducible refine IsL.drew ?_) | (with_reducible refine IsL.drewN ?_ _) | (with_reducible exact IsL.none)))).mono ?_
  rintro e w5 ⟨rfl, hb⟩
  have hB5 : Below w.heap.size w w5 := below_thru (by go_grown) hb
  have hs5 : w.heap.size ≤ w5.heap.size := hB5.size
  have L_l_5 : Hid (IsL w5 .u64 (.slice (some ⟨bz, oz, none⟩) xs.length cap) xs) := Lib.hid (IsL.below (by repeat (first | (with_reducible exact Hid.out (by with_reducible assumption)) | (with_reducible refine IsL.alloc ?_ _) | (with_reducible refine IsL.drew ?_) | (with_reducible refine IsL.drewN ?_ _) | (with_reducible exact IsL.none))) hb)
  have L_a_5 : Hid (IsL w5 .u64 v_a A) := Lib.hid (IsL.below (by repeat (first | (with_reducible exact Hid.out (by with_reducible assumption)) | (with_reducible refine IsL.alloc ?_ _) | (with_reducible refine IsL.drew ?_) | (with_reducible refine IsL.drewN ?_ _) | (with_reducible exact IsL.none))) hb)
  have L_b_5 : Hid (IsL w5 .u64 v_b A) := Lib.hid (IsL.below (by repeat (first | (with_reducible exact Hid.out (by with_reducible assumption)) | (with_reducible refine IsL.alloc ?_ _) | (with_reducible refine IsL.drew ?_) | (with_reducible refine IsL.drewN ?_ _) | (with_reducible exact IsL.none))) hb)
  have L_c_5 : Hid (IsL w5 .u64 (.slice (some ⟨bb, oo, none⟩) C.length cc) C) := Lib.hid (IsL.below (by repeat (first | (with_reducible exact Hid.out (by with_reducible assumption)) | (with_reducible refine IsL.alloc ?_ _) | (with_reducible refine IsL.drew ?_) | (with_reducible refine IsL.drewN ?_ _) | (with_reducible exact IsL.none))) hb)
  have L_d_5 : Hid (IsL w5 .u64 v_d D) := Lib.hid (IsL.below (by repeat (first | (with_reducible exact Hid.out (by with_reducible assumption)) | (with_reducible refine IsL.alloc ?_ _) | (with_reducible refine IsL.drew ?_) | (with_reducible refine IsL.drewN ?_ _) | (with_reducible exact IsL.none))) hb)
  clear hb hB4 hs4 L_l_4 L_a_4 L_b_4 L_c_4 L_d_4
  go_wp2_with (first | (at_builtin; refine wpList_append_built rfl _ _ 22 rfl 26 ti (.int .u64 0) 8 .u64 Try.underlying22 hin hz0 hz1 hz2 rfl [] C _ (.slice (some ⟨bb, oo, none⟩) C.length cc) _ _ _ rfl rfl rfl rfl rfl rfl L_c_5.out (by unfold maxLen; simp <;> omega) (by simp <;> omega) ?_; intro v_m wm hown hbm) | (at_builtin; refine wpList_append_onto rfl _ _ 22 rfl w5.heap.size 26 ti (.int .u64 0) 8 .u64 Try.underlying22 hin hz0 hz1 hz2 rfl v_m ([] ++ C) D v_d rfl rfl hown (IsL.below L_d_5.out hbm) (by unfold maxLen; simp <;> omega) (by simp <;> omega) hbm.size ?_; intro v_n w6 hown2 hbn))
  have hb := hbm.trans hbn
  have L_n : Hid (IsL w6 .u64 v_n A) := Lib.hid (by rw [b2.out]; exact IsL.own hown2 rfl)
  clear hown hown2 hbm hbn
  have hB6 : Below w.heap.size w w6 := below_thru (by go_grown) hb
  have hs6 : w.heap.size ≤ w6.heap.size := hB6.size
  have L_l_6 : Hid (IsL w6 .u64 (.slice (some ⟨bz, oz, none⟩) xs.length cap) xs) := Lib.hid (IsL.below (by repeat (first | (with_reducible exact Hid.out (by with_reducible assumption)) | (with_reducible refine IsL.alloc ?_ _) | (with_reducible refine IsL.drew ?_) | (with_reducible refine IsL.drewN ?_ _) | (with_reducible exact IsL.none))) hb)
  have L_a_6 : Hid (IsL w6 .u64 v_a A) := Lib.hid (IsL.below (by repeat (first | (with_reducible exact Hid.out (by with_reducible assumption)) | (with_reducible refine IsL.alloc ?_ _) | (with_reducible refine IsL.drew ?_) | (with_reducible refine IsL.drewN ?_ _) | (with_reducible exact IsL.none))) hb)
  have L_b_6 : Hid (IsL w6 .u64 v_b A) := Lib.hid (IsL.below (by repeat (first | (with_reducible exact Hid.out (by with_reducible assumption)) | (with_reducible refine IsL.alloc ?_ _) | (with_reducible refine IsL.drew ?_) | (with_reducible refine IsL.drewN ?_ _) | (with_reducible exact IsL.none))) hb)
  have L_c_6 : Hid (IsL w6 .u64 (.slice (some ⟨bb, oo, none⟩) C.length cc) C) := Lib.hid (IsL.below (by repeat (first | (with_reducible exact Hid.out (by with_reducible assumption)) | (with_reducible refine IsL.alloc ?_ _) | (with_reducible refine IsL.drew ?_) | (with_reducible refine IsL.drewN ?_ _) | (with_reducible exact IsL.none))) hb)
  have L_d_6 : Hid (IsL w6 .u64 v_d D) := Lib.hid (IsL.below (by repeat (first | (with_reducible exact Hid.out (by with_reducible assumption)) | (with_reducible refine IsL.alloc ?_ _) | (with_reducible refine IsL.drew ?_) | (with_reducible refine IsL.drewN ?_ _) | (with_reducible exact IsL.none))) hb)
  clear hb hB5 hs5 L_l_5 L_a_5 L_b_5 L_c_5 L_d_5
  have L_n_6 := L_n
  clear L_n
  go_wp2_with fail
  refine (same_tt (xs := A) (by repeat (first | (with_reducible exact Hid.out (by with_reducible assumption)) | (with_reducible refine IsL.alloc ?_ _) | (with_reducible refine IsL.drew ?_) | (with_reducible refine IsL.drewN ?_ _) | (with_reducible exact IsL.none))) (by repeat (first | (with_reducible exact Hid.out (by with_reducible assumption)) | (with_reducible refine IsL.alloc ?_ _) | (with_reducible refine IsL.drew ?_) | (with_reducible refine IsL.drewN ?_ _) | (with_reducible exact IsL.none)))).mono ?_
  rintro e w7 ⟨rfl, hb⟩
  have hB7 : Below w.heap.size w w7 := below_thru (by go_grown) hb
  have hs7 : w.heap.size ≤ w7.heap.size := hB7.size
  have L_l_7 : Hid (IsL w7 .u64 (.slice (some ⟨bz, oz, none⟩) xs.length cap) xs) := Lib.hid (IsL.below (by repeat (first | (with_reducible exact Hid.out (by with_reducible assumption)) | (with_reducible refine IsL.alloc ?_ _) | (with_reducible refine IsL.drew ?_) | (with_reducible refine IsL.drewN ?_ _) | (with_reducible exact IsL.none))) hb)
  have L_a_7 : Hid (IsL w7 .u64 v_a A) := Lib.hid (IsL.below (by repeat (first | (with_reducible exact Hid.out (by with_reducible assumption)) | (with_reducible refine IsL.alloc ?_ _) | (with_reducible refine IsL.drew ?_) | (with_reducible refine IsL.drewN ?_ _) | (with_reducible exact IsL.none))) hb)
  have L_b_7 : Hid (IsL w7 .u64 v_b A) := Lib.hid (IsL.below (by repeat (first | (with_reducible exact Hid.out (by with_reducible assumption)) | (with_reducible refine IsL.alloc ?_ _) | (with_reducible refine IsL.drew ?_) | (with_reducible refine IsL.drewN ?_ _) | (with_reducible exact IsL.none))) hb)
  have L_c_7 : Hid (IsL w7 .u64 (.slice (some ⟨bb, oo, none⟩) C.length cc) C) := Lib.hid (IsL.below (by repeat (first | (with_reducible exact Hid.out (by with_reducible assumption)) | (with_reducible refine IsL.alloc ?_ _) | (with_reducible refine IsL.drew ?_) | (with_reducible refine IsL.drewN ?_ _) | (with_reducible exact IsL.none))) hb)
  have L_d_7 : Hid (IsL w7 .u64 v_d D) := Lib.hid (IsL.below (by repeat (first | (with_reducible exact Hid.out (by with_reducible assumption)) | (with_reducible refine IsL.alloc ?_ _) | (with_reducible refine IsL.drew ?_) | (with_reducible refine IsL.drewN ?_ _) | (with_reducible exact IsL.none))) hb)
  have L_n_7 : Hid (IsL w7 .u64 v_n A) := Lib.hid (IsL.below (by repeat (first | (with_reducible exact Hid.out (by with_reducible assumption)) | (with_reducible refine IsL.alloc ?_ _) | (with_reducible refine IsL.drew ?_) | (with_reducible refine IsL.drewN ?_ _) | (with_reducible exact IsL.none))) hb)
  clear hb hB6 hs6 L_l_6 L_a_6 L_b_6 L_c_6 L_d_6 L_n_6
  clear L_n_7
  clear L_d_7
  clear L_c_7
  clear L_b_7
  go_wp2_with fail
  refine (back_is a9 a4 (by repeat (first | (with_reducible exact Hid.out (by with_reducible assumption)) | (with_reducible refine IsL.alloc ?_ _) | (with_reducible refine IsL.drew ?_) | (with_reducible refine IsL.drewN ?_ _) | (with_reducible exact IsL.none)))).mono ?_
  rintro e w8 ⟨v_e, rfl, hl, hb⟩
  have hB8 : Below w.heap.size w w8 := below_thru (by go_grown) hb
  have hs8 : w.heap.size ≤ w8.heap.size := hB8.size
  have L_l_8 : Hid (IsL w8 .u64 (.slice (some ⟨bz, oz, none⟩) xs.length cap) xs) := Lib.hid (IsL.below (by repeat (first | (with_reducible exact Hid.out (by with_reducible assumption)) | (with_reducible refine IsL.alloc ?_ _) | (with_reducible refine IsL.drew ?_) | (with_reducible refine IsL.drewN ?_ _) | (with_reducible exact IsL.none))) hb)
  have L_a_8 : Hid (IsL w8 .u64 v_a A) := Lib.hid (IsL.below (by repeat (first | (with_reducible exact Hid.out (by with_reducible assumption)) | (with_reducible refine IsL.alloc ?_ _) | (with_reducible refine IsL.drew ?_) | (with_reducible refine IsL.drewN ?_ _) | (with_reducible exact IsL.none))) hb)
  clear hb hB7 hs7 L_l_7 L_a_7
  have L_e_8 := Lib.hid hl
  clear hl
  obtain ⟨ae, ce, rfl, _⟩ := id L_e_8.out
  clear L_e_8
  go_wp2_with (at_builtin; refine wpList_append_built rfl _ _ 22 rfl 26 ti (.int .u64 0) 8 .u64 Try.underlying22 hin hz0 hz1 hz2 rfl [now] xs _ (.slice (some ⟨bz, oz, none⟩) xs.length cap) _ _ _ rfl rfl rfl rfl rfl rfl L_l_8.out (by unfold maxLen; simp; omega) (by simp; omega) ?_; intro v_r w9 hown hb)
  have hB9 : Below w.heap.size w w9 := below_thru (by go_grown) hb
  have hs9 : w.heap.size ≤ w9.heap.size := hB9.size
  have L_l_9 : Hid (IsL w9 .u64 (.slice (some ⟨bz, oz, none⟩) xs.length cap) xs) := Lib.hid (IsL.below (by repeat (first | (with_reducible exact Hid.out (by with_reducible assumption)) | (with_reducible refine IsL.alloc ?_ _) | (with_reducible refine IsL.drew ?_) | (with_reducible refine IsL.drewN ?_ _) | (with_reducible exact IsL.none))) hb)
  have L_a_9 : Hid (IsL w9 .u64 v_a A) := Lib.hid (IsL.below (by repeat (first | (with_reducible exact Hid.out (by with_reducible assumption)) | (with_reducible refine IsL.alloc ?_ _) | (with_reducible refine IsL.drew ?_) | (with_reducible refine IsL.drewN ?_ _) | (with_reducible exact IsL.none))) hb)
  clear hb hB8 hs8 L_l_8 L_a_8
  have L_r_9 := Lib.hid (IsL.own hown rfl)
  clear hown
  go_wp2_with fail
  refine (rising_b b1 (by repeat (first | (with_reducible exact Hid.out (by with_reducible assumption)) | (with_reducible refine IsL.alloc ?_ _) | (with_reducible refine IsL.drew ?_) | (with_reducible refine IsL.drewN ?_ _) | (with_reducible exact IsL.none)))).mono ?_
  rintro e w10 ⟨rfl, hb⟩
  have hB10 : Below w.heap.size w w10 := below_thru (by go_grown) hb
  have hs10 : w.heap.size ≤ w10.heap.size := hB10.size
  have L_l_10 : Hid (IsL w10 .u64 (.slice (some ⟨bz, oz, none⟩) xs.length cap) xs) := Lib.hid (IsL.below (by repeat (first | (with_reducible exact Hid.out (by with_reducible assumption)) | (with_reducible refine IsL.alloc ?_ _) | (with_reducible refine IsL.drew ?_) | (with_reducible refine IsL.drewN ?_ _) | (with_reducible exact IsL.none))) hb)
  have L_a_10 : Hid (IsL w10 .u64 v_a A) := Lib.hid (IsL.below (by repeat (first | (with_reducible exact Hid.out (by with_reducible assumption)) | (with_reducible refine IsL.alloc ?_ _) | (with_reducible refine IsL.drew ?_) | (with_reducible refine IsL.drewN ?_ _) | (with_reducible exact IsL.none))) hb)
  have L_r_10 : Hid (IsL w10 .u64 v_r ([now] ++ xs)) := Lib.hid (IsL.below (by repeat (first | (with_reducible exact Hid.out (by with_reducible assumption)) | (with_reducible refine IsL.alloc ?_ _) | (with_reducible refine IsL.drew ?_) | (with_reducible refine IsL.drewN ?_ _) | (with_reducible exact IsL.none))) hb)
  clear hb hB9 hs9 L_l_9 L_a_9 L_r_9
  clear L_r_10
  go_wp2_with fail
  refine (alive02_any _).mono ?_
  rintro e w11 ⟨rfl, hb⟩
  have hB11 : Below w.heap.size w w11 := below_thru (by go_grown) hb
  have hs11 : w.heap.size ≤ w11.heap.size := hB11.size
  have L_l_11 : Hid (IsL w11 .u64 (.slice (some ⟨bz, oz, none⟩) xs.length cap) xs) := Lib.hid (IsL.below (by repeat (first | (with_reducible exact Hid.out (by with_reducible assumption)) | (with_reducible refine IsL.alloc ?_ _) | (with_reducible refine IsL.drew ?_) | (with_reducible refine IsL.drewN ?_ _) | (with_reducible exact IsL.none))) hb)
  have L_a_11 : Hid (IsL w11 .u64 v_a A) := Lib.hid (IsL.below (by repeat (first | (with_reducible exact Hid.out (by with_reducible assumption)) | (with_reducible refine IsL.alloc ?_ _) | (with_reducible refine IsL.drew ?_) | (with_reducible refine IsL.drewN ?_ _) | (with_reducible exact IsL.none))) hb)
  clear hb hB10 hs10 L_l_10 L_a_10
  go_wp2_with fail
  go_returns
  exact ⟨rfl, hB11⟩

set_option maxRecDepth 100000 in
set_option maxHeartbeats 3200000 in
theorem parts_qr (now : Int) (xs : List Int) (at0 : Option Addr) (cap : Nat) (w : World) (hi : IsL w .u64 (.slice at0 xs.length cap) xs) (k : Nat) (hk : k + 1 ≤ xs.length) (hcap : cap = k + 1) (hl : xs.length ≤ 40) (hris : risB ([now] ++ xs) = true) :
    Calls Try.prog 7 #[.int .u64 now, .slice at0 xs.length cap, .int .i64 ((k + 1 : Nat) : Int)] w fun e w' => e = .returned (.bool true) ∧ Below w.heap.size w w' := by
  obtain ⟨_, hr, hm⟩ := hi.room
  obtain ⟨bz, oz, hz, _⟩ := hi.get 0 (by omega)
  subst hz
  subst hcap
  have L_l_0 := Lib.hid hi
  clear hi
  have d1 : decide ((40 : Int) < (xs.length : Int)) = false := decide_eq_false (by omega)
  have d2 : decide (((k + 1 : Nat) : Int) < 0) = false := decide_eq_false (by omega)
  have d2' : decide ((k : Int) + 1 < 0) = false := decide_eq_false (by omega)
  have d3 : decide ((xs.length : Int) < ((k + 1 : Nat) : Int)) = false := decide_eq_false (by omega)
  have d3' : decide ((xs.length : Int) < (k : Int) + 1) = false := decide_eq_false (by omega)
  have i0 : (0 : Int) ≤ (k : Int) + 1 := by omega
  have i1 : (k : Int) + 1 ≤ ((k : Int) + 1) := by omega
  have i2 : (k : Int) + 1 ≤ (xs.length : Int) := by omega
  have i3 : ((k : Int) + 1).toNat = k + 1 := by omega
  obtain ⟨A, hA⟩ : ∃ A, cl now xs xs.length = A := ⟨_, rfl⟩
  obtain ⟨C, hC⟩ : ∃ C, cl now (xs.take (k + 1)) (k + 1) = C := ⟨_, rfl⟩
  obtain ⟨s, hS⟩ : ∃ s, gr now (xs.take (k + 1)) = s := ⟨_, rfl⟩
  obtain ⟨D, hD⟩ : ∃ D, cl s (xs.drop (k + 1)) (xs.length - (k + 1)) = D := ⟨_, rfl⟩
  have hAl : A.length = xs.length := by rw [← hA, cl_len]
  have hCl : C.length = (k + 1) := by rw [← hC, cl_len]
  have hDl : D.length = xs.length - (k + 1) := by rw [← hD, cl_len]
  have hAr : risB ([now] ++ A) = true := by rw [← hA]; exact cl_rises now xs
  have hsplit : A = C ++ D := by rw [← hA, ← hC, ← hD, ← hS]; exact cl_parts now xs (k + 1) (by omega)
  have ht : (xs.take (k + 1)).length = (k + 1) := by rw [List.length_take]; omega
  have a1 := Lib.hid (show clV now xs = A by rw [clV_short (by omega)]; exact hA)
  have a2 := Lib.hid (show clE xs = 0 from clE_short (by omega))
  have a3 := Lib.hid (show clV now A = A by rw [clV_short (by omega)]; exact cl_of_rising now A hAr)
  have a4 := Lib.hid (show clE A = 0 from clE_short (by omega))
  have a5 := Lib.hid (show clV now (xs.take (k + 1)) = C by rw [clV_short (by omega), ht]; exact hC)
  have a6 := Lib.hid (show clE (xs.take (k + 1)) = 0 from clE_short (by omega))
  have a7 := Lib.hid (show clV s (xs.drop (k + 1)) = D by rw [clV_short (by rw [List.length_drop]; omega), List.length_drop]; exact hD)
  have a8 := Lib.hid (show clE (xs.drop (k + 1)) = 0 from clE_short (by rw [List.length_drop]; omega))
  have a9 := Lib.hid (show bkL now A = [] by rw [bkL_short (by omega)]; exact bk_of_rising now A hAr _ (Nat.le_refl _))
  have b1 := Lib.hid hris
  have b2 := Lib.hid hsplit
  have b3 := Lib.hid (show A = xs by rw [← hA]; exact cl_of_rising now xs hris)
  have hCk : nth C k = s := by rw [← hC, ← hS]; exact (cl_nth now (xs.take (k + 1)) (k + 1) k (by omega)).trans (by rw [List.take_take, Nat.min_self])
  have hCk' := Lib.hid hCk
  have j0 : decide ((0 : Int) < (C.length : Int)) = true := decide_eq_true (by omega)
  have j1 : (0 : Int) ≤ (C.length : Int) - 1 := by omega
  have j2 : (C.length : Int) - 1 < (C.length : Int) := by omega
  have j3 : ((C.length : Int) - 1).toNat = k := by omega
  have j4 : C.length = k + 1 := hCl
  have l2 : C.length ≤ 40 := by omega
  have l4 : C.length + D.length ≤ 40 := by omega
  have l1 : A.length ≤ 40 := by omega
  have l3 : D.length ≤ 40 := by omega
  have hAl' := Lib.hid hAl
  have j5 := Lib.hid j4
  have j5 := Lib.hid j4
  clear hA hC hS hD hAl hCl hDl hAr hsplit ht hris hCk j4
  obtain ⟨ti, hin, hz0, hz1, hz2⟩ := info_parts info_u64
  go_enter Try.func7, Try.ntmps7
  go_wp2_with fail
  refine (clamps_is a1 a2 (by repeat (first | (with_reducible exact Hid.out (by with_reducible assumption)) | (with_reducible refine IsL.alloc ?_ _) | (with_reducible refine IsL.drew ?_) | (with_reducible refine IsL.drewN ?_ _) | (with_reducible exact IsL.none)))).mono ?_
  rintro e w1 ⟨v_a, rfl, hl, hb⟩
  have hB1 : Below w.heap.size w w1 := below_thru (by go_grown) hb
  have hs1 : w.heap.size ≤ w1.heap.size := hB1.size
  have L_l_1 : Hid (IsL w1 .u64 (.slice (some ⟨bz, oz, none⟩) xs.length (k + 1)) xs) := Lib.hid (IsL.below (by repeat (first | (with_reducible exact Hid.out (by with_reducible assumption)) | (with_reducible refine IsL.alloc ?_ _) | (with_reducible refine IsL.drew ?_) | (with_reducible refine IsL.drewN ?_ _) | (with_reducible exact IsL.none))) hb)
  clear hb L_l_0
  have L_a_1 := Lib.hid hl
  clear hl
  go_wp2_with fail
  refine (clamps_is a3 a4 (by repeat (first | (with_reducible exact Hid.out (by with_reducible assumption)) | (with_reducible refine IsL.alloc ?_ _) | (with_reducible refine IsL.drew ?_) | (with_reducible refine IsL.drewN ?_ _) | (with_reducible exact IsL.none)))).mono ?_
  rintro e w2 ⟨v_b, rfl, hl, hb⟩
  have hB2 : Below w.heap.size w w2 := below_thru (by go_grown) hb
  have hs2 : w.heap.size ≤ w2.heap.size := hB2.size
  have L_l_2 : Hid (IsL w2 .u64 (.slice (some ⟨bz, oz, none⟩) xs.length (k + 1)) xs) := Lib.hid (IsL.below (by repeat (first | (with_reducible exact Hid.out (by with_reducible assumption)) | (with_reducible refine IsL.alloc ?_ _) | (with_reducible refine IsL.drew ?_) | (with_reducible refine IsL.drewN ?_ _) | (with_reducible exact IsL.none))) hb)
  have L_a_2 : Hid (IsL w2 .u64 v_a A) := Lib.hid (IsL.below (by repeat (first | (with_reducible exact Hid.out (by with_reducible assumption)) | (with_reducible refine IsL.alloc ?_ _) | (with_reducible refine IsL.drew ?_) | (with_reducible refine IsL.drewN ?_ _) | (with_reducible exact IsL.none))) hb)
  clear hb hB1 hs1 L_l_1 L_a_1
  have L_b_2 := Lib.hid hl
  clear hl
  have L_m := Lib.hid (L_l_2.out.upto (k + 1) (by omega))
  go_wp2_with fail
  refine (clamps_is a5 a6 L_m.out).mono ?_
  rintro e w3 ⟨v_c, rfl, hl, hb⟩
  have hB3 : Below w.heap.size w w3 := below_thru (by go_grown) hb
  have hs3 : w.heap.size ≤ w3.heap.size := hB3.size
  have L_l_3 : Hid (IsL w3 .u64 (.slice (some ⟨bz, oz, none⟩) xs.length (k + 1)) xs) := Lib.hid (IsL.below (by repeat (first | (with_reducible exact Hid.out (by with_reducible assumption)) | (with_reducible refine IsL.alloc ?_ _) | (with_reducible refine IsL.drew ?_) | (with_reducible refine IsL.drewN ?_ _) | (with_reducible exact IsL.none))) hb)
  have L_a_3 : Hid (IsL w3 .u64 v_a A) := Lib.hid (IsL.below (by repeat (first | (with_reducible exact Hid.out (by with_reducible assumption)) | (with_reducible refine IsL.alloc ?_ _) | (with_reducible refine IsL.drew ?_) | (with_reducible refine IsL.drewN ?_ _) | (with_reducible exact IsL.none))) hb)
  have L_b_3 : Hid (IsL w3 .u64 v_b A) := Lib.hid (IsL.below (by repeat (first | (with_reducible exact Hid.out (by with_reducible assumption)) | (with_reducible refine IsL.alloc ?_ _) | (with_reducible refine IsL.drew ?_) | (with_reducible refine IsL.drewN ?_ _) | (with_reducible exact IsL.none))) hb)
  clear hb hB2 hs2 L_l_2 L_a_2 L_b_2
  have L_c_3 := Lib.hid hl
  clear hl
  clear L_m
  obtain ⟨ac, cc, rfl, _⟩ := id L_c_3.out
  obtain ⟨_, hrc, hmc⟩ := L_c_3.out.room
  obtain ⟨bb, oo, hac, hcc⟩ := L_c_3.out.get k (by rw [j5.out]; omega)
  subst hac
  rw [hCk'.out] at hcc
  have L_d0 := L_l_3.out.cut (k + 1) (by omega)
  rw [if_pos rfl] at L_d0
  rw [Nat.sub_self, show xs.length - (k + 1) = 0 by omega] at L_d0
  have L_d := Lib.hid L_d0
  clear L_d0
  have j6 : C.length ≤ 40 := by omega
  go_wp2_with fail
  clear hcc
  refine (clamps_is a7 a8 L_d.out).mono ?_
  rintro e w4 ⟨v_d, rfl, hl, hb⟩
  have hB4 : Below w.heap.size w w4 := below_thru (by go_grown) hb
  have hs4 : w.heap.size ≤ w4.heap.size := hB4.size
  have L_l_4 : Hid (IsL w4 .u64 (.slice (some ⟨bz, oz, none⟩) xs.length (k + 1)) xs) := Lib.hid (IsL.below (by repeat (first | (with_reducible exact Hid.out (by with_reducible assumption)) | (with_reducible refine IsL.alloc ?_ _) | (with_reducible refine IsL.drew ?_) | (with_reducible refine IsL.drewN ?_ _) | (with_reducible exact IsL.none))) hb)
  have L_a_4 : Hid (IsL w4 .u64 v_a A) := Lib.hid (IsL.below (by repeat (first | (with_reducible exact Hid.out (by with_reducible assumption)) | (with_reducible refine IsL.alloc ?_ _) | (with_reducible refine IsL.drew ?_) | (with_reducible refine IsL.drewN ?_ _) | (with_reducible exact IsL.none))) hb)
  have L_b_4 : Hid (IsL w4 .u64 v_b A) := Lib.hid (IsL.below (by repeat (first | (with_reducible exact Hid.out (by with_reducible assumption)) | (with_reducible refine IsL.alloc ?_ _) | (with_reducible refine IsL.drew ?_) | (with_reducible refine IsL.drewN ?_ _) | (with_reducible exact IsL.none))) hb)
  have L_c_4 : Hid (IsL w4 .u64 (.slice (some ⟨bb, oo, none⟩) C.length cc) C) := Lib.hid (IsL.below (by repeat (first | (with_reducible exact Hid.out (by with_reducible assumption)) | (with_reducible refine IsL.alloc ?_ _) | (with_reducible refine IsL.drew ?_) | (with_reducible refine IsL.drewN ?_ _) | (with_reducible exact IsL.none))) hb)
  clear hb hB3 hs3 L_l_3 L_a_3 L_b_3 L_c_3
  have L_d_4 := Lib.hid hl
  clear hl
  clear L_d
  go_wp2_with fail
  refine (same_tt (xs := A) (by repeat (first | (with_reducible exact Hid.out (by with_reducible assumption)) | (with_reducible refine IsL.alloc ?_ _) | (with_reducible refine IsL.drew ?_) | (with_reducible refine IsL.drewN ?_ _) | (with_reducible exact IsL.none))) (by repeat (first | (with_reducible exact Hid.out (by with_reducible assumption)) | (with_reducible refine IsL.alloc ?_ _) | (with_reducible refine IsL.drew ?_) | (with_reducible refine IsL.drewN ?_ _) | (with_reducible exact IsL.none)))).mono ?_
  rintro e w5 ⟨rfl, hb⟩
  have hB5 : Below w.heap.size w w5 := below_thru (by go_grown) hb
  have hs5 : w.heap.size ≤ w5.heap.size := hB5.size
  have L_l_5 : Hid (IsL w5 .u64 (.slice (some ⟨bz, oz, none⟩) xs.length (k + 1)) xs) := Lib.hid (IsL.below (by repeat (first | (with_reducible exact Hid.out (by with_reducible assumption)) | (with_reducible refine IsL.alloc ?_ _) | (with_reducible refine IsL.drew ?_) | (with_reducible refine IsL.drewN ?_ _) | (with_reducible exact IsL.none))) hb)
  have L_a_5 : Hid (IsL w5 .u64 v_a A) := Lib.hid (IsL.below (by repeat (first | (with_reducible exact Hid.out (by with_reducible assumption)) | (with_reducible refine IsL.alloc ?_ _) | (with_reducible refine IsL.drew ?_) | (with_reducible refine IsL.drewN ?_ _) | (with_reducible exact IsL.none))) hb)
  have L_b_5 : Hid (IsL w5 .u64 v_b A) := Lib.hid (IsL.below (by repeat (first | (with_reducible exact Hid.out (by with_reducible assumption)) | (with_reducible refine IsL.alloc ?_ _) | (with_reducible refine IsL.drew ?_) | (with_reducible refine IsL.drewN ?_ _) | (with_reducible exact IsL.none))) hb)
  have L_c_5 : Hid (IsL w5 .u64 (.slice (some ⟨bb, oo, none⟩) C.length cc) C) := Lib.hid (IsL.below (by repeat (first | (with_reducible exact Hid.out (by with_reducible assumption)) | (with_reducible refine IsL.alloc ?_ _) | (with_reducible refine IsL.drew ?_) | (with_reducible refine IsL.drewN ?_ _) | (with_reducible exact IsL.none))) hb)
  have L_d_5 : Hid (IsL w5 .u64 v_d D) := Lib.hid (IsL.below (by repeat (first | (with_reducible exact Hid.out (by with_reducible assumption)) | (with_reducible refine IsL.alloc ?_ _) | (with_reducible refine IsL.drew ?_) | (with_reducible refine IsL.drewN ?_ _) | (with_reducible exact IsL.none))) hb)
  clear hb hB4 hs4 L_l_4 L_a_4 L_b_4 L_c_4 L_d_4
  go_wp2_with (first | (at_builtin; refine wpList_append_built rfl _ _ 22 rfl 26 ti (.int .u64 0) 8 .u64 Try.underlying22 hin hz0 hz1 hz2 rfl [] C _ (.slice (some ⟨bb, oo, none⟩) C.length cc) _ _ _ rfl rfl rfl rfl rfl rfl L_c_5.out (by unfold maxLen; simp <;> omega) (by simp <;> omega) ?_; intro v_m wm hown hbm) | (at_builtin; refine wpList_append_onto rfl _ _ 22 rfl w5.heap.size 26 ti (.int .u64 0) 8 .u64 Try.underlying22 hin hz0 hz1 hz2 rfl v_m ([] ++ C) D v_d rfl rfl hown (IsL.below L_d_5.out hbm) (by unfold maxLen; simp <;> omega) (by simp <;> omega) hbm.size ?_; intro v_n w6 hown2 hbn))
  have hb := hbm.trans hbn
  have L_n : Hid (IsL w6 .u64 v_n A) := Lib.hid (by rw [b2.out]; exact IsL.own hown2 rfl)
  clear hown hown2 hbm hbn
  have hB6 : Below w.heap.size w w6 := below_thru (by go_grown) hb
  have hs6 : w.heap.size ≤ w6.heap.size := hB6.size
  have L_l_6 : Hid (IsL w6 .u64 (.slice (some ⟨bz, oz, none⟩) xs.length (k + 1)) xs) := Lib.hid (IsL.below (by repeat (first | (with_reducible exact Hid.out (by with_reducible assumption)) | (with_reducible refine IsL.alloc ?_ _) | (with_reducible refine IsL.drew ?_) | (with_reducible refine IsL.drewN ?_ _) | (with_reducible exact IsL.none))) hb)
  have L_a_6 : Hid (IsL w6 .u64 v_a A) := Lib.hid (IsL.below (by repeat (first | (with_reducible exact Hid.out (by with_reducible assumption)) | (with_reducible refine IsL.alloc ?_ _) | (with_reducible refine IsL.drew ?_) | (with_reducible refine IsL.drewN ?_ _) | (with_reducible exact IsL.none))) hb)
  have L_b_6 : Hid (IsL w6 .u64 v_b A) := Lib.hid (IsL.below (by repeat (first | (with_reducible exact Hid.out (by with_reducible assumption)) | (with_reducible refine IsL.alloc ?_ _) | (with_reducible refine IsL.drew ?_) | (with_reducible refine IsL.drewN ?_ _) | (with_reducible exact IsL.none))) hb)
  have L_c_6 : Hid (IsL w6 .u64 (.slice (some ⟨bb, oo, none⟩) C.length cc) C) := Lib.hid (IsL.below (by repeat (first | (with_reducible exact Hid.out (by with_reducible assumption)) | (with_reducible refine IsL.alloc ?_ _) | (with_reducible refine IsL.drew ?_) | (with_reducible refine IsL.drewN ?_ _) | (with_reducible exact IsL.none))) hb)
  have L_d_6 : Hid (IsL w6 .u64 v_d D) := Lib.hid (IsL.below (by repeat (first | (with_reducible exact Hid.out (by with_reducible assumption)) | (with_reducible refine IsL.alloc ?_ _) | (with_reducible refine IsL.drew ?_) | (with_reducible refine IsL.drewN ?_ _) | (with_reducible exact IsL.none))) hb)
  clear hb hB5 hs5 L_l_5 L_a_5 L_b_5 L_c_5 L_d_5
  have L_n_6 := L_n
  clear L_n
  go_wp2_with fail
  refine (same_tt (xs := A) (by repeat (first | (with_reducible exact Hid.out (by with_reducible assumption)) | (with_reducible refine IsL.alloc ?_ _) | (with_reducible refine IsL.drew ?_) | (with_reducible refine IsL.drewN ?_ _) | (with_reducible exact IsL.none))) (by repeat (first | (with_reducible exact Hid.out (by with_reducible assumption)) | (with_reducible refine IsL.alloc ?_ _) | (with_reducible refine IsL.drew ?_) | (with_reducible refine IsL.drewN ?_ _) | (with_reducible exact IsL.none)))).mono ?_
  rintro e w7 ⟨rfl, hb⟩
  have hB7 : Below w.heap.size w w7 := below_thru (by go_grown) hb
  have hs7 : w.heap.size ≤ w7.heap.size := hB7.size
  have L_l_7 : Hid (IsL w7 .u64 (.slice (some ⟨bz, oz, none⟩) xs.length (k + 1)) xs) := Lib.hid (IsL.below (by repeat (first | (with_reducible exact Hid.out (by with_reducible assumption)) | (with_reducible refine IsL.alloc ?_ _) | (with_reducible refine IsL.drew ?_) | (with_reducible refine IsL.drewN ?_ _) | (with_reducible exact IsL.none))) hb)
  have L_a_7 : Hid (IsL w7 .u64 v_a A) := Lib.hid (IsL.below (by repeat (first | (with_reducible exact Hid.out (by with_reducible assumption)) | (with_reducible refine IsL.alloc ?_ _) | (with_reducible refine IsL.drew ?_) | (with_reducible refine IsL.drewN ?_ _) | (with_reducible exact IsL.none))) hb)
  have L_b_7 : Hid (IsL w7 .u64 v_b A) := Lib.hid (IsL.below (by repeat (first | (with_reducible exact Hid.out (by with_reducible assumption)) | (with_reducible refine IsL.alloc ?_ _) | (with_reducible refine IsL.drew ?_) | (with_reducible refine IsL.drewN ?_ _) | (with_reducible exact IsL.none))) hb)
  have L_c_7 : Hid (IsL w7 .u64 (.slice (some ⟨bb, oo, none⟩) C.length cc) C) := Lib.hid (IsL.below (by repeat (first | (with_reducible exact Hid.out (by with_reducible assumption)) | (with_reducible refine IsL.alloc ?_ _) | (with_reducible refine IsL.drew ?_) | (with_reducible refine IsL.drewN ?_ _) | (with_reducible exact IsL.none))) hb)
  have L_d_7 : Hid (IsL w7 .u64 v_d D) := Lib.hid (IsL.below (by repeat (first | (with_reducible exact Hid.out (by with_reducible assumption)) | (with_reducible refine IsL.alloc ?_ _) | (with_reducible refine IsL.drew ?_) | (with_reducible refine IsL.drewN ?_ _) | (with_reducible exact IsL.none))) hb)
  have L_n_7 : Hid (IsL w7 .u64 v_n A) := Lib.hid (IsL.below (by repeat (first | (with_reducible exact Hid.out (by with_reducible assumption)) | (with_reducible refine IsL.alloc ?_ _) | (with_reducible refine IsL.drew ?_) | (with_reducible refine IsL.drewN ?_ _) | (with_reducible exact IsL.none))) hb)
  clear hb hB6 hs6 L_l_6 L_a_6 L_b_6 L_c_6 L_d_6 L_n_6
  clear L_n_7
  clear L_d_7
  clear L_c_7
  clear L_b_7
  go_wp2_with fail
  refine (back_is a9 a4 (by repeat (first | (with_reducible exact Hid.out (by with_reducible assumption)) | (with_reducible refine IsL.alloc ?_ _) | (with_reducible refine IsL.drew ?_) | (with_reducible refine IsL.drewN ?_ _) | (with_reducible exact IsL.none)))).mono ?_
  rintro e w8 ⟨v_e, rfl, hl, hb⟩
  have hB8 : Below w.heap.size w w8 := below_thru (by go_grown) hb
  have hs8 : w.heap.size ≤ w8.heap.size := hB8.size
  have L_l_8 : Hid (IsL w8 .u64 (.slice (some ⟨bz, oz, none⟩) xs.length (k + 1)) xs) := Lib.hid (IsL.below (by repeat (first | (with_reducible exact Hid.out (by with_reducible assumption)) | (with_reducible refine IsL.alloc ?_ _) | (with_reducible refine IsL.drew ?_) | (with_reducible refine IsL.drewN ?_ _) | (with_reducible exact IsL.none))) hb)
  have L_a_8 : Hid (IsL w8 .u64 v_a A) := Lib.hid (IsL.below (by repeat (first | (with_reducible exact Hid.out (by with_reducible assumption)) | (with_reducible refine IsL.alloc ?_ _) | (with_reducible refine IsL.drew ?_) | (with_reducible refine IsL.drewN ?_ _) | (with_reducible exact IsL.none))) hb)
  clear hb hB7 hs7 L_l_7 L_a_7
  have L_e_8 := Lib.hid hl
  clear hl
  obtain ⟨ae, ce, rfl, _⟩ := id L_e_8.out
  clear L_e_8
  go_wp2_with (at_builtin; refine wpList_append_built rfl _ _ 22 rfl 26 ti (.int .u64 0) 8 .u64 Try.underlying22 hin hz0 hz1 hz2 rfl [now] xs _ (.slice (some ⟨bz, oz, none⟩) xs.length (k + 1)) _ _ _ rfl rfl rfl rfl rfl rfl L_l_8.out (by unfold maxLen; simp; omega) (by simp; omega) ?_; intro v_r w9 hown hb)
  have hB9 : Below w.heap.size w w9 := below_thru (by go_grown) hb
  have hs9 : w.heap.size ≤ w9.heap.size := hB9.size
  have L_l_9 : Hid (IsL w9 .u64 (.slice (some ⟨bz, oz, none⟩) xs.length (k + 1)) xs) := Lib.hid (IsL.below (by repeat (first | (with_reducible exact Hid.out (by with_reducible assumption)) | (with_reducible refine IsL.alloc ?_ _) | (with_reducible refine IsL.drew ?_) | (with_reducible refine IsL.drewN ?_ _) | (with_reducible exact IsL.none))) hb)
  have L_a_9 : Hid (IsL w9 .u64 v_a A) := Lib.hid (IsL.below (by repeat (first | (with_reducible exact Hid.out (by with_reducible assumption)) | (with_reducible refine IsL.alloc ?_ _) | (with_reducible refine IsL.drew ?_) | (with_reducible refine IsL.drewN ?_ _) | (with_reducible exact IsL.none))) hb)
  clear hb hB8 hs8 L_l_8 L_a_8
  have L_r_9 := Lib.hid (IsL.own hown rfl)
  clear hown
  go_wp2_with fail
  refine (rising_b b1 (by repeat (first | (with_reducible exact Hid.out (by with_reducible assumption)) | (with_reducible refine IsL.alloc ?_ _) | (with_reducible refine IsL.drew ?_) | (with_reducible refine IsL.drewN ?_ _) | (with_reducible exact IsL.none)))).mono ?_
  rintro e w10 ⟨rfl, hb⟩
  have hB10 : Below w.heap.size w w10 := below_thru (by go_grown) hb
  have hs10 : w.heap.size ≤ w10.heap.size := hB10.size
  have L_l_10 : Hid (IsL w10 .u64 (.slice (some ⟨bz, oz, none⟩) xs.length (k + 1)) xs) := Lib.hid (IsL.below (by repeat (first | (with_reducible exact Hid.out (by with_reducible assumption)) | (with_reducible refine IsL.alloc ?_ _) | (with_reducible refine IsL.drew ?_) | (with_reducible refine IsL.drewN ?_ _) | (with_reducible exact IsL.none))) hb)
  have L_a_10 : Hid (IsL w10 .u64 v_a A) := Lib.hid (IsL.below (by repeat (first | (with_reducible exact Hid.out (by with_reducible assumption)) | (with_reducible refine IsL.alloc ?_ _) | (with_reducible refine IsL.drew ?_) | (with_reducible refine IsL.drewN ?_ _) | (with_reducible exact IsL.none))) hb)
  have L_r_10 : Hid (IsL w10 .u64 v_r ([now] ++ xs)) := Lib.hid (IsL.below (by repeat (first | (with_reducible exact Hid.out (by with_reducible assumption)) | (with_reducible refine IsL.alloc ?_ _) | (with_reducible refine IsL.drew ?_) | (with_reducible refine IsL.drewN ?_ _) | (with_reducible exact IsL.none))) hb)
  clear hb hB9 hs9 L_l_9 L_a_9 L_r_9
  clear L_r_10
  rw [b3.out] at L_a_10
  go_wp2_with fail
  refine (same_tt (xs := xs) (by repeat (first | (with_reducible exact Hid.out (by with_reducible assumption)) | (with_reducible refine IsL.alloc ?_ _) | (with_reducible refine IsL.drew ?_) | (with_reducible refine IsL.drewN ?_ _) | (with_reducible exact IsL.none))) (by repeat (first | (with_reducible exact Hid.out (by with_reducible assumption)) | (with_reducible refine IsL.alloc ?_ _) | (with_reducible refine IsL.drew ?_) | (with_reducible refine IsL.drewN ?_ _) | (with_reducible exact IsL.none)))).mono ?_
  rintro e w11 ⟨rfl, hb⟩
  have hB11 : Below w.heap.size w w11 := below_thru (by go_grown) hb
  have hs11 : w.heap.size ≤ w11.heap.size := hB11.size
  have L_l_11 : Hid (IsL w11 .u64 (.slice (some ⟨bz, oz, none⟩) xs.length (k + 1)) xs) := Lib.hid (IsL.below (by repeat (first | (with_reducible exact Hid.out (by with_reducible assumption)) | (with_reducible refine IsL.alloc ?_ _) | (with_reducible refine IsL.drew ?_) | (with_reducible refine IsL.drewN ?_ _) | (with_reducible exact IsL.none))) hb)
  have L_a_11 : Hid (IsL w11 .u64 v_a xs) := Lib.hid (IsL.below (by repeat (first | (with_reducible exact Hid.out (by with_reducible assumption)) | (with_reducible refine IsL.alloc ?_ _) | (with_reducible refine IsL.drew ?_) | (with_reducible refine IsL.drewN ?_ _) | (with_reducible exact IsL.none))) hb)
  clear hb hB10 hs10 L_l_10 L_a_10
  go_wp2_with fail
  refine (alive02_any _).mono ?_
  rintro e w12 ⟨rfl, hb⟩
  have hB12 : Below w.heap.size w w12 := below_thru (by go_grown) hb
  have hs12 : w.heap.size ≤ w12.heap.size := hB12.size
  have L_l_12 : Hid (IsL w12 .u64 (.slice (some ⟨bz, oz, none⟩) xs.length (k + 1)) xs) := Lib.hid (IsL.below (by repeat (first | (with_reducible exact Hid.out (by with_reducible assumption)) | (with_reducible refine IsL.alloc ?_ _) | (with_reducible refine IsL.drew ?_) | (with_reducible refine IsL.drewN ?_ _) | (with_reducible exact IsL.none))) hb)
  have L_a_12 : Hid (IsL w12 .u64 v_a xs) := Lib.hid (IsL.below (by repeat (first | (with_reducible exact Hid.out (by with_reducible assumption)) | (with_reducible refine IsL.alloc ?_ _) | (with_reducible refine IsL.drew ?_) | (with_reducible refine IsL.drewN ?_ _) | (with_reducible exact IsL.none))) hb)
  clear hb hB11 hs11 L_l_11 L_a_11
  go_wp2_with fail
  go_returns
  exact ⟨rfl, hB12⟩

set_option maxRecDepth 100000 in
set_option maxHeartbeats 3200000 in
theorem parts_qf (now : Int) (xs : List Int) (at0 : Option Addr) (cap : Nat) (w : World) (hi : IsL w .u64 (.slice at0 xs.length cap) xs) (k : Nat) (hk : k + 1 ≤ xs.length) (hcap : cap = k + 1) (hl : xs.length ≤ 40) (hris : risB ([now] ++ xs) = false) :
    Calls Try.prog 7 #[.int .u64 now, .slice at0 xs.length cap, .int .i64 ((k + 1 : Nat) : Int)] w fun e w' => e = .returned (.bool true) ∧ Below w.heap.size w w' := by
  obtain ⟨_, hr, hm⟩ := hi.room
  obtain ⟨bz, oz, hz, _⟩ := hi.get 0 (by omega)
  subst hz
  subst hcap
  have L_l_0 := Lib.hid hi
  clear hi
  have d1 : decide ((40 : Int) < (xs.length : Int)) = false := decide_eq_false (by omega)
  have d2 : decide (((k + 1 : Nat) : Int) < 0) = false := decide_eq_false (by omega)
  have d2' : decide ((k : Int) + 1 < 0) = false := decide_eq_false (by omega)
  have d3 : decide ((xs.length : Int) < ((k + 1 : Nat) : Int)) = false := decide_eq_false (by omega)
  have d3' : decide ((xs.length : Int) < (k : Int) + 1) = false := decide_eq_false (by omega)
  have i0 : (0 : Int) ≤ (k : Int) + 1 := by omega
  have i1 : (k : Int) + 1 ≤ ((k : Int) + 1) := by omega
  have i2 : (k : Int) + 1 ≤ (xs.length : Int) := by omega
  have i3 : ((k : Int) + 1).toNat = k + 1 := by omega
  obtain ⟨A, hA⟩ : ∃ A, cl now xs xs.length = A := ⟨_, rfl⟩
  obtain ⟨C, hC⟩ : ∃ C, cl now (xs.take (k + 1)) (k + 1) = C := ⟨_, rfl⟩
  obtain ⟨s, hS⟩ : ∃ s, gr now (xs.take (k + 1)) = s := ⟨_, rfl⟩
  obtain ⟨D, hD⟩ : ∃ D, cl s (xs.drop (k + 1)) (xs.length - (k + 1)) = D := ⟨_, rfl⟩
  have hAl : A.length = xs.length := by rw [← hA, cl_len]
  have hCl : C.length = (k + 1) := by rw [← hC, cl_len]
  have hDl : D.length = xs.length - (k + 1) := by rw [← hD, cl_len]
  have hAr : risB ([now] ++ A) = true := by rw [← hA]; exact cl_rises now xs
  have hsplit : A = C ++ D := by rw [← hA, ← hC, ← hD, ← hS]; exact cl_parts now xs (k + 1) (by omega)
  have ht : (xs.take (k + 1)).length = (k + 1) := by rw [List.length_take]; omega
  have a1 := Lib.hid (show clV now xs = A by rw [clV_short (by omega)]; exact hA)
  have a2 := Lib.hid (show clE xs = 0 from clE_short (by omega))
  have a3 := Lib.hid (show clV now A = A by rw [clV_short (by omega)]; exact cl_of_rising now A hAr)
  have a4 := Lib.hid (show clE A = 0 from clE_short (by omega))
  have a5 := Lib.hid (show clV now (xs.take (k + 1)) = C by rw [clV_short (by omega), ht]; exact hC)
  have a6 := Lib.hid (show clE (xs.take (k + 1)) = 0 from clE_short (by omega))
  have a7 := Lib.hid (show clV s (xs.drop (k + 1)) = D by rw [clV_short (by rw [List.length_drop]; omega), List.length_drop]; exact hD)
  have a8 := Lib.hid (show clE (xs.drop (k + 1)) = 0 from clE_short (by rw [List.length_drop]; omega))
  have a9 := Lib.hid (show bkL now A = [] by rw [bkL_short (by omega)]; exact bk_of_rising now A hAr _ (Nat.le_refl _))
  have b1 := Lib.hid hris
  have b2 := Lib.hid hsplit
  have hCk : nth C k = s := by rw [← hC, ← hS]; exact (cl_nth now (xs.take (k + 1)) (k + 1) k (by omega)).trans (by rw [List.take_take, Nat.min_self])
  have hCk' := Lib.hid hCk
  have j0 : decide ((0 : Int) < (C.length : Int)) = true := decide_eq_true (by omega)
  have j1 : (0 : Int) ≤ (C.length : Int) - 1 := by omega
  have j2 : (C.length : Int) - 1 < (C.length : Int) := by omega
  have j3 : ((C.length : Int) - 1).toNat = k := by omega
  have j4 : C.length = k + 1 := hCl
  have l2 : C.length ≤ 40 := by omega
  have l4 : C.length + D.length ≤ 40 := by omega
  have l1 : A.length ≤ 40 := by omega
  have l3 : D.length ≤ 40 := by omega
  have hAl' := Lib.hid hAl
  have j5 := Lib.hid j4
  clear hA hC hS hD hAl hCl hDl hAr hsplit ht hris hCk j4
  obtain ⟨ti, hin, hz0, hz1, hz2⟩ := info_parts info_u64
  go_enter Try.func7, Try.ntmps7
  go_wp2_with fail
  refine (clamps_is a1 a2 (by repeat (first | (with_reducible exact Hid.out (by with_reducible assumption)) | (with_reducible refine IsL.alloc ?_ _) | (with_reducible refine IsL.drew ?_) | (with_reducible refine IsL.drewN ?_ _) | (with_reducible exact IsL.none)))).mono ?_
  rintro e w1 ⟨v_a, rfl, hl, hb⟩
  have hB1 : Below w.heap.size w w1 := below_thru (by go_grown) hb
  have hs1 : w.heap.size ≤ w1.heap.size := hB1.size
  have L_l_1 : Hid (IsL w1 .u64 (.slice (some ⟨bz, oz, none⟩) xs.length (k + 1)) xs) := Lib.hid (IsL.below (by repeat (first | (with_reducible exact Hid.out (by with_reducible assumption)) | (with_reducible refine IsL.alloc ?_ _) | (with_reducible refine IsL.drew ?_) | (with_reducible refine IsL.drewN ?_ _) | (with_reducible exact IsL.none))) hb)
  clear hb L_l_0
  have L_a_1 := Lib.hid hl
  clear hl
  go_wp2_with fail
  refine (clamps_is a3 a4 (by repeat (first | (with_reducible exact Hid.out (by with_reducible assumption)) | (with_reducible refine IsL.alloc ?_ _) | (with_reducible refine IsL.drew ?_) | (with_reducible refine IsL.drewN ?_ _) | (with_reducible exact IsL.none)))).mono ?_
  rintro e w2 ⟨v_b, rfl, hl, hb⟩
  have hB2 : Below w.heap.size w w2 := below_thru (by go_grown) hb
  have hs2 : w.heap.size ≤ w2.heap.size := hB2.size
  have L_l_2 : Hid (IsL w2 .u64 (.slice (some ⟨bz, oz, none⟩) xs.length (k + 1)) xs) := Lib.hid (IsL.below (by repeat (first | (with_reducible exact Hid.out (by with_reducible assumption)) | (with_reducible refine IsL.alloc ?_ _) | (with_reducible refine IsL.drew ?_) | (with_reducible refine IsL.drewN ?_ _) | (with_reducible exact IsL.none))) hb)
  have L_a_2 : Hid (IsL w2 .u64 v_a A) := Lib.hid (IsL.below (by repeat (first | (with_reducible exact Hid.out (by with_reducible assumption)) | (with_reducible refine IsL.alloc ?_ _) | (with_reducible refine IsL.drew ?_) | (with_reducible refine IsL.drewN ?_ _) | (with_reducible exact IsL.none))) hb)
  clear hb hB1 hs1 L_l_1 L_a_1
  have L_b_2 := Lib.hid hl
  clear hl
  have L_m := Lib.hid (L_l_2.out.upto (k + 1) (by omega))
  go_wp2_with fail
  refine (clamps_is a5 a6 L_m.out).mono ?_
  rintro e w3 ⟨v_c, rfl, hl, hb⟩
  have hB3 : Below w.heap.size w w3 := below_thru (by go_grown) hb
  have hs3 : w.heap.size ≤ w3.heap.size := hB3.size
  have L_l_3 : Hid (IsL w3 .u64 (.slice (some ⟨bz, oz, none⟩) xs.length (k + 1)) xs) := Lib.hid (IsL.below (by repeat (first | (with_reducible exact Hid.out (by with_reducible assumption)) | (with_reducible refine IsL.alloc ?_ _) | (with_reducible refine IsL.drew ?_) | (with_reducible refine IsL.drewN ?_ _) | (with_reducible exact IsL.none))) hb)
  have L_a_3 : Hid (IsL w3 .u64 v_a A) := Lib.hid (IsL.below (by repeat (first | (with_reducible exact Hid.out (by with_reducible assumption)) | (with_reducible refine IsL.alloc ?_ _) | (with_reducible refine IsL.drew ?_) | (with_reducible refine IsL.drewN ?_ _) | (with_reducible exact IsL.none))) hb)
  have L_b_3 : Hid (IsL w3 .u64 v_b A) := Lib.hid (IsL.below (by repeat (first | (with_reducible exact Hid.out (by with_reducible assumption)) | (with_reducible refine IsL.alloc ?_ _) | (with_reducible refine IsL.drew ?_) | (with_reducible refine IsL.drewN ?_ _) | (with_reducible exact IsL.none))) hb)
  clear hb hB2 hs2 L_l_2 L_a_2 L_b_2
  have L_c_3 := Lib.hid hl
  clear hl
  clear L_m
  obtain ⟨ac, cc, rfl, _⟩ := id L_c_3.out
  obtain ⟨_, hrc, hmc⟩ := L_c_3.out.room
  obtain ⟨bb, oo, hac, hcc⟩ := L_c_3.out.get k (by rw [j5.out]; omega)
  subst hac
  rw [hCk'.out] at hcc
  have L_d0 := L_l_3.out.cut (k + 1) (by omega)
  rw [if_pos rfl] at L_d0
  rw [Nat.sub_self, show xs.length - (k + 1) = 0 by omega] at L_d0
  have L_d := Lib.hid L_d0
  clear L_d0
  have j6 : C.length ≤ 40 := by omega
  go_wp2_with fail
  clear hcc
  refine (clamps_is a7 a8 L_d.out).mono ?_
  rintro e w4 ⟨v_d, rfl, hl, hb⟩
  have hB4 : Below w.heap.size w w4 := below_thru (by go_grown) hb
  have hs4 : w.heap.size ≤ w4.heap.size := hB4.size
  have L_l_4 : Hid (IsL w4 .u64 (.slice (some ⟨bz, oz, none⟩) xs.length (k + 1)) xs) := Lib.hid (IsL.below (by repeat (first | (with_reducible exact Hid.out (by with_reducible assumption)) | (with_reducible refine IsL.alloc ?_ _) | (with_reducible refine IsL.drew ?_) | (with_reducible refine IsL.drewN ?_ _) | (with_reducible exact IsL.none))) hb)
  have L_a_4 : Hid (IsL w4 .u64 v_a A) := Lib.hid (IsL.below (by repeat (first | (with_reducible exact Hid.out (by with_reducible assumption)) | (with_reducible refine IsL.alloc ?_ _) | (with_reducible refine IsL.drew ?_) | (with_reducible refine IsL.drewN ?_ _) | (with_reducible exact IsL.none))) hb)
  have L_b_4 : Hid (IsL w4 .u64 v_b A) := Lib.hid (IsL.below (by repeat (first | (with_reducible exact Hid.out (by with_reducible assumption)) | (with_reducible refine IsL.alloc ?_ _) | (with_reducible refine IsL.drew ?_) | (with_reducible refine IsL.drewN ?_ _) | (with_reducible exact IsL.none))) hb)
  have L_c_4 : Hid (IsL w4 .u64 (.slice (some ⟨bb, oo, none⟩) C.length cc) C) := Lib.hid (IsL.below (by repeat (first | (with_reducible exact Hid.out (by with_reducible assumption)) | (with_reducible refine IsL.alloc ?_ _) | (with_reducible refine IsL.drew ?_) | (with_reducible refine IsL.drewN ?_ _) | (with_reducible exact IsL.none))) hb)
  clear hb hB3 hs3 L_l_3 L_a_3 L_b_3 L_c_3
  have L_d_4 := Lib.hid hl
  clear hl
  clear L_d
  go_wp2_with fail
  refine (same_tt (xs := A) (by repeat (first | (with_reducible exact Hid.out (by with_reducible assumption)) | (with_reducible refine IsL.alloc ?_ _) | (with_reducible refine IsL.drew ?_) | (with_reducible refine IsL.drewN ?_ _) | (with_reducible exact IsL.none))) (by repeat (first | (with_reducible exact Hid.out (by with_reducible assumption)) | (with_reducible refine IsL.alloc ?_ _) | (with_reducible refine IsL.drew ?_) | (with_reducible refine IsL.drewN ?_ _) | (with_reducible exact IsL.none)))).mono ?_
  rintro e w5 ⟨rfl, hb⟩
  have hB5 : Below w.heap.size w w5 := below_thru (by go_grown) hb
  have hs5 : w.heap.size ≤ w5.heap.size := hB5.size
  have L_l_5 : Hid (IsL w5 .u64 (.slice (some ⟨bz, oz, none⟩) xs.length (k + 1)) xs) := Lib.hid (IsL.below (by repeat (first | (with_reducible exact Hid.out (by with_reducible assumption)) | (with_reducible refine IsL.alloc ?_ _) | (with_reducible refine IsL.drew ?_) | (with_reducible refine IsL.drewN ?_ _) | (with_reducible exact IsL.none))) hb)
  have L_a_5 : Hid (IsL w5 .u64 v_a A) := Lib.hid (IsL.below (by repeat (first | (with_reducible exact Hid.out (by with_reducible assumption)) | (with_reducible refine IsL.alloc ?_ _) | (with_reducible refine IsL.drew ?_) | (with_reducible refine IsL.drewN ?_ _) | (with_reducible exact IsL.none))) hb)
  have L_b_5 : Hid (IsL w5 .u64 v_b A) := Lib.hid (IsL.below (by repeat (first | (with_reducible exact Hid.out (by with_reducible assumption)) | (with_reducible refine IsL.alloc ?_ _) | (with_reducible refine IsL.drew ?_) | (with_reducible refine IsL.drewN ?_ _) | (with_reducible exact IsL.none))) hb)
  have L_c_5 : Hid (IsL w5 .u64 (.slice (some ⟨bb, oo, none⟩) C.length cc) C) := Lib.hid (IsL.below (by repeat (first | (with_reducible exact Hid.out (by with_reducible assumption)) | (with_reducible refine IsL.alloc ?_ _) | (with_reducible refine IsL.drew ?_) | (with_reducible refine IsL.drewN ?_ _) | (with_reducible exact IsL.none))) hb)
  have L_d_5 : Hid (IsL w5 .u64 v_d D) := Lib.hid (IsL.below (by repeat (first | (with_reducible exact Hid.out (by with_reducible assumption)) | (with_reducible refine IsL.alloc ?_ _) | (with_reducible refine IsL.drew ?_) | (with_reducible refine IsL.drewN ?_ _) | (with_reducible exact IsL.none))) hb)
  clear hb hB4 hs4 L_l_4 L_a_4 L_b_4 L_c_4 L_d_4
  go_wp2_with (first | (at_builtin; refine wpList_append_built rfl _ _ 22 rfl 26 ti (.int .u64 0) 8 .u64 Try.underlying22 hin hz0 hz1 hz2 rfl [] C _ (.slice (some ⟨bb, oo, none⟩) C.length cc) _ _ _ rfl rfl rfl rfl rfl rfl L_c_5.out (by unfold maxLen; simp <;> omega) (by simp <;> omega) ?_; intro v_m wm hown hbm) | (at_builtin; refine wpList_append_onto rfl _ _ 22 rfl w5.heap.size 26 ti (.int .u64 0) 8 .u64 Try.underlying22 hin hz0 hz1 hz2 rfl v_m ([] ++ C) D v_d rfl rfl hown (IsL.below L_d_5.out hbm) (by unfold maxLen; simp <;> omega) (by simp <;> omega) hbm.size ?_; intro v_n w6 hown2 hbn))
  have hb := hbm.trans hbn
  have L_n : Hid (IsL w6 .u64 v_n A) := Lib.hid (by rw [b2.out]; exact IsL.own hown2 rfl)
  clear hown hown2 hbm hbn
  have hB6 : Below w.heap.size w w6 := below_thru (by go_grown) hb
  have hs6 : w.heap.size ≤ w6.heap.size := hB6.size
  have L_l_6 : Hid (IsL w6 .u64 (.slice (some ⟨bz, oz, none⟩) xs.length (k + 1)) xs) := Lib.hid (IsL.below (by repeat (first | (with_reducible exact Hid.out (by with_reducible assumption)) | (with_reducible refine IsL.alloc ?_ _) | (with_reducible refine IsL.drew ?_) | (with_reducible refine IsL.drewN ?_ _) | (with_reducible exact IsL.none))) hb)
  have L_a_6 : Hid (IsL w6 .u64 v_a A) := Lib.hid (IsL.below (by repeat (first | (with_reducible exact Hid.out (by with_reducible assumption)) | (with_reducible refine IsL.alloc ?_ _) | (with_reducible refine IsL.drew ?_) | (with_reducible refine IsL.drewN ?_ _) | (with_reducible exact IsL.none))) hb)
  have L_b_6 : Hid (IsL w6 .u64 v_b A) := Lib.hid (IsL.below (by repeat (first | (with_reducible exact Hid.out (by with_reducible assumption)) | (with_reducible refine IsL.alloc ?_ _) | (with_reducible refine IsL.drew ?_) | (with_reducible refine IsL.drewN ?_ _) | (with_reducible exact IsL.none))) hb)
  have L_c_6 : Hid (IsL w6 .u64 (.slice (some ⟨bb, oo, none⟩) C.length cc) C) := Lib.hid (IsL.below (by repeat (first | (with_reducible exact Hid.out (by with_reducible assumption)) | (with_reducible refine IsL.alloc ?_ _) | (with_reducible refine IsL.drew ?_) | (with_reducible refine IsL.drewN ?_ _) | (with_reducible exact IsL.none))) hb)
  have L_d_6 : Hid (IsL w6 .u64 v_d D) := Lib.hid (IsL.below (by repeat (first | (with_reducible exact Hid.out (by with_reducible assumption)) | (with_reducible refine IsL.alloc ?_ _) | (with_reducible refine IsL.drew ?_) | (with_reducible refine IsL.drewN ?_ _) | (with_reducible exact IsL.none))) hb)
  clear hb hB5 hs5 L_l_5 L_a_5 L_b_5 L_c_5 L_d_5
  have L_n_6 := L_n
  clear L_n
  go_wp2_with fail
  refine (same_tt (xs := A) (by repeat (first | (with_reducible exact Hid.out (by with_reducible assumption)) | (with_reducible refine IsL.alloc ?_ _) | (with_reducible refine IsL.drew ?_) | (with_reducible refine IsL.drewN ?_ _) | (with_reducible exact IsL.none))) (by repeat (first | (with_reducible exact Hid.out (by with_reducible assumption)) | (with_reducible refine IsL.alloc ?_ _) | (with_reducible refine IsL.drew ?_) | (with_reducible refine IsL.drewN ?_ _) | (with_reducible exact IsL.none)))).mono ?_
  rintro e w7 ⟨rfl, hb⟩
  have hB7 : Below w.heap.size w w7 := below_thru (by go_grown) hb
  have hs7 : w.heap.size ≤ w7.heap.size := hB7.size
  have L_l_7 : Hid (IsL w7 .u64 (.slice (some ⟨bz, oz, none⟩) xs.length (k + 1)) xs) := Lib.hid (IsL.below (by repeat (first | (with_reducible exact Hid.out (by with_reducible assumption)) | (with_reducible refine IsL.alloc ?_ _) | (with_reducible refine IsL.drew ?_) | (with_reducible refine IsL.drewN ?_ _) | (with_reducible exact IsL.none))) hb)
  have L_a_7 : Hid (IsL w7 .u64 v_a A) := Lib.hid (IsL.below (by repeat (first | (with_reducible exact Hid.out (by with_reducible assumption)) | (with_reducible refine IsL.alloc ?_ _) | (with_reducible refine IsL.drew ?_) | (with_reducible refine IsL.drewN ?_ _) | (with_reducible exact IsL.none))) hb)
  have L_b_7 : Hid (IsL w7 .u64 v_b A) := Lib.hid (IsL.below (by repeat (first | (with_reducible exact Hid.out (by with_reducible assumption)) | (with_reducible refine IsL.alloc ?_ _) | (with_reducible refine IsL.drew ?_) | (with_reducible refine IsL.drewN ?_ _) | (with_reducible exact IsL.none))) hb)
  have L_c_7 : Hid (IsL w7 .u64 (.slice (some ⟨bb, oo, none⟩) C.length cc) C) := Lib.hid (IsL.below (by repeat (first | (with_reducible exact Hid.out (by with_reducible assumption)) | (with_reducible refine IsL.alloc ?_ _) | (with_reducible refine IsL.drew ?_) | (with_reducible refine IsL.drewN ?_ _) | (with_reducible exact IsL.none))) hb)
  have L_d_7 : Hid (IsL w7 .u64 v_d D) := Lib.hid (IsL.below (by repeat (first | (with_reducible exact Hid.out (by with_reducible assumption)) | (with_reducible refine IsL.alloc ?_ _) | (with_reducible refine IsL.drew ?_) | (with_reducible refine IsL.drewN ?_ _) | (with_reducible exact IsL.none))) hb)
  have L_n_7 : Hid (IsL w7 .u64 v_n A) := Lib.hid (IsL.below (by repeat (first | (with_reducible exact Hid.out (by with_reducible assumption)) | (with_reducible refine IsL.alloc ?_ _) | (with_reducible refine IsL.drew ?_) | (with_reducible refine IsL.drewN ?_ _) | (with_reducible exact IsL.none))) hb)
  clear hb hB6 hs6 L_l_6 L_a_6 L_b_6 L_c_6 L_d_6 L_n_6
  clear L_n_7
  clear L_d_7
  clear L_c_7
  clear L_b_7
  go_wp2_with fail
  refine (back_is a9 a4 (by repeat (first | (with_reducible exact Hid.out (by with_reducible assumption)) | (with_reducible refine IsL.alloc ?_ _) | (with_reducible refine IsL.drew ?_) | (with_reducible refine IsL.drewN ?_ _) | (with_reducible exact IsL.none)))).mono ?_
  rintro e w8 ⟨v_e, rfl, hl, hb⟩
  have hB8 : Below w.heap.size w w8 := below_thru (by go_grown) hb
  have hs8 : w.heap.size ≤ w8.heap.size := hB8.size
  have L_l_8 : Hid (IsL w8 .u64 (.slice (some ⟨bz, oz, none⟩) xs.length (k + 1)) xs) := Lib.hid (IsL.below (by repeat (first | (with_reducible exact Hid.out (by with_reducible assumption)) | (with_reducible refine IsL.alloc ?_ _) | (with_reducible refine IsL.drew ?_) | (with_reducible refine IsL.drewN ?_ _) | (with_reducible exact IsL.none))) hb)
  have L_a_8 : Hid (IsL w8 .u64 v_a A) := Lib.hid (IsL.below (by repeat (first | (with_reducible exact Hid.out (by with_reducible assumption)) | (with_reducible refine IsL.alloc ?_ _) | (with_reducible refine IsL.drew ?_) | (with_reducible refine IsL.drewN ?_ _) | (with_reducible exact IsL.none))) hb)
  clear hb hB7 hs7 L_l_7 L_a_7
  have L_e_8 := Lib.hid hl
  clear hl
  obtain ⟨ae, ce, rfl, _⟩ := id L_e_8.out
  clear L_e_8
  go_wp2_with (at_builtin; refine wpList_append_built rfl _ _ 22 rfl 26 ti (.int .u64 0) 8 .u64 Try.underlying22 hin hz0 hz1 hz2 rfl [now] xs _ (.slice (some ⟨bz, oz, none⟩) xs.length (k + 1)) _ _ _ rfl rfl rfl rfl rfl rfl L_l_8.out (by unfold maxLen; simp; omega) (by simp; omega) ?_; intro v_r w9 hown hb)
  have hB9 : Below w.heap.size w w9 := below_thru (by go_grown) hb
  have hs9 : w.heap.size ≤ w9.heap.size := hB9.size
  have L_l_9 : Hid (IsL w9 .u64 (.slice (some ⟨bz, oz, none⟩) xs.length (k + 1)) xs) := Lib.hid (IsL.below (by repeat (first | (with_reducible exact Hid.out (by with_reducible assumption)) | (with_reducible refine IsL.alloc ?_ _) | (with_reducible refine IsL.drew ?_) | (with_reducible refine IsL.drewN ?_ _) | (with_reducible exact IsL.none))) hb)
  have L_a_9 : Hid (IsL w9 .u64 v_a A) := Lib.hid (IsL.below (by repeat (first | (with_reducible exact Hid.out (by with_reducible assumption)) | (with_reducible refine IsL.alloc ?_ _) | (with_reducible refine IsL.drew ?_) | (with_reducible refine IsL.drewN ?_ _) | (with_reducible exact IsL.none))) hb)
  clear hb hB8 hs8 L_l_8 L_a_8
  have L_r_9 := Lib.hid (IsL.own hown rfl)
  clear hown
  go_wp2_with fail
  refine (rising_b b1 (by repeat (first | (with_reducible exact Hid.out (by with_reducible assumption)) | (with_reducible refine IsL.alloc ?_ _) | (with_reducible refine IsL.drew ?_) | (with_reducible refine IsL.drewN ?_ _) | (with_reducible exact IsL.none)))).mono ?_
  rintro e w10 ⟨rfl, hb⟩
  have hB10 : Below w.heap.size w w10 := below_thru (by go_grown) hb
  have hs10 : w.heap.size ≤ w10.heap.size := hB10.size
  have L_l_10 : Hid (IsL w10 .u64 (.slice (some ⟨bz, oz, none⟩) xs.length (k + 1)) xs) := Lib.hid (IsL.below (by repeat (first | (with_reducible exact Hid.out (by with_reducible assumption)) | (with_reducible refine IsL.alloc ?_ _) | (with_reducible refine IsL.drew ?_) | (with_reducible refine IsL.drewN ?_ _) | (with_reducible exact IsL.none))) hb)
  have L_a_10 : Hid (IsL w10 .u64 v_a A) := Lib.hid (IsL.below (by repeat (first | (with_reducible exact Hid.out (by with_reducible assumption)) | (with_reducible refine IsL.alloc ?_ _) | (with_reducible refine IsL.drew ?_) | (with_reducible refine IsL.drewN ?_ _) | (with_reducible exact IsL.none))) hb)
  have L_r_10 : Hid (IsL w10 .u64 v_r ([now] ++ xs)) := Lib.hid (IsL.below (by repeat (first | (with_reducible exact Hid.out (by with_reducible assumption)) | (with_reducible refine IsL.alloc ?_ _) | (with_reducible refine IsL.drew ?_) | (with_reducible refine IsL.drewN ?_ _) | (with_reducible exact IsL.none))) hb)
  clear hb hB9 hs9 L_l_9 L_a_9 L_r_9
  clear L_r_10
  go_wp2_with fail
  refine (alive02_any _).mono ?_
  rintro e w11 ⟨rfl, hb⟩
  have hB11 : Below w.heap.size w w11 := below_thru (by go_grown) hb
  have hs11 : w.heap.size ≤ w11.heap.size := hB11.size
  have L_l_11 : Hid (IsL w11 .u64 (.slice (some ⟨bz, oz, none⟩) xs.length (k + 1)) xs) := Lib.hid (IsL.below (by repeat (first | (with_reducible exact Hid.out (by with_reducible assumption)) | (with_reducible refine IsL.alloc ?_ _) | (with_reducible refine IsL.drew ?_) | (with_reducible refine IsL.drewN ?_ _) | (with_reducible exact IsL.none))) hb)
  have L_a_11 : Hid (IsL w11 .u64 v_a A) := Lib.hid (IsL.below (by repeat (first | (with_reducible exact Hid.out (by with_reducible assumption)) | (with_reducible refine IsL.alloc ?_ _) | (with_reducible refine IsL.drew ?_) | (with_reducible refine IsL.drewN ?_ _) | (with_reducible exact IsL.none))) hb)
  clear hb hB10 hs10 L_l_10 L_a_10
  go_wp2_with fail
  go_returns
  exact ⟨rfl, hB11⟩

end Go.Proofs.Ytdalbngfhinadaa
