/-
  ClockNames, walked: it returns true.
-/
import Derived.Test.YtdalbngfhinadaaClockMath
import Derived.Test.YtdalbngfhinadaaAlive02
import Derived.Laws.MakeOwn
import Derived.Deep.RegionHeld3
import Derived.Deep.DeepCutAuto
import Derived.Deep.CutBlock
namespace Go.Proofs.Ytdalbngfhinadaa
open Go.RowKit

def z200 : Array Value := madeCells #[.int .u64 0] 200
def z201 : Array Value := madeCells #[.int .u64 0] 201
def n200 : List Int := List.replicate 200 0
def n201 : List Int := List.replicate 201 0
theorem l200 : n200.length = 200 := List.length_replicate
theorem l201 : n201.length = 201 := List.length_replicate
theorem made_eq (n : Nat) (x : Int) : madeCells #[.int .u64 x] n = ((List.replicate n x).map (Value.int .u64)).toArray := by
  apply Array.ext
  · simp [madeCells]
  · intro i h1 h2
    simp [madeCells, Nat.mod_one]
theorem IsL.made200 {w : World} {b : Nat} {t : TypeId} (hb : b = w.heap.size) : IsL (w.alloc (.cells z200 t)) .u64 (.slice (some ⟨b, 0, Option.none⟩) 200 200) n200 :=
  IsL.built n200 hb (made_eq 200 0) l200.symm l200.symm (by rw [l200]; omega)
theorem IsL.made201 {w : World} {b : Nat} {t : TypeId} (hb : b = w.heap.size) : IsL (w.alloc (.cells z201 t)) .u64 (.slice (some ⟨b, 0, Option.none⟩) 201 201) n201 :=
  IsL.built n201 hb (made_eq 201 0) l201.symm l201.symm (by rw [l201]; omega)
theorem make200 (w : World) : (Instr.makeSlice 22 (.int .i64 200) (.int .i64 200)).run Try.prog w = .ok (.slice (some ⟨w.heap.size, 0, none⟩) 200 200) (w.alloc (.cells z200 26)) := by
  obtain ⟨ti, hin, hz0, hz1, hz2⟩ := info_parts info_u64
  rw [run_make (P := Try.prog) w 22 26 ti (.int .u64 0) Try.underlying22 hin hz0 .i64 .i64 200 200 (by omega) (by omega) (by rw [hz2]; omega) (by omega), hz1]
  rfl
theorem make201 (w : World) : (Instr.makeSlice 22 (.int .i64 201) (.int .i64 201)).run Try.prog w = .ok (.slice (some ⟨w.heap.size, 0, none⟩) 201 201) (w.alloc (.cells z201 26)) := by
  obtain ⟨ti, hin, hz0, hz1, hz2⟩ := info_parts info_u64
  rw [run_make (P := Try.prog) w 22 26 ti (.int .u64 0) Try.underlying22 hin hz0 .i64 .i64 201 201 (by omega) (by omega) (by rw [hz2]; omega) (by omega), hz1]
  rfl
theorem f1 (now : Int) : clV now n201 = [] := if_pos (by rw [l201]; omega)
theorem f2 : clE n201 = 4 := if_pos (by rw [l201]; omega)
theorem f3 (now : Int) : bkL now n201 = [] := if_pos (by rw [l201]; omega)
theorem f4 : clV 3 n200 = cl 3 n200 200 := (if_neg (by rw [l200]; omega)).trans (by rw [l200])
theorem f5 : clE n200 = 0 := if_neg (by rw [l200]; omega)
theorem f6 : bkL 1 n200 = bk 1 n200 200 := (if_neg (by rw [l200]; omega)).trans (by rw [l200])
theorem f7 : (bk 1 n200 200).length = 200 := by decide +kernel
theorem f8 : nth (cl 3 n200 200) 0 = 3 := by rw [cl_nth _ _ _ _ (by omega)]; decide +kernel
theorem f9 : mgV n201 [] = [] := if_pos (Or.inl (by rw [l201]; omega))
theorem f10 : mgE n201 [] = 4 := if_pos (Or.inl (by rw [l201]; omega))
theorem f11 : mgV [] n201 = [] := if_pos (Or.inr (by rw [l201]; omega))
theorem f12 : mgE [] n201 = 4 := if_pos (Or.inr (by rw [l201]; omega))
theorem f13 : risB n200 = true := by decide +kernel
theorem f14 : mgV n200 n200 = mg n200 n200 := by unfold mgV; rw [if_neg (by rw [l200]; omega), f13]; rfl
theorem f15 : mgE n200 n200 = 0 := by unfold mgE; rw [if_neg (by rw [l200]; omega), f13]; rfl
theorem f16 : mgV [] [] = [] := by rw [show mgV [] [] = mg [] [] by rfl, mg_nil_left]
theorem f17 : mgE [] [] = 0 := by decide +kernel
theorem f18 : mgV [2, 1] [] = [] := by rfl
theorem f19 : mgE [2, 1] [] = 32 := by decide +kernel
theorem f20 : mgV [] [0, 18446744073709551615, 5] = [] := by rfl
theorem f21 : mgE [] [0, 18446744073709551615, 5] = 32 := by decide +kernel

set_option maxRecDepth 100000 in
set_option maxHeartbeats 6400000 in
theorem names_any (w : World) : Calls Try.prog 3 #[] w fun e w' => e = .returned (.bool true) ∧ Below w.heap.size w w' := by
  have m0 := make200
  have m1 := make201
  obtain ⟨A, hA⟩ : ∃ A, cl 3 n200 200 = A := ⟨_, rfl⟩
  obtain ⟨B, hB⟩ : ∃ B, bk 1 n200 200 = B := ⟨_, rfl⟩
  obtain ⟨C, hC⟩ : ∃ C, mg n200 n200 = C := ⟨_, rfl⟩
  have hAl := Lib.hid (show A.length = 200 by rw [← hA, cl_len])
  have hA0 := Lib.hid (show nth A 0 = 3 by rw [← hA]; exact f8)
  have hBl := Lib.hid (show B.length = 200 by rw [← hB]; exact f7)
  have hCl := Lib.hid (show C.length = 400 by rw [← hC, mg_len, l200])
  have a4 := Lib.hid (f4.trans hA)
  have a6 := Lib.hid (f6.trans hB)
  have a14 := Lib.hid (f14.trans hC)
  have a15 := Lib.hid f15
  clear hA hB hC
  go_enter Try.func3, Try.ntmps3
  go_wp2_with fail
  refine (clamps_is (Lib.hid (f1 0)) (Lib.hid (f2)) (by first | exact IsL.made201 (by simp) | exact IsL.made201 rfl)).mono ?_
  rintro e w1 ⟨v_a, rfl, hl, hb⟩
  have hB1 : Below w.heap.size w w1 := below_thru (by go_grown) hb
  have hs1 : w.heap.size ≤ w1.heap.size := hB1.size
  clear hb
  have L_a_1 := Lib.hid hl
  clear hl
  clear L_a_1
  go_wp2_with fail
  refine (clamps_is a4 (Lib.hid (f5)) (by first | exact IsL.made200 (by simp) | exact IsL.made200 rfl)).mono ?_
  rintro e w2 ⟨v_b, rfl, hl, hb⟩
  have hB2 : Below w.heap.size w w2 := below_thru (by go_grown) hb
  have hs2 : w.heap.size ≤ w2.heap.size := hB2.size
  clear hb hB1 hs1
  have L_b_2 := Lib.hid hl
  clear hl
  obtain ⟨a_b, c_b, h_b, _⟩ := id L_b_2.out
  rw [hAl.out] at h_b
  subst h_b
  obtain ⟨bb, ob, hab, _⟩ := L_b_2.out.get 0 (by rw [hAl.out]; omega)
  subst hab
  go_wp2_with fail
  refine (back_is (Lib.hid (f3 0)) (Lib.hid (f2)) (by first | exact IsL.made201 (by simp) | exact IsL.made201 rfl)).mono ?_
  rintro e w3 ⟨v_d, rfl, hl, hb⟩
  have hB3 : Below w.heap.size w w3 := below_thru (by go_grown) hb
  have hs3 : w.heap.size ≤ w3.heap.size := hB3.size
  have L_b_3 : Hid (IsL w3 .u64 (.slice (some ⟨bb, ob, none⟩) 200 c_b) A) := Lib.hid (IsL.below (by repeat (first | (with_reducible exact Hid.out (by with_reducible assumption)) | (with_reducible refine IsL.alloc ?_ _) | (with_reducible refine IsL.drew ?_) | (with_reducible refine IsL.drewN ?_ _) | (with_reducible exact IsL.none))) hb)
  clear hb hB2 hs2 L_b_2
  have L_d_3 := Lib.hid hl
  clear hl
  clear L_d_3
  go_wp2_with fail
  refine (back_is a6 (Lib.hid (f5)) (by first | exact IsL.made200 (by simp) | exact IsL.made200 rfl)).mono ?_
  rintro e w4 ⟨v_e, rfl, hl, hb⟩
  have hB4 : Below w.heap.size w w4 := below_thru (by go_grown) hb
  have hs4 : w.heap.size ≤ w4.heap.size := hB4.size
  have L_b_4 : Hid (IsL w4 .u64 (.slice (some ⟨bb, ob, none⟩) 200 c_b) A) := Lib.hid (IsL.below (by repeat (first | (with_reducible exact Hid.out (by with_reducible assumption)) | (with_reducible refine IsL.alloc ?_ _) | (with_reducible refine IsL.drew ?_) | (with_reducible refine IsL.drewN ?_ _) | (with_reducible exact IsL.none))) hb)
  clear hb hB3 hs3 L_b_3
  have L_e_4 := Lib.hid hl
  clear hl
  obtain ⟨a_e, c_e, h_e, _⟩ := id L_e_4.out
  rw [hBl.out] at h_e
  subst h_e
  clear L_e_4
  go_wp2_with fail
  refine (clamps_is (zs := []) (c := 0) (Lib.hid (rfl)) (Lib.hid (rfl)) IsL.none).mono ?_
  rintro e w5 ⟨v_n, rfl, hl, hb⟩
  have hB5 : Below w.heap.size w w5 := below_thru (by go_grown) hb
  have hs5 : w.heap.size ≤ w5.heap.size := hB5.size
  have L_b_5 : Hid (IsL w5 .u64 (.slice (some ⟨bb, ob, none⟩) 200 c_b) A) := Lib.hid (IsL.below (by repeat (first | (with_reducible exact Hid.out (by with_reducible assumption)) | (with_reducible refine IsL.alloc ?_ _) | (with_reducible refine IsL.drew ?_) | (with_reducible refine IsL.drewN ?_ _) | (with_reducible exact IsL.none))) hb)
  clear hb hB4 hs4 L_b_4
  have L_n_5 := Lib.hid hl
  clear hl
  obtain ⟨a_n, c_n, h_n, _⟩ := id L_n_5.out
  simp only [List.length_nil] at h_n
  subst h_n
  clear L_n_5
  go_wp2_with fail
  refine (back_is (zs := []) (c := 0) (Lib.hid (rfl)) (Lib.hid (rfl)) IsL.none).mono ?_
  rintro e w6 ⟨v_o, rfl, hl, hb⟩
  have hB6 : Below w.heap.size w w6 := below_thru (by go_grown) hb
  have hs6 : w.heap.size ≤ w6.heap.size := hB6.size
  have L_b_6 : Hid (IsL w6 .u64 (.slice (some ⟨bb, ob, none⟩) 200 c_b) A) := Lib.hid (IsL.below (by repeat (first | (with_reducible exact Hid.out (by with_reducible assumption)) | (with_reducible refine IsL.alloc ?_ _) | (with_reducible refine IsL.drew ?_) | (with_reducible refine IsL.drewN ?_ _) | (with_reducible exact IsL.none))) hb)
  clear hb hB5 hs5 L_b_5
  have L_o_6 := Lib.hid hl
  clear hl
  obtain ⟨a_o, c_o, h_o, _⟩ := id L_o_6.out
  simp only [List.length_nil] at h_o
  subst h_o
  clear L_o_6
  go_wp2_with fail
  refine (since_is (a := 0) (b := 32) (Lib.hid (by decide +kernel)) (Lib.hid (by decide +kernel)) (by unfold tick; omega) (by unfold tick; omega)).mono ?_
  rintro e w7 ⟨rfl, hb⟩
  have hB7 : Below w.heap.size w w7 := below_thru (by go_grown) hb
  have hs7 : w.heap.size ≤ w7.heap.size := hB7.size
  have L_b_7 : Hid (IsL w7 .u64 (.slice (some ⟨bb, ob, none⟩) 200 c_b) A) := Lib.hid (IsL.below (by repeat (first | (with_reducible exact Hid.out (by with_reducible assumption)) | (with_reducible refine IsL.alloc ?_ _) | (with_reducible refine IsL.drew ?_) | (with_reducible refine IsL.drewN ?_ _) | (with_reducible exact IsL.none))) hb)
  clear hb hB6 hs6 L_b_6
  go_wp2_with fail
  refine (since_is (a := 18446744073709551615) (b := 0) (Lib.hid (by decide +kernel)) (Lib.hid (by decide +kernel)) (by unfold tick; omega) (by unfold tick; omega)).mono ?_
  rintro e w8 ⟨rfl, hb⟩
  have hB8 : Below w.heap.size w w8 := below_thru (by go_grown) hb
  have hs8 : w.heap.size ≤ w8.heap.size := hB8.size
  have L_b_8 : Hid (IsL w8 .u64 (.slice (some ⟨bb, ob, none⟩) 200 c_b) A) := Lib.hid (IsL.below (by repeat (first | (with_reducible exact Hid.out (by with_reducible assumption)) | (with_reducible refine IsL.alloc ?_ _) | (with_reducible refine IsL.drew ?_) | (with_reducible refine IsL.drewN ?_ _) | (with_reducible exact IsL.none))) hb)
  clear hb hB7 hs7 L_b_7
  go_wp2_with fail
  refine (since_is (a := 0) (b := 0) (Lib.hid (by decide +kernel)) (Lib.hid (by decide +kernel)) (by unfold tick; omega) (by unfold tick; omega)).mono ?_
  rintro e w9 ⟨rfl, hb⟩
  have hB9 : Below w.heap.size w w9 := below_thru (by go_grown) hb
  have hs9 : w.heap.size ≤ w9.heap.size := hB9.size
  have L_b_9 : Hid (IsL w9 .u64 (.slice (some ⟨bb, ob, none⟩) 200 c_b) A) := Lib.hid (IsL.below (by repeat (first | (with_reducible exact Hid.out (by with_reducible assumption)) | (with_reducible refine IsL.alloc ?_ _) | (with_reducible refine IsL.drew ?_) | (with_reducible refine IsL.drewN ?_ _) | (with_reducible exact IsL.none))) hb)
  clear hb hB8 hs8 L_b_8
  go_wp2_with fail
  refine (after_is (a := 18446744073709551615) (b := 0) (Lib.hid (by decide +kernel)) (Lib.hid (by decide +kernel)) (by unfold tick; omega) (by unfold tick; omega)).mono ?_
  rintro e w10 ⟨rfl, hb⟩
  have hB10 : Below w.heap.size w w10 := below_thru (by go_grown) hb
  have hs10 : w.heap.size ≤ w10.heap.size := hB10.size
  have L_b_10 : Hid (IsL w10 .u64 (.slice (some ⟨bb, ob, none⟩) 200 c_b) A) := Lib.hid (IsL.below (by repeat (first | (with_reducible exact Hid.out (by with_reducible assumption)) | (with_reducible refine IsL.alloc ?_ _) | (with_reducible refine IsL.drew ?_) | (with_reducible refine IsL.drewN ?_ _) | (with_reducible exact IsL.none))) hb)
  clear hb hB9 hs9 L_b_9
  go_wp2_with fail
  refine (after_is (a := 18446744073709551615) (b := 0) (Lib.hid (by decide +kernel)) (Lib.hid (by decide +kernel)) (by unfold tick; omega) (by unfold tick; omega)).mono ?_
  rintro e w11 ⟨rfl, hb⟩
  have hB11 : Below w.heap.size w w11 := below_thru (by go_grown) hb
  have hs11 : w.heap.size ≤ w11.heap.size := hB11.size
  have L_b_11 : Hid (IsL w11 .u64 (.slice (some ⟨bb, ob, none⟩) 200 c_b) A) := Lib.hid (IsL.below (by repeat (first | (with_reducible exact Hid.out (by with_reducible assumption)) | (with_reducible refine IsL.alloc ?_ _) | (with_reducible refine IsL.drew ?_) | (with_reducible refine IsL.drewN ?_ _) | (with_reducible exact IsL.none))) hb)
  clear hb hB10 hs10 L_b_10
  go_wp2_with fail
  refine (after_is (a := 0) (b := 16) (Lib.hid (by decide +kernel)) (Lib.hid (by decide +kernel)) (by unfold tick; omega) (by unfold tick; omega)).mono ?_
  rintro e w12 ⟨rfl, hb⟩
  have hB12 : Below w.heap.size w w12 := below_thru (by go_grown) hb
  have hs12 : w.heap.size ≤ w12.heap.size := hB12.size
  have L_b_12 : Hid (IsL w12 .u64 (.slice (some ⟨bb, ob, none⟩) 200 c_b) A) := Lib.hid (IsL.below (by repeat (first | (with_reducible exact Hid.out (by with_reducible assumption)) | (with_reducible refine IsL.alloc ?_ _) | (with_reducible refine IsL.drew ?_) | (with_reducible refine IsL.drewN ?_ _) | (with_reducible exact IsL.none))) hb)
  clear hb hB11 hs11 L_b_11
  go_wp2_with fail
  refine (merge_is (Lib.hid (f9)) (Lib.hid (f10)) (by first | exact IsL.made201 (by simp) | exact IsL.made201 rfl) IsL.none).mono ?_
  rintro e w13 ⟨v_r, rfl, hl, hb⟩
  have hB13 : Below w.heap.size w w13 := below_thru (by go_grown) hb
  have hs13 : w.heap.size ≤ w13.heap.size := hB13.size
  have L_b_13 : Hid (IsL w13 .u64 (.slice (some ⟨bb, ob, none⟩) 200 c_b) A) := Lib.hid (IsL.below (by repeat (first | (with_reducible exact Hid.out (by with_reducible assumption)) | (with_reducible refine IsL.alloc ?_ _) | (with_reducible refine IsL.drew ?_) | (with_reducible refine IsL.drewN ?_ _) | (with_reducible exact IsL.none))) hb)
  clear hb hB12 hs12 L_b_12
  have L_r_13 := Lib.hid hl
  clear hl
  clear L_r_13
  go_wp2_with fail
  refine (merge_is (Lib.hid (f11)) (Lib.hid (f12)) IsL.none (by first | exact IsL.made201 (by simp) | exact IsL.made201 rfl)).mono ?_
  rintro e w14 ⟨v_s, rfl, hl, hb⟩
  have hB14 : Below w.heap.size w w14 := below_thru (by go_grown) hb
  have hs14 : w.heap.size ≤ w14.heap.size := hB14.size
  have L_b_14 : Hid (IsL w14 .u64 (.slice (some ⟨bb, ob, none⟩) 200 c_b) A) := Lib.hid (IsL.below (by repeat (first | (with_reducible exact Hid.out (by with_reducible assumption)) | (with_reducible refine IsL.alloc ?_ _) | (with_reducible refine IsL.drew ?_) | (with_reducible refine IsL.drewN ?_ _) | (with_reducible exact IsL.none))) hb)
  clear hb hB13 hs13 L_b_13
  have L_s_14 := Lib.hid hl
  clear hl
  clear L_s_14
  go_wp2_with fail
  refine (merge_is (Lib.hid (f18)) (Lib.hid (f19)) (by first | (exact IsL.built [2, 1] (by simp) rfl rfl rfl (by simp)) | (refine IsL.alloc ?_ _; exact IsL.built [2, 1] (by simp) rfl rfl rfl (by simp)) | (refine IsL.drew ?_; exact IsL.built [2, 1] (by simp) rfl rfl rfl (by simp))) IsL.none).mono ?_
  rintro e w15 ⟨v_t, rfl, hl, hb⟩
  have hB15 : Below w.heap.size w w15 := below_thru (by go_grown) hb
  have hs15 : w.heap.size ≤ w15.heap.size := hB15.size
  have L_b_15 : Hid (IsL w15 .u64 (.slice (some ⟨bb, ob, none⟩) 200 c_b) A) := Lib.hid (IsL.below (by repeat (first | (with_reducible exact Hid.out (by with_reducible assumption)) | (with_reducible refine IsL.alloc ?_ _) | (with_reducible refine IsL.drew ?_) | (with_reducible refine IsL.drewN ?_ _) | (with_reducible exact IsL.none))) hb)
  clear hb hB14 hs14 L_b_14
  have L_t_15 := Lib.hid hl
  clear hl
  clear L_t_15
  go_wp2_with fail
  refine (merge_is (Lib.hid (f20)) (Lib.hid (f21)) IsL.none (by first | (exact IsL.built [0, 18446744073709551615, 5] (by simp) rfl rfl rfl (by simp)) | (refine IsL.alloc ?_ _; exact IsL.built [0, 18446744073709551615, 5] (by simp) rfl rfl rfl (by simp)) | (refine IsL.drew ?_; exact IsL.built [0, 18446744073709551615, 5] (by simp) rfl rfl rfl (by simp)))).mono ?_
  rintro e w16 ⟨v_u, rfl, hl, hb⟩
  have hB16 : Below w.heap.size w w16 := below_thru (by go_grown) hb
  have hs16 : w.heap.size ≤ w16.heap.size := hB16.size
  have L_b_16 : Hid (IsL w16 .u64 (.slice (some ⟨bb, ob, none⟩) 200 c_b) A) := Lib.hid (IsL.below (by repeat (first | (with_reducible exact Hid.out (by with_reducible assumption)) | (with_reducible refine IsL.alloc ?_ _) | (with_reducible refine IsL.drew ?_) | (with_reducible refine IsL.drewN ?_ _) | (with_reducible exact IsL.none))) hb)
  clear hb hB15 hs15 L_b_15
  have L_u_16 := Lib.hid hl
  clear hl
  clear L_u_16
  go_wp2_with fail
  refine (merge_is (Lib.hid (f16)) (Lib.hid (f17)) IsL.none IsL.none).mono ?_
  rintro e w17 ⟨v_v, rfl, hl, hb⟩
  have hB17 : Below w.heap.size w w17 := below_thru (by go_grown) hb
  have hs17 : w.heap.size ≤ w17.heap.size := hB17.size
  have L_b_17 : Hid (IsL w17 .u64 (.slice (some ⟨bb, ob, none⟩) 200 c_b) A) := Lib.hid (IsL.below (by repeat (first | (with_reducible exact Hid.out (by with_reducible assumption)) | (with_reducible refine IsL.alloc ?_ _) | (with_reducible refine IsL.drew ?_) | (with_reducible refine IsL.drewN ?_ _) | (with_reducible exact IsL.none))) hb)
  clear hb hB16 hs16 L_b_16
  have L_v_17 := Lib.hid hl
  clear hl
  obtain ⟨a_v, c_v, h_v, _⟩ := id L_v_17.out
  simp only [List.length_nil] at h_v
  subst h_v
  clear L_v_17
  go_upto_region 18 with fail
  go_cut [35, 36] (fun p q wx => ∃ (a : Option Addr) (c : Nat), p = .slice a 400 c ∧ q = .int .i64 0 ∧ IsL wx .u64 (.slice (some ⟨bb, ob, none⟩) 200 c_b) A ∧ Below w.heap.size w wx)
  case first =>
    go_region_held3 (fun w' => True) (trivial)
      (first
        | (go_at_call 13; refine Calls.mono (merge_is a14 a15 ?_ ?_) ?_; (first | exact IsL.drew (IsL.alloc (IsL.made200 rfl) _) | exact IsL.drew (IsL.made200 (World.size_alloc _ _).symm)); (first | exact IsL.drew (IsL.alloc (IsL.made200 rfl) _) | exact IsL.drew (IsL.made200 (World.size_alloc _ _).symm)); rintro e wv ⟨v_x, rfl, hl, hb⟩; obtain ⟨a_x, c_x, h_x, _⟩ := id hl; rw [hCl.out] at h_x; subst h_x; have HL := Lib.hid (IsL.below (IsL.drew (IsL.alloc (IsL.alloc L_b_17.out _) _)) hb); clear hl))
    all_goals go_wp2_with fail
    all_goals go_meet
    all_goals exact ⟨_, _, rfl, rfl, HL.out, below_thru (by go_grown) hb⟩
  case rest =>
    obtain ⟨a_x, c_x, rfl, rfl, hL, hB99⟩ := hcut
    obtain ⟨wq, rfl⟩ : ∃ u : World, u = wc := ⟨_, rfl⟩
    obtain ⟨_, _, e9, hb0⟩ := hL.get 0 (by rw [hAl.out]; omega)
    cases e9
    rw [hA0.out, Nat.add_zero] at hb0
    go_wp2_with fail
    refine (clamp_is (m := 18446744073709551615) (Lib.hid (by decide +kernel))).mono ?_
    rintro e wr ⟨rfl, hb⟩
    have hB100 := below_thru hB99 hb
    clear hb hB99 hL hb0
    go_wp2_with fail
    refine (clamp_is (m := 0) (Lib.hid (by decide +kernel))).mono ?_
    rintro e wr2 ⟨rfl, hb⟩
    have hB101 := below_thru hB100 hb
    clear hb hB100
    go_wp2_with fail
    refine (alive02_any _).mono ?_
    rintro e wr3 ⟨rfl, hb⟩
    have hB102 := below_thru hB101 hb
    clear hb hB101
    go_wp2_with fail
    go_returns
    exact ⟨rfl, hB102⟩

end Go.Proofs.Ytdalbngfhinadaa
