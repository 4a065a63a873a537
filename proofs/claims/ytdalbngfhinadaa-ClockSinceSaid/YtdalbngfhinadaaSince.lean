/-
  ClockSince, walked: it returns true.
-/
import Derived.Test.YtdalbngfhinadaaClockMath
import Derived.Test.YtdalbngfhinadaaAlive02
import Derived.Deep.QuietTactic
import Derived.BigQuiet
import Derived.IntWalk
namespace Go.Proofs.Ytdalbngfhinadaa
open Go.RowKit

theorem cnt_count (xs : List Int) (t : Int) : ∀ k, k ≤ xs.length → cnt xs t k = (xs.take k).count t := by
  intro k
  induction k with
  | zero => intro _; simp [cnt]
  | succ k ih =>
    intro h
    rw [take_succ_nth h, List.count_append, ← ih (by omega)]
    show (if nth xs k = t then cnt xs t k + 1 else cnt xs t k) = _
    by_cases e : nth xs k = t
    · rw [if_pos e, e]; simp
    · rw [if_neg e]; simp [e]
theorem cnt_all (xs : List Int) (t : Int) : cnt xs t xs.length = xs.count t := by
  rw [cnt_count xs t _ (Nat.le_refl _), List.take_of_length_le (Nat.le_refl _)]
theorem cnt_mg (xs ys : List Int) (t : Int) : cnt (mg xs ys) t (mg xs ys).length = cnt xs t xs.length + cnt ys t ys.length := by
  rw [cnt_all, cnt_all, cnt_all, (mg_perm xs ys).count_eq t, List.count_append]
theorem times_is {w : World} {v1 : Value} {xs : List Int} {t : Int} {n : Nat} (h : Hid (cnt xs t xs.length = n)) (h1 : IsL w .u64 v1 xs) : Calls Try.prog 27 #[v1, .int .u64 t] w fun e w' => e = .returned (.int .i64 n) ∧ w' = w := by
  rw [← h.out]
  exact times_l h1
theorem mgV_ok {xs ys : List Int} (h1 : xs.length ≤ 200) (h2 : ys.length ≤ 200) (r1 : risB xs = true) (r2 : risB ys = true) : mgV xs ys = mg xs ys := by
  unfold mgV
  rw [if_neg (by omega), r1, r2]
  rfl
theorem mgE_ok {xs ys : List Int} (h1 : xs.length ≤ 200) (h2 : ys.length ≤ 200) (r1 : risB xs = true) (r2 : risB ys = true) : mgE xs ys = 0 := by
  unfold mgE
  rw [if_neg (by omega), r1, r2]
  rfl

set_option maxRecDepth 100000 in
set_option maxHeartbeats 3200000 in
theorem since_le_a (x y : Int) (xs ys : List Int) (at1 at2 : Option Addr) (cap1 cap2 : Nat) (w : World) (tx : tick x) (ty : tick y) (ho : x ≤ y) (hi1 : IsL w .u64 (.slice at1 xs.length cap1) xs) (hi2 : IsL w .u64 (.slice at2 ys.length cap2) ys) (l1 : 40 < xs.length) :
    Calls Try.prog 8 #[.int .u64 x, .int .u64 y, .slice at1 xs.length cap1, .slice at2 ys.length cap2] w fun e w' => e = .returned (.bool true) ∧ Below w.heap.size w w' := by
  obtain ⟨_, hr1, hm1⟩ := hi1.room
  obtain ⟨_, hr2, hm2⟩ := hi2.room
  have L_p_0 := Lib.hid hi1
  have L_q_0 := Lib.hid hi2
  clear hi1 hi2
  obtain ⟨n, hn⟩ : ∃ n, y - x = n := ⟨_, rfl⟩
  have e1 := Lib.hid (show sinceV x y = n from (if_neg (by omega)).trans hn)
  have e2 := Lib.hid (show sinceE x y = 0 from if_neg (by omega))
  have hmax : n ≤ 18446744073709551615 - x := by unfold tick at tx ty; omega
  have e3 := Lib.hid (show afterV x n = y by unfold afterV; rw [if_neg (by omega)]; omega)
  have e4 := Lib.hid (show afterE x n = 0 from if_neg (by omega))
  have tn : tick n := by unfold tick at tx ty ⊢; omega
  have d0 : decide (x ≤ y) = true := decide_eq_true ho
  clear hn hmax ho
  have d1 : decide ((40 : Int) < (xs.length : Int)) = true := decide_eq_true (by omega)
  go_enter Try.func8, Try.ntmps8
  go_wp2_with fail
  refine (since_is e1 e2 tx ty).mono ?_
  rintro e w1 ⟨rfl, hb⟩
  have hB1 : Below w.heap.size w w1 := below_thru (by go_grown) hb
  have hs1 : w.heap.size ≤ w1.heap.size := hB1.size
  have L_p_1 : Hid (IsL w1 .u64 (.slice at1 xs.length cap1) xs) := Lib.hid (IsL.below (by repeat (first | (with_reducible exact Hid.out (by with_reducible assumption)) | (with_reducible refine IsL.alloc ?_ _) | (with_reducible refine IsL.drew ?_) | (with_reducible refine IsL.drewN ?_ _) | (with_reducible exact IsL.none))) hb)
  have L_q_1 : Hid (IsL w1 .u64 (.slice at2 ys.length cap2) ys) := Lib.hid (IsL.below (by repeat (first | (with_reducible exact Hid.out (by with_reducible assumption)) | (with_reducible refine IsL.alloc ?_ _) | (with_reducible refine IsL.drew ?_) | (with_reducible refine IsL.drewN ?_ _) | (with_reducible exact IsL.none))) hb)
  clear hb L_p_0 L_q_0
  go_wp2_with fail
  refine (after_is e3 e4 tx tn).mono ?_
  rintro e w2 ⟨rfl, hb⟩
  have hB2 : Below w.heap.size w w2 := below_thru (by go_grown) hb
  have hs2 : w.heap.size ≤ w2.heap.size := hB2.size
  have L_p_2 : Hid (IsL w2 .u64 (.slice at1 xs.length cap1) xs) := Lib.hid (IsL.below (by repeat (first | (with_reducible exact Hid.out (by with_reducible assumption)) | (with_reducible refine IsL.alloc ?_ _) | (with_reducible refine IsL.drew ?_) | (with_reducible refine IsL.drewN ?_ _) | (with_reducible exact IsL.none))) hb)
  have L_q_2 : Hid (IsL w2 .u64 (.slice at2 ys.length cap2) ys) := Lib.hid (IsL.below (by repeat (first | (with_reducible exact Hid.out (by with_reducible assumption)) | (with_reducible refine IsL.alloc ?_ _) | (with_reducible refine IsL.drew ?_) | (with_reducible refine IsL.drewN ?_ _) | (with_reducible exact IsL.none))) hb)
  clear hb hB1 hs1 L_p_1 L_q_1
  go_wp2_with fail
  refine (alive02_any _).mono ?_
  rintro e w3 ⟨rfl, hb⟩
  have hB3 : Below w.heap.size w w3 := below_thru (by go_grown) hb
  have hs3 : w.heap.size ≤ w3.heap.size := hB3.size
  have L_p_3 : Hid (IsL w3 .u64 (.slice at1 xs.length cap1) xs) := Lib.hid (IsL.below (by repeat (first | (with_reducible exact Hid.out (by with_reducible assumption)) | (with_reducible refine IsL.alloc ?_ _) | (with_reducible refine IsL.drew ?_) | (with_reducible refine IsL.drewN ?_ _) | (with_reducible exact IsL.none))) hb)
  have L_q_3 : Hid (IsL w3 .u64 (.slice at2 ys.length cap2) ys) := Lib.hid (IsL.below (by repeat (first | (with_reducible exact Hid.out (by with_reducible assumption)) | (with_reducible refine IsL.alloc ?_ _) | (with_reducible refine IsL.drew ?_) | (with_reducible refine IsL.drewN ?_ _) | (with_reducible exact IsL.none))) hb)
  clear hb hB2 hs2 L_p_2 L_q_2
  go_wp2_with fail
  go_returns
  exact ⟨rfl, hB3⟩

set_option maxRecDepth 100000 in
set_option maxHeartbeats 3200000 in
theorem since_le_b (x y : Int) (xs ys : List Int) (at1 at2 : Option Addr) (cap1 cap2 : Nat) (w : World) (tx : tick x) (ty : tick y) (ho : x ≤ y) (hi1 : IsL w .u64 (.slice at1 xs.length cap1) xs) (hi2 : IsL w .u64 (.slice at2 ys.length cap2) ys) (l1 : xs.length ≤ 40) (l2 : 40 < ys.length) :
    Calls Try.prog 8 #[.int .u64 x, .int .u64 y, .slice at1 xs.length cap1, .slice at2 ys.length cap2] w fun e w' => e = .returned (.bool true) ∧ Below w.heap.size w w' := by
  obtain ⟨_, hr1, hm1⟩ := hi1.room
  obtain ⟨_, hr2, hm2⟩ := hi2.room
  have L_p_0 := Lib.hid hi1
  have L_q_0 := Lib.hid hi2
  clear hi1 hi2
  obtain ⟨n, hn⟩ : ∃ n, y - x = n := ⟨_, rfl⟩
  have e1 := Lib.hid (show sinceV x y = n from (if_neg (by omega)).trans hn)
  have e2 := Lib.hid (show sinceE x y = 0 from if_neg (by omega))
  have hmax : n ≤ 18446744073709551615 - x := by unfold tick at tx ty; omega
  have e3 := Lib.hid (show afterV x n = y by unfold afterV; rw [if_neg (by omega)]; omega)
  have e4 := Lib.hid (show afterE x n = 0 from if_neg (by omega))
  have tn : tick n := by unfold tick at tx ty ⊢; omega
  have d0 : decide (x ≤ y) = true := decide_eq_true ho
  clear hn hmax ho
  have d1 : decide ((40 : Int) < (xs.length : Int)) = false := decide_eq_false (by omega)
  have d2 : decide ((40 : Int) < (ys.length : Int)) = true := decide_eq_true (by omega)
  go_enter Try.func8, Try.ntmps8
  go_wp2_with fail
  refine (since_is e1 e2 tx ty).mono ?_
  rintro e w1 ⟨rfl, hb⟩
  have hB1 : Below w.heap.size w w1 := below_thru (by go_grown) hb
  have hs1 : w.heap.size ≤ w1.heap.size := hB1.size
  have L_p_1 : Hid (IsL w1 .u64 (.slice at1 xs.length cap1) xs) := Lib.hid (IsL.below (by repeat (first | (with_reducible exact Hid.out (by with_reducible assumption)) | (with_reducible refine IsL.alloc ?_ _) | (with_reducible refine IsL.drew ?_) | (with_reducible refine IsL.drewN ?_ _) | (with_reducible exact IsL.none))) hb)
  have L_q_1 : Hid (IsL w1 .u64 (.slice at2 ys.length cap2) ys) := Lib.hid (IsL.below (by repeat (first | (with_reducible exact Hid.out (by with_reducible assumption)) | (with_reducible refine IsL.alloc ?_ _) | (with_reducible refine IsL.drew ?_) | (with_reducible refine IsL.drewN ?_ _) | (with_reducible exact IsL.none))) hb)
  clear hb L_p_0 L_q_0
  go_wp2_with fail
  refine (after_is e3 e4 tx tn).mono ?_
  rintro e w2 ⟨rfl, hb⟩
  have hB2 : Below w.heap.size w w2 := below_thru (by go_grown) hb
  have hs2 : w.heap.size ≤ w2.heap.size := hB2.size
  have L_p_2 : Hid (IsL w2 .u64 (.slice at1 xs.length cap1) xs) := Lib.hid (IsL.below (by repeat (first | (with_reducible exact Hid.out (by with_reducible assumption)) | (with_reducible refine IsL.alloc ?_ _) | (with_reducible refine IsL.drew ?_) | (with_reducible refine IsL.drewN ?_ _) | (with_reducible exact IsL.none))) hb)
  have L_q_2 : Hid (IsL w2 .u64 (.slice at2 ys.length cap2) ys) := Lib.hid (IsL.below (by repeat (first | (with_reducible exact Hid.out (by with_reducible assumption)) | (with_reducible refine IsL.alloc ?_ _) | (with_reducible refine IsL.drew ?_) | (with_reducible refine IsL.drewN ?_ _) | (with_reducible exact IsL.none))) hb)
  clear hb hB1 hs1 L_p_1 L_q_1
  go_wp2_with fail
  refine (alive02_any _).mono ?_
  rintro e w3 ⟨rfl, hb⟩
  have hB3 : Below w.heap.size w w3 := below_thru (by go_grown) hb
  have hs3 : w.heap.size ≤ w3.heap.size := hB3.size
  have L_p_3 : Hid (IsL w3 .u64 (.slice at1 xs.length cap1) xs) := Lib.hid (IsL.below (by repeat (first | (with_reducible exact Hid.out (by with_reducible assumption)) | (with_reducible refine IsL.alloc ?_ _) | (with_reducible refine IsL.drew ?_) | (with_reducible refine IsL.drewN ?_ _) | (with_reducible exact IsL.none))) hb)
  have L_q_3 : Hid (IsL w3 .u64 (.slice at2 ys.length cap2) ys) := Lib.hid (IsL.below (by repeat (first | (with_reducible exact Hid.out (by with_reducible assumption)) | (with_reducible refine IsL.alloc ?_ _) | (with_reducible refine IsL.drew ?_) | (with_reducible refine IsL.drewN ?_ _) | (with_reducible exact IsL.none))) hb)
  clear hb hB2 hs2 L_p_2 L_q_2
  go_wp2_with fail
  go_returns
  exact ⟨rfl, hB3⟩

set_option maxRecDepth 100000 in
set_option maxHeartbeats 3200000 in
theorem since_le_ra (x y : Int) (xs ys : List Int) (at1 at2 : Option Addr) (cap1 cap2 : Nat) (w : World) (tx : tick x) (ty : tick y) (ho : x ≤ y) (hi1 : IsL w .u64 (.slice at1 xs.length cap1) xs) (hi2 : IsL w .u64 (.slice at2 ys.length cap2) ys) (l1 : xs.length ≤ 40) (l2 : ys.length ≤ 40) (r1 : risB xs = false) :
    Calls Try.prog 8 #[.int .u64 x, .int .u64 y, .slice at1 xs.length cap1, .slice at2 ys.length cap2] w fun e w' => e = .returned (.bool true) ∧ Below w.heap.size w w' := by
  obtain ⟨_, hr1, hm1⟩ := hi1.room
  obtain ⟨_, hr2, hm2⟩ := hi2.room
  have L_p_0 := Lib.hid hi1
  have L_q_0 := Lib.hid hi2
  clear hi1 hi2
  obtain ⟨n, hn⟩ : ∃ n, y - x = n := ⟨_, rfl⟩
  have e1 := Lib.hid (show sinceV x y = n from (if_neg (by omega)).trans hn)
  have e2 := Lib.hid (show sinceE x y = 0 from if_neg (by omega))
  have hmax : n ≤ 18446744073709551615 - x := by unfold tick at tx ty; omega
  have e3 := Lib.hid (show afterV x n = y by unfold afterV; rw [if_neg (by omega)]; omega)
  have e4 := Lib.hid (show afterE x n = 0 from if_neg (by omega))
  have tn : tick n := by unfold tick at tx ty ⊢; omega
  have d0 : decide (x ≤ y) = true := decide_eq_true ho
  clear hn hmax ho
  have d1 : decide ((40 : Int) < (xs.length : Int)) = false := decide_eq_false (by omega)
  have d2 : decide ((40 : Int) < (ys.length : Int)) = false := decide_eq_false (by omega)
  have b1 := Lib.hid r1
  clear r1
  go_enter Try.func8, Try.ntmps8
  go_wp2_with fail
  refine (since_is e1 e2 tx ty).mono ?_
  rintro e w1 ⟨rfl, hb⟩
  have hB1 : Below w.heap.size w w1 := below_thru (by go_grown) hb
  have hs1 : w.heap.size ≤ w1.heap.size := hB1.size
  have L_p_1 : Hid (IsL w1 .u64 (.slice at1 xs.length cap1) xs) := Lib.hid (IsL.below (by repeat (first | (with_reducible exact Hid.out (by with_reducible assumption)) | (with_reducible refine IsL.alloc ?_ _) | (with_reducible refine IsL.drew ?_) | (with_reducible refine IsL.drewN ?_ _) | (with_reducible exact IsL.none))) hb)
  have L_q_1 : Hid (IsL w1 .u64 (.slice at2 ys.length cap2) ys) := Lib.hid (IsL.below (by repeat (first | (with_reducible exact Hid.out (by with_reducible assumption)) | (with_reducible refine IsL.alloc ?_ _) | (with_reducible refine IsL.drew ?_) | (with_reducible refine IsL.drewN ?_ _) | (with_reducible exact IsL.none))) hb)
  clear hb L_p_0 L_q_0
  go_wp2_with fail
  refine (after_is e3 e4 tx tn).mono ?_
  rintro e w2 ⟨rfl, hb⟩
  have hB2 : Below w.heap.size w w2 := below_thru (by go_grown) hb
  have hs2 : w.heap.size ≤ w2.heap.size := hB2.size
  have L_p_2 : Hid (IsL w2 .u64 (.slice at1 xs.length cap1) xs) := Lib.hid (IsL.below (by repeat (first | (with_reducible exact Hid.out (by with_reducible assumption)) | (with_reducible refine IsL.alloc ?_ _) | (with_reducible refine IsL.drew ?_) | (with_reducible refine IsL.drewN ?_ _) | (with_reducible exact IsL.none))) hb)
  have L_q_2 : Hid (IsL w2 .u64 (.slice at2 ys.length cap2) ys) := Lib.hid (IsL.below (by repeat (first | (with_reducible exact Hid.out (by with_reducible assumption)) | (with_reducible refine IsL.alloc ?_ _) | (with_reducible refine IsL.drew ?_) | (with_reducible refine IsL.drewN ?_ _) | (with_reducible exact IsL.none))) hb)
  clear hb hB1 hs1 L_p_1 L_q_1
  go_wp2_with fail
  refine (rising_b b1 (by repeat (first | (with_reducible exact Hid.out (by with_reducible assumption)) | (with_reducible refine IsL.alloc ?_ _) | (with_reducible refine IsL.drew ?_) | (with_reducible refine IsL.drewN ?_ _) | (with_reducible exact IsL.none)))).mono ?_
  rintro e w3 ⟨rfl, hb⟩
  have hB3 : Below w.heap.size w w3 := below_thru (by go_grown) hb
  have hs3 : w.heap.size ≤ w3.heap.size := hB3.size
  have L_p_3 : Hid (IsL w3 .u64 (.slice at1 xs.length cap1) xs) := Lib.hid (IsL.below (by repeat (first | (with_reducible exact Hid.out (by with_reducible assumption)) | (with_reducible refine IsL.alloc ?_ _) | (with_reducible refine IsL.drew ?_) | (with_reducible refine IsL.drewN ?_ _) | (with_reducible exact IsL.none))) hb)
  have L_q_3 : Hid (IsL w3 .u64 (.slice at2 ys.length cap2) ys) := Lib.hid (IsL.below (by repeat (first | (with_reducible exact Hid.out (by with_reducible assumption)) | (with_reducible refine IsL.alloc ?_ _) | (with_reducible refine IsL.drew ?_) | (with_reducible refine IsL.drewN ?_ _) | (with_reducible exact IsL.none))) hb)
  clear hb hB2 hs2 L_p_2 L_q_2
  go_wp2_with fail
  refine (alive02_any _).mono ?_
  rintro e w4 ⟨rfl, hb⟩
  have hB4 : Below w.heap.size w w4 := below_thru (by go_grown) hb
  have hs4 : w.heap.size ≤ w4.heap.size := hB4.size
  have L_p_4 : Hid (IsL w4 .u64 (.slice at1 xs.length cap1) xs) := Lib.hid (IsL.below (by repeat (first | (with_reducible exact Hid.out (by with_reducible assumption)) | (with_reducible refine IsL.alloc ?_ _) | (with_reducible refine IsL.drew ?_) | (with_reducible refine IsL.drewN ?_ _) | (with_reducible exact IsL.none))) hb)
  have L_q_4 : Hid (IsL w4 .u64 (.slice at2 ys.length cap2) ys) := Lib.hid (IsL.below (by repeat (first | (with_reducible exact Hid.out (by with_reducible assumption)) | (with_reducible refine IsL.alloc ?_ _) | (with_reducible refine IsL.drew ?_) | (with_reducible refine IsL.drewN ?_ _) | (with_reducible exact IsL.none))) hb)
  clear hb hB3 hs3 L_p_3 L_q_3
  go_wp2_with fail
  go_returns
  exact ⟨rfl, hB4⟩

set_option maxRecDepth 100000 in
set_option maxHeartbeats 3200000 in
theorem since_le_rb (x y : Int) (xs ys : List Int) (at1 at2 : Option Addr) (cap1 cap2 : Nat) (w : World) (tx : tick x) (ty : tick y) (ho : x ≤ y) (hi1 : IsL w .u64 (.slice at1 xs.length cap1) xs) (hi2 : IsL w .u64 (.slice at2 ys.length cap2) ys) (l1 : xs.length ≤ 40) (l2 : ys.length ≤ 40) (r1 : risB xs = true) (r2 : risB ys = false) :
    Calls Try.prog 8 #[.int .u64 x, .int .u64 y, .slice at1 xs.length cap1, .slice at2 ys.length cap2] w fun e w' => e = .returned (.bool true) ∧ Below w.heap.size w w' := by
  obtain ⟨_, hr1, hm1⟩ := hi1.room
  obtain ⟨_, hr2, hm2⟩ := hi2.room
  have L_p_0 := Lib.hid hi1
  have L_q_0 := Lib.hid hi2
  clear hi1 hi2
  obtain ⟨n, hn⟩ : ∃ n, y - x = n := ⟨_, rfl⟩
  have e1 := Lib.hid (show sinceV x y = n from (if_neg (by omega)).trans hn)
  have e2 := Lib.hid (show sinceE x y = 0 from if_neg (by omega))
  have hmax : n ≤ 18446744073709551615 - x := by unfold tick at tx ty; omega
  have e3 := Lib.hid (show afterV x n = y by unfold afterV; rw [if_neg (by omega)]; omega)
  have e4 := Lib.hid (show afterE x n = 0 from if_neg (by omega))
  have tn : tick n := by unfold tick at tx ty ⊢; omega
  have d0 : decide (x ≤ y) = true := decide_eq_true ho
  clear hn hmax ho
  have d1 : decide ((40 : Int) < (xs.length : Int)) = false := decide_eq_false (by omega)
  have d2 : decide ((40 : Int) < (ys.length : Int)) = false := decide_eq_false (by omega)
  have b1 := Lib.hid r1
  have b2 := Lib.hid r2
  clear r1 r2
  go_enter Try.func8, Try.ntmps8
  go_wp2_with fail
  refine (since_is e1 e2 tx ty).mono ?_
  rintro e w1 ⟨rfl, hb⟩
  have hB1 : Below w.heap.size w w1 := below_thru (by go_grown) hb
  have hs1 : w.heap.size ≤ w1.heap.size := hB1.size
  have L_p_1 : Hid (IsL w1 .u64 (.slice at1 xs.length cap1) xs) := Lib.hid (IsL.below (by repeat (first | (with_reducible exact Hid.out (by with_reducible assumption)) | (with_reducible refine IsL.alloc ?_ _) | (with_reducible refine IsL.drew ?_) | (with_reducible refine IsL.drewN ?_ _) | (with_reducible exact IsL.none))) hb)
  have L_q_1 : Hid (IsL w1 .u64 (.slice at2 ys.length cap2) ys) := Lib.hid (IsL.below (by repeat (first | (with_reducible exact Hid.out (by with_reducible assumption)) | (with_reducible refine IsL.alloc ?_ _) | (with_reducible refine IsL.drew ?_) | (with_reducible refine IsL.drewN ?_ _) | (with_reducible exact IsL.none))) hb)
  clear hb L_p_0 L_q_0
  go_wp2_with fail
  refine (after_is e3 e4 tx tn).mono ?_
  rintro e w2 ⟨rfl, hb⟩
  have hB2 : Below w.heap.size w w2 := below_thru (by go_grown) hb
  have hs2 : w.heap.size ≤ w2.heap.size := hB2.size
  have L_p_2 : Hid (IsL w2 .u64 (.slice at1 xs.length cap1) xs) := Lib.hid (IsL.below (by repeat (first | (with_reducible exact Hid.out (by with_reducible assumption)) | (with_reducible refine IsL.alloc ?_ _) | (with_reducible refine IsL.drew ?_) | (with_reducible refine IsL.drewN ?_ _) | (with_reducible exact IsL.none))) hb)
  have L_q_2 : Hid (IsL w2 .u64 (.slice at2 ys.length cap2) ys) := Lib.hid (IsL.below (by repeat (first | (with_reducible exact Hid.out (by with_reducible assumption)) | (with_reducible refine IsL.alloc ?_ _) | (with_reducible refine IsL.drew ?_) | (with_reducible refine IsL.drewN ?_ _) | (with_reducible exact IsL.none))) hb)
  clear hb hB1 hs1 L_p_1 L_q_1
  go_wp2_with fail
  refine (rising_b b1 (by repeat (first | (with_reducible exact Hid.out (by with_reducible assumption)) | (with_reducible refine IsL.alloc ?_ _) | (with_reducible refine IsL.drew ?_) | (with_reducible refine IsL.drewN ?_ _) | (with_reducible exact IsL.none)))).mono ?_
  rintro e w3 ⟨rfl, hb⟩
  have hB3 : Below w.heap.size w w3 := below_thru (by go_grown) hb
  have hs3 : w.heap.size ≤ w3.heap.size := hB3.size
  have L_p_3 : Hid (IsL w3 .u64 (.slice at1 xs.length cap1) xs) := Lib.hid (IsL.below (by repeat (first | (with_reducible exact Hid.out (by with_reducible assumption)) | (with_reducible refine IsL.alloc ?_ _) | (with_reducible refine IsL.drew ?_) | (with_reducible refine IsL.drewN ?_ _) | (with_reducible exact IsL.none))) hb)
  have L_q_3 : Hid (IsL w3 .u64 (.slice at2 ys.length cap2) ys) := Lib.hid (IsL.below (by repeat (first | (with_reducible exact Hid.out (by with_reducible assumption)) | (with_reducible refine IsL.alloc ?_ _) | (with_reducible refine IsL.drew ?_) | (with_reducible refine IsL.drewN ?_ _) | (with_reducible exact IsL.none))) hb)
  clear hb hB2 hs2 L_p_2 L_q_2
  go_wp2_with fail
  refine (rising_b b2 (by repeat (first | (with_reducible exact Hid.out (by with_reducible assumption)) | (with_reducible refine IsL.alloc ?_ _) | (with_reducible refine IsL.drew ?_) | (with_reducible refine IsL.drewN ?_ _) | (with_reducible exact IsL.none)))).mono ?_
  rintro e w4 ⟨rfl, hb⟩
  have hB4 : Below w.heap.size w w4 := below_thru (by go_grown) hb
  have hs4 : w.heap.size ≤ w4.heap.size := hB4.size
  have L_p_4 : Hid (IsL w4 .u64 (.slice at1 xs.length cap1) xs) := Lib.hid (IsL.below (by repeat (first | (with_reducible exact Hid.out (by with_reducible assumption)) | (with_reducible refine IsL.alloc ?_ _) | (with_reducible refine IsL.drew ?_) | (with_reducible refine IsL.drewN ?_ _) | (with_reducible exact IsL.none))) hb)
  have L_q_4 : Hid (IsL w4 .u64 (.slice at2 ys.length cap2) ys) := Lib.hid (IsL.below (by repeat (first | (with_reducible exact Hid.out (by with_reducible assumption)) | (with_reducible refine IsL.alloc ?_ _) | (with_reducible refine IsL.drew ?_) | (with_reducible refine IsL.drewN ?_ _) | (with_reducible exact IsL.none))) hb)
  clear hb hB3 hs3 L_p_3 L_q_3
  go_wp2_with fail
  refine (alive02_any _).mono ?_
  rintro e w5 ⟨rfl, hb⟩
  have hB5 : Below w.heap.size w w5 := below_thru (by go_grown) hb
  have hs5 : w.heap.size ≤ w5.heap.size := hB5.size
  have L_p_5 : Hid (IsL w5 .u64 (.slice at1 xs.length cap1) xs) := Lib.hid (IsL.below (by repeat (first | (with_reducible exact Hid.out (by with_reducible assumption)) | (with_reducible refine IsL.alloc ?_ _) | (with_reducible refine IsL.drew ?_) | (with_reducible refine IsL.drewN ?_ _) | (with_reducible exact IsL.none))) hb)
  have L_q_5 : Hid (IsL w5 .u64 (.slice at2 ys.length cap2) ys) := Lib.hid (IsL.below (by repeat (first | (with_reducible exact Hid.out (by with_reducible assumption)) | (with_reducible refine IsL.alloc ?_ _) | (with_reducible refine IsL.drew ?_) | (with_reducible refine IsL.drewN ?_ _) | (with_reducible exact IsL.none))) hb)
  clear hb hB4 hs4 L_p_4 L_q_4
  go_wp2_with fail
  go_returns
  exact ⟨rfl, hB5⟩

set_option maxRecDepth 100000 in
set_option maxHeartbeats 3200000 in
theorem since_le_ok (x y : Int) (xs ys : List Int) (at1 at2 : Option Addr) (cap1 cap2 : Nat) (w : World) (tx : tick x) (ty : tick y) (ho : x ≤ y) (hi1 : IsL w .u64 (.slice at1 xs.length cap1) xs) (hi2 : IsL w .u64 (.slice at2 ys.length cap2) ys) (l1 : xs.length ≤ 40) (l2 : ys.length ≤ 40) (r1 : risB xs = true) (r2 : risB ys = true) :
    Calls Try.prog 8 #[.int .u64 x, .int .u64 y, .slice at1 xs.length cap1, .slice at2 ys.length cap2] w fun e w' => e = .returned (.bool true) ∧ Below w.heap.size w w' := by
  obtain ⟨_, hr1, hm1⟩ := hi1.room
  obtain ⟨_, hr2, hm2⟩ := hi2.room
  have L_p_0 := Lib.hid hi1
  have L_q_0 := Lib.hid hi2
  clear hi1 hi2
  obtain ⟨n, hn⟩ : ∃ n, y - x = n := ⟨_, rfl⟩
  have e1 := Lib.hid (show sinceV x y = n from (if_neg (by omega)).trans hn)
  have e2 := Lib.hid (show sinceE x y = 0 from if_neg (by omega))
  have hmax : n ≤ 18446744073709551615 - x := by unfold tick at tx ty; omega
  have e3 := Lib.hid (show afterV x n = y by unfold afterV; rw [if_neg (by omega)]; omega)
  have e4 := Lib.hid (show afterE x n = 0 from if_neg (by omega))
  have tn : tick n := by unfold tick at tx ty ⊢; omega
  have d0 : decide (x ≤ y) = true := decide_eq_true ho
  clear hn hmax ho
  have d1 : decide ((40 : Int) < (xs.length : Int)) = false := decide_eq_false (by omega)
  have d2 : decide ((40 : Int) < (ys.length : Int)) = false := decide_eq_false (by omega)
  obtain ⟨C, hC⟩ : ∃ C, mg xs ys = C := ⟨_, rfl⟩
  have a1 := Lib.hid (show mgV xs ys = C by rw [mgV_ok (by omega) (by omega) r1 r2]; exact hC)
  have a2 := Lib.hid (show mgE xs ys = 0 from mgE_ok (by omega) (by omega) r1 r2)
  have a3 := Lib.hid (show mgV ys xs = C by rw [mgV_ok (by omega) (by omega) r2 r1, mg_comm ys xs r2 r1]; exact hC)
  have a4 := Lib.hid (show mgE ys xs = 0 from mgE_ok (by omega) (by omega) r2 r1)
  have hCl : C.length = xs.length + ys.length := by rw [← hC, mg_len]
  have hCr := Lib.hid (show risB C = true by rw [← hC, ris_iff]; exact mg_sorted _ _ ((ris_iff _).1 r1) ((ris_iff _).1 r2))
  have hcnt := Lib.hid (show ∀ t, cnt C t C.length = cnt xs t xs.length + cnt ys t ys.length by rw [← hC]; exact cnt_mg xs ys)
  have c40 : C.length ≤ 80 := by omega
  have d3 : ((C.length : Int) != (xs.length : Int) + (ys.length : Int)) = false := by rw [hCl]; simp
  clear hC hCl
  have b1 := Lib.hid r1
  have b2 := Lib.hid r2
  clear r1 r2
  go_enter Try.func8, Try.ntmps8
  go_wp2_with fail
  refine (since_is e1 e2 tx ty).mono ?_
  rintro e w1 ⟨rfl, hb⟩
  have hB1 : Below w.heap.size w w1 := below_thru (by go_grown) hb
  have hs1 : w.heap.size ≤ w1.heap.size := hB1.size
  have L_p_1 : Hid (IsL w1 .u64 (.slice at1 xs.length cap1) xs) := Lib.hid (IsL.below (by repeat (first | (with_reducible exact Hid.out (by with_reducible assumption)) | (with_reducible refine IsL.alloc ?_ _) | (with_reducible refine IsL.drew ?_) | (with_reducible refine IsL.drewN ?_ _) | (with_reducible exact IsL.none))) hb)
  have L_q_1 : Hid (IsL w1 .u64 (.slice at2 ys.length cap2) ys) := Lib.hid (IsL.below (by repeat (first | (with_reducible exact Hid.out (by with_reducible assumption)) | (with_reducible refine IsL.alloc ?_ _) | (with_reducible refine IsL.drew ?_) | (with_reducible refine IsL.drewN ?_ _) | (with_reducible exact IsL.none))) hb)
  clear hb L_p_0 L_q_0
  go_wp2_with fail
  refine (after_is e3 e4 tx tn).mono ?_
  rintro e w2 ⟨rfl, hb⟩
  have hB2 : Below w.heap.size w w2 := below_thru (by go_grown) hb
  have hs2 : w.heap.size ≤ w2.heap.size := hB2.size
  have L_p_2 : Hid (IsL w2 .u64 (.slice at1 xs.length cap1) xs) := Lib.hid (IsL.below (by repeat (first | (with_reducible exact Hid.out (by with_reducible assumption)) | (with_reducible refine IsL.alloc ?_ _) | (with_reducible refine IsL.drew ?_) | (with_reducible refine IsL.drewN ?_ _) | (with_reducible exact IsL.none))) hb)
  have L_q_2 : Hid (IsL w2 .u64 (.slice at2 ys.length cap2) ys) := Lib.hid (IsL.below (by repeat (first | (with_reducible exact Hid.out (by with_reducible assumption)) | (with_reducible refine IsL.alloc ?_ _) | (with_reducible refine IsL.drew ?_) | (with_reducible refine IsL.drewN ?_ _) | (with_reducible exact IsL.none))) hb)
  clear hb hB1 hs1 L_p_1 L_q_1
  go_wp2_with fail
  refine (rising_b b1 (by repeat (first | (with_reducible exact Hid.out (by with_reducible assumption)) | (with_reducible refine IsL.alloc ?_ _) | (with_reducible refine IsL.drew ?_) | (with_reducible refine IsL.drewN ?_ _) | (with_reducible exact IsL.none)))).mono ?_
  rintro e w3 ⟨rfl, hb⟩
  have hB3 : Below w.heap.size w w3 := below_thru (by go_grown) hb
  have hs3 : w.heap.size ≤ w3.heap.size := hB3.size
  have L_p_3 : Hid (IsL w3 .u64 (.slice at1 xs.length cap1) xs) := Lib.hid (IsL.below (by repeat (first | (with_reducible exact Hid.out (by with_reducible assumption)) | (with_reducible refine IsL.alloc ?_ _) | (with_reducible refine IsL.drew ?_) | (with_reducible refine IsL.drewN ?_ _) | (with_reducible exact IsL.none))) hb)
  have L_q_3 : Hid (IsL w3 .u64 (.slice at2 ys.length cap2) ys) := Lib.hid (IsL.below (by repeat (first | (with_reducible exact Hid.out (by with_reducible assumption)) | (with_reducible refine IsL.alloc ?_ _) | (with_reducible refine IsL.drew ?_) | (with_reducible refine IsL.drewN ?_ _) | (with_reducible exact IsL.none))) hb)
  clear hb hB2 hs2 L_p_2 L_q_2
  go_wp2_with fail
  refine (rising_b b2 (by repeat (first | (with_reducible exact Hid.out (by with_reducible assumption)) | (with_reducible refine IsL.alloc ?_ _) | (with_reducible refine IsL.drew ?_) | (with_reducible refine IsL.drewN ?_ _) | (with_reducible exact IsL.none)))).mono ?_
  rintro e w4 ⟨rfl, hb⟩
  have hB4 : Below w.heap.size w w4 := below_thru (by go_grown) hb
  have hs4 : w.heap.size ≤ w4.heap.size := hB4.size
  have L_p_4 : Hid (IsL w4 .u64 (.slice at1 xs.length cap1) xs) := Lib.hid (IsL.below (by repeat (first | (with_reducible exact Hid.out (by with_reducible assumption)) | (with_reducible refine IsL.alloc ?_ _) | (with_reducible refine IsL.drew ?_) | (with_reducible refine IsL.drewN ?_ _) | (with_reducible exact IsL.none))) hb)
  have L_q_4 : Hid (IsL w4 .u64 (.slice at2 ys.length cap2) ys) := Lib.hid (IsL.below (by repeat (first | (with_reducible exact Hid.out (by with_reducible assumption)) | (with_reducible refine IsL.alloc ?_ _) | (with_reducible refine IsL.drew ?_) | (with_reducible refine IsL.drewN ?_ _) | (with_reducible exact IsL.none))) hb)
  clear hb hB3 hs3 L_p_3 L_q_3
  go_wp2_with fail
  refine (merge_is a1 a2 (by repeat (first | (with_reducible exact Hid.out (by with_reducible assumption)) | (with_reducible refine IsL.alloc ?_ _) | (with_reducible refine IsL.drew ?_) | (with_reducible refine IsL.drewN ?_ _) | (with_reducible exact IsL.none))) (by repeat (first | (with_reducible exact Hid.out (by with_reducible assumption)) | (with_reducible refine IsL.alloc ?_ _) | (with_reducible refine IsL.drew ?_) | (with_reducible refine IsL.drewN ?_ _) | (with_reducible exact IsL.none)))).mono ?_
  rintro e w5 ⟨v_c, rfl, hl, hb⟩
  have hB5 : Below w.heap.size w w5 := below_thru (by go_grown) hb
  have hs5 : w.heap.size ≤ w5.heap.size := hB5.size
  have L_p_5 : Hid (IsL w5 .u64 (.slice at1 xs.length cap1) xs) := Lib.hid (IsL.below (by repeat (first | (with_reducible exact Hid.out (by with_reducible assumption)) | (with_reducible refine IsL.alloc ?_ _) | (with_reducible refine IsL.drew ?_) | (with_reducible refine IsL.drewN ?_ _) | (with_reducible exact IsL.none))) hb)
  have L_q_5 : Hid (IsL w5 .u64 (.slice at2 ys.length cap2) ys) := Lib.hid (IsL.below (by repeat (first | (with_reducible exact Hid.out (by with_reducible assumption)) | (with_reducible refine IsL.alloc ?_ _) | (with_reducible refine IsL.drew ?_) | (with_reducible refine IsL.drewN ?_ _) | (with_reducible exact IsL.none))) hb)
  clear hb hB4 hs4 L_p_4 L_q_4
  have L_c_5 := Lib.hid hl
  clear hl
  go_wp2_with fail
  refine (merge_is a3 a4 (by repeat (first | (with_reducible exact Hid.out (by with_reducible assumption)) | (with_reducible refine IsL.alloc ?_ _) | (with_reducible refine IsL.drew ?_) | (with_reducible refine IsL.drewN ?_ _) | (with_reducible exact IsL.none))) (by repeat (first | (with_reducible exact Hid.out (by with_reducible assumption)) | (with_reducible refine IsL.alloc ?_ _) | (with_reducible refine IsL.drew ?_) | (with_reducible refine IsL.drewN ?_ _) | (with_reducible exact IsL.none)))).mono ?_
  rintro e w6 ⟨v_d, rfl, hl, hb⟩
  have hB6 : Below w.heap.size w w6 := below_thru (by go_grown) hb
  have hs6 : w.heap.size ≤ w6.heap.size := hB6.size
  have L_p_6 : Hid (IsL w6 .u64 (.slice at1 xs.length cap1) xs) := Lib.hid (IsL.below (by repeat (first | (with_reducible exact Hid.out (by with_reducible assumption)) | (with_reducible refine IsL.alloc ?_ _) | (with_reducible refine IsL.drew ?_) | (with_reducible refine IsL.drewN ?_ _) | (with_reducible exact IsL.none))) hb)
  have L_q_6 : Hid (IsL w6 .u64 (.slice at2 ys.length cap2) ys) := Lib.hid (IsL.below (by repeat (first | (with_reducible exact Hid.out (by with_reducible assumption)) | (with_reducible refine IsL.alloc ?_ _) | (with_reducible refine IsL.drew ?_) | (with_reducible refine IsL.drewN ?_ _) | (with_reducible exact IsL.none))) hb)
  have L_c_6 : Hid (IsL w6 .u64 v_c C) := Lib.hid (IsL.below (by repeat (first | (with_reducible exact Hid.out (by with_reducible assumption)) | (with_reducible refine IsL.alloc ?_ _) | (with_reducible refine IsL.drew ?_) | (with_reducible refine IsL.drewN ?_ _) | (with_reducible exact IsL.none))) hb)
  clear hb hB5 hs5 L_p_5 L_q_5 L_c_5
  have L_d_6 := Lib.hid hl
  clear hl
  go_wp2_with fail
  refine (same_tt (xs := C) (by repeat (first | (with_reducible exact Hid.out (by with_reducible assumption)) | (with_reducible refine IsL.alloc ?_ _) | (with_reducible refine IsL.drew ?_) | (with_reducible refine IsL.drewN ?_ _) | (with_reducible exact IsL.none))) (by repeat (first | (with_reducible exact Hid.out (by with_reducible assumption)) | (with_reducible refine IsL.alloc ?_ _) | (with_reducible refine IsL.drew ?_) | (with_reducible refine IsL.drewN ?_ _) | (with_reducible exact IsL.none)))).mono ?_
  rintro e w7 ⟨rfl, hb⟩
  have hB7 : Below w.heap.size w w7 := below_thru (by go_grown) hb
  have hs7 : w.heap.size ≤ w7.heap.size := hB7.size
  have L_p_7 : Hid (IsL w7 .u64 (.slice at1 xs.length cap1) xs) := Lib.hid (IsL.below (by repeat (first | (with_reducible exact Hid.out (by with_reducible assumption)) | (with_reducible refine IsL.alloc ?_ _) | (with_reducible refine IsL.drew ?_) | (with_reducible refine IsL.drewN ?_ _) | (with_reducible exact IsL.none))) hb)
  have L_q_7 : Hid (IsL w7 .u64 (.slice at2 ys.length cap2) ys) := Lib.hid (IsL.below (by repeat (first | (with_reducible exact Hid.out (by with_reducible assumption)) | (with_reducible refine IsL.alloc ?_ _) | (with_reducible refine IsL.drew ?_) | (with_reducible refine IsL.drewN ?_ _) | (with_reducible exact IsL.none))) hb)
  have L_c_7 : Hid (IsL w7 .u64 v_c C) := Lib.hid (IsL.below (by repeat (first | (with_reducible exact Hid.out (by with_reducible assumption)) | (with_reducible refine IsL.alloc ?_ _) | (with_reducible refine IsL.drew ?_) | (with_reducible refine IsL.drewN ?_ _) | (with_reducible exact IsL.none))) hb)
  have L_d_7 : Hid (IsL w7 .u64 v_d C) := Lib.hid (IsL.below (by repeat (first | (with_reducible exact Hid.out (by with_reducible assumption)) | (with_reducible refine IsL.alloc ?_ _) | (with_reducible refine IsL.drew ?_) | (with_reducible refine IsL.drewN ?_ _) | (with_reducible exact IsL.none))) hb)
  clear hb hB6 hs6 L_p_6 L_q_6 L_c_6 L_d_6
  clear L_d_7
  go_wp2_with fail
  refine (rising_b hCr (by repeat (first | (with_reducible exact Hid.out (by with_reducible assumption)) | (with_reducible refine IsL.alloc ?_ _) | (with_reducible refine IsL.drew ?_) | (with_reducible refine IsL.drewN ?_ _) | (with_reducible exact IsL.none)))).mono ?_
  rintro e w8 ⟨rfl, hb⟩
  have hB8 : Below w.heap.size w w8 := below_thru (by go_grown) hb
  have hs8 : w.heap.size ≤ w8.heap.size := hB8.size
  have L_p_8 : Hid (IsL w8 .u64 (.slice at1 xs.length cap1) xs) := Lib.hid (IsL.below (by repeat (first | (with_reducible exact Hid.out (by with_reducible assumption)) | (with_reducible refine IsL.alloc ?_ _) | (with_reducible refine IsL.drew ?_) | (with_reducible refine IsL.drewN ?_ _) | (with_reducible exact IsL.none))) hb)
  have L_q_8 : Hid (IsL w8 .u64 (.slice at2 ys.length cap2) ys) := Lib.hid (IsL.below (by repeat (first | (with_reducible exact Hid.out (by with_reducible assumption)) | (with_reducible refine IsL.alloc ?_ _) | (with_reducible refine IsL.drew ?_) | (with_reducible refine IsL.drewN ?_ _) | (with_reducible exact IsL.none))) hb)
  have L_c_8 : Hid (IsL w8 .u64 v_c C) := Lib.hid (IsL.below (by repeat (first | (with_reducible exact Hid.out (by with_reducible assumption)) | (with_reducible refine IsL.alloc ?_ _) | (with_reducible refine IsL.drew ?_) | (with_reducible refine IsL.drewN ?_ _) | (with_reducible exact IsL.none))) hb)
  clear hb hB7 hs7 L_p_7 L_q_7 L_c_7
  obtain ⟨ac, cc, rfl, _⟩ := id L_c_8.out
  obtain ⟨_, hrc, hmc⟩ := L_c_8.out.room
  go_wp2_with fail
  go_loopw [17] (fun i wr => ∃ j : Nat, j ≤ C.length ∧ i = .int .i64 j ∧ Below w8.heap.size w8 wr) (fun i _ => C.length - (intOf i).toNat)
  case atStart => exact ⟨0, Nat.zero_le _, rfl, Below.refl _ _⟩
  case round =>
    obtain ⟨j, hj, rfl, hW⟩ := hrel
    by_cases hlt : j < C.length
    · have L1 := Lib.hid (IsL.below L_c_8.out hW)
      have L2 := Lib.hid (IsL.below L_p_8.out hW)
      have L3 := Lib.hid (IsL.below L_q_8.out hW)
      obtain ⟨b, o, e9, hc⟩ := L1.out.get j hlt
      subst e9
      obtain ⟨t, ht⟩ : ∃ t, nth C j = t := ⟨_, rfl⟩
      rw [ht] at hc
      obtain ⟨n1, h1⟩ : ∃ n, cnt C t C.length = n := ⟨_, rfl⟩
      obtain ⟨n2, h2⟩ : ∃ n, cnt xs t xs.length = n := ⟨_, rfl⟩
      obtain ⟨n3, h3⟩ : ∃ n, cnt ys t ys.length = n := ⟨_, rfl⟩
      have hs := hcnt.out t
      rw [h1, h2, h3] at hs
      have q2 := cnt_le xs t xs.length
      have q3 := cnt_le ys t ys.length
      rw [h2] at q2
      rw [h3] at q3
      have d5 : ((n1 : Int) != (n2 : Int) + (n3 : Int)) = false := by rw [hs]; simp
      have d6 : IntKind.i64.wrap ((n2 : Int) + (n3 : Int)) = (n2 : Int) + (n3 : Int) := IntWalk.i64_in _ (by omega)
      have h1' := Lib.hid h1
      have h2' := Lib.hid h2
      have h3' := Lib.hid h3
      have i0 : (0 : Int) ≤ (j : Int) := by omega
      have i1 : (j : Int) < (C.length : Int) := by omega
      clear h1 h2 h3 ht hs q2 q3
      go_wp2_with fail
      go_quiet ((go_at_call 27; first | exact Calls.quiet_of_same (times_is h1' (L1.out.drewN _)) | exact Calls.quiet_of_same (times_is h2' (L2.out.drewN _)) | exact Calls.quiet_of_same (times_is h3' (L3.out.drewN _))))
      go_wp2_with fail
      go_roundw
      case rel => exact ⟨j + 1, by omega, by go_num, below_drewN' hW _⟩
      case measure => simp [intOf]; omega
    · have HBw := Lib.hid (below_thru hB8 hW)
      obtain rfl : j = C.length := by omega
      go_wp2_with fail
      refine (alive02_any _).mono ?_
      rintro e w99 ⟨rfl, hb9⟩
      have hb9' := below_thru HBw.out hb9
      clear hb9
      go_wp2_with fail
      go_returns
      exact ⟨rfl, hb9'⟩

set_option maxRecDepth 100000 in
set_option maxHeartbeats 3200000 in
theorem since_gt_a (x y : Int) (xs ys : List Int) (at1 at2 : Option Addr) (cap1 cap2 : Nat) (w : World) (tx : tick x) (ty : tick y) (ho : y < x) (hi1 : IsL w .u64 (.slice at1 xs.length cap1) xs) (hi2 : IsL w .u64 (.slice at2 ys.length cap2) ys) (l1 : 40 < xs.length) :
    Calls Try.prog 8 #[.int .u64 x, .int .u64 y, .slice at1 xs.length cap1, .slice at2 ys.length cap2] w fun e w' => e = .returned (.bool true) ∧ Below w.heap.size w w' := by
  obtain ⟨_, hr1, hm1⟩ := hi1.room
  obtain ⟨_, hr2, hm2⟩ := hi2.room
  have L_p_0 := Lib.hid hi1
  have L_q_0 := Lib.hid hi2
  clear hi1 hi2
  have e1 := Lib.hid (show sinceV x y = 0 from if_pos ho)
  have e2 := Lib.hid (show sinceE x y = 32 from if_pos ho)
  have d0 : decide (x ≤ y) = false := decide_eq_false (by omega)
  clear ho
  have d1 : decide ((40 : Int) < (xs.length : Int)) = true := decide_eq_true (by omega)
  go_enter Try.func8, Try.ntmps8
  go_wp2_with fail
  refine (since_is e1 e2 tx ty).mono ?_
  rintro e w1 ⟨rfl, hb⟩
  have hB1 : Below w.heap.size w w1 := below_thru (by go_grown) hb
  have hs1 : w.heap.size ≤ w1.heap.size := hB1.size
  have L_p_1 : Hid (IsL w1 .u64 (.slice at1 xs.length cap1) xs) := Lib.hid (IsL.below (by repeat (first | (with_reducible exact Hid.out (by with_reducible assumption)) | (with_reducible refine IsL.alloc ?_ _) | (with_reducible refine IsL.drew ?_) | (with_reducible refine IsL.drewN ?_ _) | (with_reducible exact IsL.none))) hb)
  have L_q_1 : Hid (IsL w1 .u64 (.slice at2 ys.length cap2) ys) := Lib.hid (IsL.below (by repeat (first | (with_reducible exact Hid.out (by with_reducible assumption)) | (with_reducible refine IsL.alloc ?_ _) | (with_reducible refine IsL.drew ?_) | (with_reducible refine IsL.drewN ?_ _) | (with_reducible exact IsL.none))) hb)
  clear hb L_p_0 L_q_0
  go_wp2_with fail
  refine (alive02_any _).mono ?_
  rintro e w2 ⟨rfl, hb⟩
  have hB2 : Below w.heap.size w w2 := below_thru (by go_grown) hb
  have hs2 : w.heap.size ≤ w2.heap.size := hB2.size
  have L_p_2 : Hid (IsL w2 .u64 (.slice at1 xs.length cap1) xs) := Lib.hid (IsL.below (by repeat (first | (with_reducible exact Hid.out (by with_reducible assumption)) | (with_reducible refine IsL.alloc ?_ _) | (with_reducible refine IsL.drew ?_) | (with_reducible refine IsL.drewN ?_ _) | (with_reducible exact IsL.none))) hb)
  have L_q_2 : Hid (IsL w2 .u64 (.slice at2 ys.length cap2) ys) := Lib.hid (IsL.below (by repeat (first | (with_reducible exact Hid.out (by with_reducible assumption)) | (with_reducible refine IsL.alloc ?_ _) | (with_reducible refine IsL.drew ?_) | (with_reducible refine IsL.drewN ?_ _) | (with_reducible exact IsL.none))) hb)
  clear hb hB1 hs1 L_p_1 L_q_1
  go_wp2_with fail
  go_returns
  exact ⟨rfl, hB2⟩

set_option maxRecDepth 100000 in
set_option maxHeartbeats 3200000 in
theorem since_gt_b (x y : Int) (xs ys : List Int) (at1 at2 : Option Addr) (cap1 cap2 : Nat) (w : World) (tx : tick x) (ty : tick y) (ho : y < x) (hi1 : IsL w .u64 (.slice at1 xs.length cap1) xs) (hi2 : IsL w .u64 (.slice at2 ys.length cap2) ys) (l1 : xs.length ≤ 40) (l2 : 40 < ys.length) :
    Calls Try.prog 8 #[.int .u64 x, .int .u64 y, .slice at1 xs.length cap1, .slice at2 ys.length cap2] w fun e w' => e = .returned (.bool true) ∧ Below w.heap.size w w' := by
  obtain ⟨_, hr1, hm1⟩ := hi1.room
  obtain ⟨_, hr2, hm2⟩ := hi2.room
  have L_p_0 := Lib.hid hi1
  have L_q_0 := Lib.hid hi2
  clear hi1 hi2
  have e1 := Lib.hid (show sinceV x y = 0 from if_pos ho)
  have e2 := Lib.hid (show sinceE x y = 32 from if_pos ho)
  have d0 : decide (x ≤ y) = false := decide_eq_false (by omega)
  clear ho
  have d1 : decide ((40 : Int) < (xs.length : Int)) = false := decide_eq_false (by omega)
  have d2 : decide ((40 : Int) < (ys.length : Int)) = true := decide_eq_true (by omega)
  go_enter Try.func8, Try.ntmps8
  go_wp2_with fail
  refine (since_is e1 e2 tx ty).mono ?_
  rintro e w1 ⟨rfl, hb⟩
  have hB1 : Below w.heap.size w w1 := below_thru (by go_grown) hb
  have hs1 : w.heap.size ≤ w1.heap.size := hB1.size
  have L_p_1 : Hid (IsL w1 .u64 (.slice at1 xs.length cap1) xs) := Lib.hid (IsL.below (by repeat (first | (with_reducible exact Hid.out (by with_reducible assumption)) | (with_reducible refine IsL.alloc ?_ _) | (with_reducible refine IsL.drew ?_) | (with_reducible refine IsL.drewN ?_ _) | (with_reducible exact IsL.none))) hb)
  have L_q_1 : Hid (IsL w1 .u64 (.slice at2 ys.length cap2) ys) := Lib.hid (IsL.below (by repeat (first | (with_reducible exact Hid.out (by with_reducible assumption)) | (with_reducible refine IsL.alloc ?_ _) | (with_reducible refine IsL.drew ?_) | (with_reducible refine IsL.drewN ?_ _) | (with_reducible exact IsL.none))) hb)
  clear hb L_p_0 L_q_0
  go_wp2_with fail
  refine (alive02_any _).mono ?_
  rintro e w2 ⟨rfl, hb⟩
  have hB2 : Below w.heap.size w w2 := below_thru (by go_grown) hb
  have hs2 : w.heap.size ≤ w2.heap.size := hB2.size
  have L_p_2 : Hid (IsL w2 .u64 (.slice at1 xs.length cap1) xs) := Lib.hid (IsL.below (by repeat (first | (with_reducible exact Hid.out (by with_reducible assumption)) | (with_reducible refine IsL.alloc ?_ _) | (with_reducible refine IsL.drew ?_) | (with_reducible refine IsL.drewN ?_ _) | (with_reducible exact IsL.none))) hb)
  have L_q_2 : Hid (IsL w2 .u64 (.slice at2 ys.length cap2) ys) := Lib.hid (IsL.below (by repeat (first | (with_reducible exact Hid.out (by with_reducible assumption)) | (with_reducible refine IsL.alloc ?_ _) | (with_reducible refine IsL.drew ?_) | (with_reducible refine IsL.drewN ?_ _) | (with_reducible exact IsL.none))) hb)
  clear hb hB1 hs1 L_p_1 L_q_1
  go_wp2_with fail
  go_returns
  exact ⟨rfl, hB2⟩

set_option maxRecDepth 100000 in
set_option maxHeartbeats 3200000 in
theorem since_gt_ra (x y : Int) (xs ys : List Int) (at1 at2 : Option Addr) (cap1 cap2 : Nat) (w : World) (tx : tick x) (ty : tick y) (ho : y < x) (hi1 : IsL w .u64 (.slice at1 xs.length cap1) xs) (hi2 : IsL w .u64 (.slice at2 ys.length cap2) ys) (l1 : xs.length ≤ 40) (l2 : ys.length ≤ 40) (r1 : risB xs = false) :
    Calls Try.prog 8 #[.int .u64 x, .int .u64 y, .slice at1 xs.length cap1, .slice at2 ys.length cap2] w fun e w' => e = .returned (.bool true) ∧ Below w.heap.size w w' := by
  obtain ⟨_, hr1, hm1⟩ := hi1.room
  obtain ⟨_, hr2, hm2⟩ := hi2.room
  have L_p_0 := Lib.hid hi1
  have L_q_0 := Lib.hid hi2
  clear hi1 hi2
  have e1 := Lib.hid (show sinceV x y = 0 from if_pos ho)
  have e2 := Lib.hid (show sinceE x y = 32 from if_pos ho)
  have d0 : decide (x ≤ y) = false := decide_eq_false (by omega)
  clear ho
  have d1 : decide ((40 : Int) < (xs.length : Int)) = false := decide_eq_false (by omega)
  have d2 : decide ((40 : Int) < (ys.length : Int)) = false := decide_eq_false (by omega)
  have b1 := Lib.hid r1
  clear r1
  go_enter Try.func8, Try.ntmps8
  go_wp2_with fail
  refine (since_is e1 e2 tx ty).mono ?_
  rintro e w1 ⟨rfl, hb⟩
  have hB1 : Below w.heap.size w w1 := below_thru (by go_grown) hb
  have hs1 : w.heap.size ≤ w1.heap.size := hB1.size
  have L_p_1 : Hid (IsL w1 .u64 (.slice at1 xs.length cap1) xs) := Lib.hid (IsL.below (by repeat (first | (with_reducible exact Hid.out (by with_reducible assumption)) | (with_reducible refine IsL.alloc ?_ _) | (with_reducible refine IsL.drew ?_) | (with_reducible refine IsL.drewN ?_ _) | (with_reducible exact IsL.none))) hb)
  have L_q_1 : Hid (IsL w1 .u64 (.slice at2 ys.length cap2) ys) := Lib.hid (IsL.below (by repeat (first | (with_reducible exact Hid.out (by with_reducible assumption)) | (with_reducible refine IsL.alloc ?_ _) | (with_reducible refine IsL.drew ?_) | (with_reducible refine IsL.drewN ?_ _) | (with_reducible exact IsL.none))) hb)
  clear hb L_p_0 L_q_0
  go_wp2_with fail
  refine (rising_b b1 (by repeat (first | (with_reducible exact Hid.out (by with_reducible assumption)) | (with_reducible refine IsL.alloc ?_ _) | (with_reducible refine IsL.drew ?_) | (with_reducible refine IsL.drewN ?_ _) | (with_reducible exact IsL.none)))).mono ?_
  rintro e w2 ⟨rfl, hb⟩
  have hB2 : Below w.heap.size w w2 := below_thru (by go_grown) hb
  have hs2 : w.heap.size ≤ w2.heap.size := hB2.size
  have L_p_2 : Hid (IsL w2 .u64 (.slice at1 xs.length cap1) xs) := Lib.hid (IsL.below (by repeat (first | (with_reducible exact Hid.out (by with_reducible assumption)) | (with_reducible refine IsL.alloc ?_ _) | (with_reducible refine IsL.drew ?_) | (with_reducible refine IsL.drewN ?_ _) | (with_reducible exact IsL.none))) hb)
  have L_q_2 : Hid (IsL w2 .u64 (.slice at2 ys.length cap2) ys) := Lib.hid (IsL.below (by repeat (first | (with_reducible exact Hid.out (by with_reducible assumption)) | (with_reducible refine IsL.alloc ?_ _) | (with_reducible refine IsL.drew ?_) | (with_reducible refine IsL.drewN ?_ _) | (with_reducible exact IsL.none))) hb)
  clear hb hB1 hs1 L_p_1 L_q_1
  go_wp2_with fail
  refine (alive02_any _).mono ?_
  rintro e w3 ⟨rfl, hb⟩
  have hB3 : Below w.heap.size w w3 := below_thru (by go_grown) hb
  have hs3 : w.heap.size ≤ w3.heap.size := hB3.size
  have L_p_3 : Hid (IsL w3 .u64 (.slice at1 xs.length cap1) xs) := Lib.hid (IsL.below (by repeat (first | (with_reducible exact Hid.out (by with_reducible assumption)) | (with_reducible refine IsL.alloc ?_ _) | (with_reducible refine IsL.drew ?_) | (with_reducible refine IsL.drewN ?_ _) | (with_reducible exact IsL.none))) hb)
  have L_q_3 : Hid (IsL w3 .u64 (.slice at2 ys.length cap2) ys) := Lib.hid (IsL.below (by repeat (first | (with_reducible exact Hid.out (by with_reducible assumption)) | (with_reducible refine IsL.alloc ?_ _) | (with_reducible refine IsL.drew ?_) | (with_reducible refine IsL.drewN ?_ _) | (with_reducible exact IsL.none))) hb)
  clear hb hB2 hs2 L_p_2 L_q_2
  go_wp2_with fail
  go_returns
  exact ⟨rfl, hB3⟩

set_option maxRecDepth 100000 in
set_option maxHeartbeats 3200000 in
theorem since_gt_rb (x y : Int) (xs ys : List Int) (at1 at2 : Option Addr) (cap1 cap2 : Nat) (w : World) (tx : tick x) (ty : tick y) (ho : y < x) (hi1 : IsL w .u64 (.slice at1 xs.length cap1) xs) (hi2 : IsL w .u64 (.slice at2 ys.length cap2) ys) (l1 : xs.length ≤ 40) (l2 : ys.length ≤ 40) (r1 : risB xs = true) (r2 : risB ys = false) :
    Calls Try.prog 8 #[.int .u64 x, .int .u64 y, .slice at1 xs.length cap1, .slice at2 ys.length cap2] w fun e w' => e = .returned (.bool true) ∧ Below w.heap.size w w' := by
  obtain ⟨_, hr1, hm1⟩ := hi1.room
  obtain ⟨_, hr2, hm2⟩ := hi2.room
  have L_p_0 := Lib.hid hi1
  have L_q_0 := Lib.hid hi2
  clear hi1 hi2
  have e1 := Lib.hid (show sinceV x y = 0 from if_pos ho)
  have e2 := Lib.hid (show sinceE x y = 32 from if_pos ho)
  have d0 : decide (x ≤ y) = false := decide_eq_false (by omega)
  clear ho
  have d1 : decide ((40 : Int) < (xs.length : Int)) = false := decide_eq_false (by omega)
  have d2 : decide ((40 : Int) < (ys.length : Int)) = false := decide_eq_false (by omega)
  have b1 := Lib.hid r1
  have b2 := Lib.hid r2
  clear r1 r2
  go_enter Try.func8, Try.ntmps8
  go_wp2_with fail
  refine (since_is e1 e2 tx ty).mono ?_
  rintro e w1 ⟨rfl, hb⟩
  have hB1 : Below w.heap.size w w1 := below_thru (by go_grown) hb
  have hs1 : w.heap.size ≤ w1.heap.size := hB1.size
  have L_p_1 : Hid (IsL w1 .u64 (.slice at1 xs.length cap1) xs) := Lib.hid (IsL.below (by repeat (first | (with_reducible exact Hid.out (by with_reducible assumption)) | (with_reducible refine IsL.alloc ?_ _) | (with_reducible refine IsL.drew ?_) | (with_reducible refine IsL.drewN ?_ _) | (with_reducible exact IsL.none))) hb)
  have L_q_1 : Hid (IsL w1 .u64 (.slice at2 ys.length cap2) ys) := Lib.hid (IsL.below (by repeat (first | (with_reducible exact Hid.out (by with_reducible assumption)) | (with_reducible refine IsL.alloc ?_ _) | (with_reducible refine IsL.drew ?_) | (with_reducible refine IsL.drewN ?_ _) | (with_reducible exact IsL.none))) hb)
  clear hb L_p_0 L_q_0
  go_wp2_with fail
  refine (rising_b b1 (by repeat (first | (with_reducible exact Hid.out (by with_reducible assumption)) | (with_reducible refine IsL.alloc ?_ _) | (with_reducible refine IsL.drew ?_) | (with_reducible refine IsL.drewN ?_ _) | (with_reducible exact IsL.none)))).mono ?_
  rintro e w2 ⟨rfl, hb⟩
  have hB2 : Below w.heap.size w w2 := below_thru (by go_grown) hb
  have hs2 : w.heap.size ≤ w2.heap.size := hB2.size
  have L_p_2 : Hid (IsL w2 .u64 (.slice at1 xs.length cap1) xs) := Lib.hid (IsL.below (by repeat (first | (with_reducible exact Hid.out (by with_reducible assumption)) | (with_reducible refine IsL.alloc ?_ _) | (with_reducible refine IsL.drew ?_) | (with_reducible refine IsL.drewN ?_ _) | (with_reducible exact IsL.none))) hb)
  have L_q_2 : Hid (IsL w2 .u64 (.slice at2 ys.length cap2) ys) := Lib.hid (IsL.below (by repeat (first | (with_reducible exact Hid.out (by with_reducible assumption)) | (with_reducible refine IsL.alloc ?_ _) | (with_reducible refine IsL.drew ?_) | (with_reducible refine IsL.drewN ?_ _) | (with_reducible exact IsL.none))) hb)
  clear hb hB1 hs1 L_p_1 L_q_1
  go_wp2_with fail
  refine (rising_b b2 (by repeat (first | (with_reducible exact Hid.out (by with_reducible assumption)) | (with_reducible refine IsL.alloc ?_ _) | (with_reducible refine IsL.drew ?_) | (with_reducible refine IsL.drewN ?_ _) | (with_reducible exact IsL.none)))).mono ?_
  rintro e w3 ⟨rfl, hb⟩
  have hB3 : Below w.heap.size w w3 := below_thru (by go_grown) hb
  have hs3 : w.heap.size ≤ w3.heap.size := hB3.size
  have L_p_3 : Hid (IsL w3 .u64 (.slice at1 xs.length cap1) xs) := Lib.hid (IsL.below (by repeat (first | (with_reducible exact Hid.out (by with_reducible assumption)) | (with_reducible refine IsL.alloc ?_ _) | (with_reducible refine IsL.drew ?_) | (with_reducible refine IsL.drewN ?_ _) | (with_reducible exact IsL.none))) hb)
  have L_q_3 : Hid (IsL w3 .u64 (.slice at2 ys.length cap2) ys) := Lib.hid (IsL.below (by repeat (first | (with_reducible exact Hid.out (by with_reducible assumption)) | (with_reducible refine IsL.alloc ?_ _) | (with_reducible refine IsL.drew ?_) | (with_reducible refine IsL.drewN ?_ _) | (with_reducible exact IsL.none))) hb)
  clear hb hB2 hs2 L_p_2 L_q_2
  go_wp2_with fail
  refine (alive02_any _).mono ?_
  rintro e w4 ⟨rfl, hb⟩
  have hB4 : Below w.heap.size w w4 := below_thru (by go_grown) hb
  have hs4 : w.heap.size ≤ w4.heap.size := hB4.size
  have L_p_4 : Hid (IsL w4 .u64 (.slice at1 xs.length cap1) xs) := Lib.hid (IsL.below (by repeat (first | (with_reducible exact Hid.out (by with_reducible assumption)) | (with_reducible refine IsL.alloc ?_ _) | (with_reducible refine IsL.drew ?_) | (with_reducible refine IsL.drewN ?_ _) | (with_reducible exact IsL.none))) hb)
  have L_q_4 : Hid (IsL w4 .u64 (.slice at2 ys.length cap2) ys) := Lib.hid (IsL.below (by repeat (first | (with_reducible exact Hid.out (by with_reducible assumption)) | (with_reducible refine IsL.alloc ?_ _) | (with_reducible refine IsL.drew ?_) | (with_reducible refine IsL.drewN ?_ _) | (with_reducible exact IsL.none))) hb)
  clear hb hB3 hs3 L_p_3 L_q_3
  go_wp2_with fail
  go_returns
  exact ⟨rfl, hB4⟩

set_option maxRecDepth 100000 in
set_option maxHeartbeats 3200000 in
theorem since_gt_ok (x y : Int) (xs ys : List Int) (at1 at2 : Option Addr) (cap1 cap2 : Nat) (w : World) (tx : tick x) (ty : tick y) (ho : y < x) (hi1 : IsL w .u64 (.slice at1 xs.length cap1) xs) (hi2 : IsL w .u64 (.slice at2 ys.length cap2) ys) (l1 : xs.length ≤ 40) (l2 : ys.length ≤ 40) (r1 : risB xs = true) (r2 : risB ys = true) :
    Calls Try.prog 8 #[.int .u64 x, .int .u64 y, .slice at1 xs.length cap1, .slice at2 ys.length cap2] w fun e w' => e = .returned (.bool true) ∧ Below w.heap.size w w' := by
  obtain ⟨_, hr1, hm1⟩ := hi1.room
  obtain ⟨_, hr2, hm2⟩ := hi2.room
  have L_p_0 := Lib.hid hi1
  have L_q_0 := Lib.hid hi2
  clear hi1 hi2
  have e1 := Lib.hid (show sinceV x y = 0 from if_pos ho)
  have e2 := Lib.hid (show sinceE x y = 32 from if_pos ho)
  have d0 : decide (x ≤ y) = false := decide_eq_false (by omega)
  clear ho
  have d1 : decide ((40 : Int) < (xs.length : Int)) = false := decide_eq_false (by omega)
  have d2 : decide ((40 : Int) < (ys.length : Int)) = false := decide_eq_false (by omega)
  obtain ⟨C, hC⟩ : ∃ C, mg xs ys = C := ⟨_, rfl⟩
  have a1 := Lib.hid (show mgV xs ys = C by rw [mgV_ok (by omega) (by omega) r1 r2]; exact hC)
  have a2 := Lib.hid (show mgE xs ys = 0 from mgE_ok (by omega) (by omega) r1 r2)
  have a3 := Lib.hid (show mgV ys xs = C by rw [mgV_ok (by omega) (by omega) r2 r1, mg_comm ys xs r2 r1]; exact hC)
  have a4 := Lib.hid (show mgE ys xs = 0 from mgE_ok (by omega) (by omega) r2 r1)
  have hCl : C.length = xs.length + ys.length := by rw [← hC, mg_len]
  have hCr := Lib.hid (show risB C = true by rw [← hC, ris_iff]; exact mg_sorted _ _ ((ris_iff _).1 r1) ((ris_iff _).1 r2))
  have hcnt := Lib.hid (show ∀ t, cnt C t C.length = cnt xs t xs.length + cnt ys t ys.length by rw [← hC]; exact cnt_mg xs ys)
  have c40 : C.length ≤ 80 := by omega
  have d3 : ((C.length : Int) != (xs.length : Int) + (ys.length : Int)) = false := by rw [hCl]; simp
  clear hC hCl
  have b1 := Lib.hid r1
  have b2 := Lib.hid r2
  clear r1 r2
  go_enter Try.func8, Try.ntmps8
  go_wp2_with fail
  refine (since_is e1 e2 tx ty).mono ?_
  rintro e w1 ⟨rfl, hb⟩
  have hB1 : Below w.heap.size w w1 := below_thru (by go_grown) hb
  have hs1 : w.heap.size ≤ w1.heap.size := hB1.size
  have L_p_1 : Hid (IsL w1 .u64 (.slice at1 xs.length cap1) xs) := Lib.hid (IsL.below (by repeat (first | (with_reducible exact Hid.out (by with_reducible assumption)) | (with_reducible refine IsL.alloc ?_ _) | (with_reducible refine IsL.drew ?_) | (with_reducible refine IsL.drewN ?_ _) | (with_reducible exact IsL.none))) hb)
  have L_q_1 : Hid (IsL w1 .u64 (.slice at2 ys.length cap2) ys) := Lib.hid (IsL.below (by repeat (first | (with_reducible exact Hid.out (by with_reducible assumption)) | (with_reducible refine IsL.alloc ?_ _) | (with_reducible refine IsL.drew ?_) | (with_reducible refine IsL.drewN ?_ _) | (with_reducible exact IsL.none))) hb)
  clear hb L_p_0 L_q_0
  go_wp2_with fail
  refine (rising_b b1 (by repeat (first | (with_reducible exact Hid.out (by with_reducible assumption)) | (with_reducible refine IsL.alloc ?_ _) | (with_reducible refine IsL.drew ?_) | (with_reducible refine IsL.drewN ?_ _) | (with_reducible exact IsL.none)))).mono ?_
  rintro e w2 ⟨rfl, hb⟩
  have hB2 : Below w.heap.size w w2 := below_thru (by go_grown) hb
  have hs2 : w.heap.size ≤ w2.heap.size := hB2.size
  have L_p_2 : Hid (IsL w2 .u64 (.slice at1 xs.length cap1) xs) := Lib.hid (IsL.below (by repeat (first | (with_reducible exact Hid.out (by with_reducible assumption)) | (with_reducible refine IsL.alloc ?_ _) | (with_reducible refine IsL.drew ?_) | (with_reducible refine IsL.drewN ?_ _) | (with_reducible exact IsL.none))) hb)
  have L_q_2 : Hid (IsL w2 .u64 (.slice at2 ys.length cap2) ys) := Lib.hid (IsL.below (by repeat (first | (with_reducible exact Hid.out (by with_reducible assumption)) | (with_reducible refine IsL.alloc ?_ _) | (with_reducible refine IsL.drew ?_) | (with_reducible refine IsL.drewN ?_ _) | (with_reducible exact IsL.none))) hb)
  clear hb hB1 hs1 L_p_1 L_q_1
  go_wp2_with fail
  refine (rising_b b2 (by repeat (first | (with_reducible exact Hid.out (by with_reducible assumption)) | (with_reducible refine IsL.alloc ?_ _) | (with_reducible refine IsL.drew ?_) | (with_reducible refine IsL.drewN ?_ _) | (with_reducible exact IsL.none)))).mono ?_
  rintro e w3 ⟨rfl, hb⟩
  have hB3 : Below w.heap.size w w3 := below_thru (by go_grown) hb
  have hs3 : w.heap.size ≤ w3.heap.size := hB3.size
  have L_p_3 : Hid (IsL w3 .u64 (.slice at1 xs.length cap1) xs) := Lib.hid (IsL.below (by repeat (first | (with_reducible exact Hid.out (by with_reducible assumption)) | (with_reducible refine IsL.alloc ?_ _) | (with_reducible refine IsL.drew ?_) | (with_reducible refine IsL.drewN ?_ _) | (with_reducible exact IsL.none))) hb)
  have L_q_3 : Hid (IsL w3 .u64 (.slice at2 ys.length cap2) ys) := Lib.hid (IsL.below (by repeat (first | (with_reducible exact Hid.out (by with_reducible assumption)) | (with_reducible refine IsL.alloc ?_ _) | (with_reducible refine IsL.drew ?_) | (with_reducible refine IsL.drewN ?_ _) | (with_reducible exact IsL.none))) hb)
  clear hb hB2 hs2 L_p_2 L_q_2
  go_wp2_with fail
  refine (merge_is a1 a2 (by repeat (first | (with_reducible exact Hid.out (by with_reducible assumption)) | (with_reducible refine IsL.alloc ?_ _) | (with_reducible refine IsL.drew ?_) | (with_reducible refine IsL.drewN ?_ _) | (with_reducible exact IsL.none))) (by repeat (first | (with_reducible exact Hid.out (by with_reducible assumption)) | (with_reducible refine IsL.alloc ?_ _) | (with_reducible refine IsL.drew ?_) | (with_reducible refine IsL.drewN ?_ _) | (with_reducible exact IsL.none)))).mono ?_
  rintro e w4 ⟨v_c, rfl, hl, hb⟩
  have hB4 : Below w.heap.size w w4 := below_thru (by go_grown) hb
  have hs4 : w.heap.size ≤ w4.heap.size := hB4.size
  have L_p_4 : Hid (IsL w4 .u64 (.slice at1 xs.length cap1) xs) := Lib.hid (IsL.below (by repeat (first | (with_reducible exact Hid.out (by with_reducible assumption)) | (with_reducible refine IsL.alloc ?_ _) | (with_reducible refine IsL.drew ?_) | (with_reducible refine IsL.drewN ?_ _) | (with_reducible exact IsL.none))) hb)
  have L_q_4 : Hid (IsL w4 .u64 (.slice at2 ys.length cap2) ys) := Lib.hid (IsL.below (by repeat (first | (with_reducible exact Hid.out (by with_reducible assumption)) | (with_reducible refine IsL.alloc ?_ _) | (with_reducible refine IsL.drew ?_) | (with_reducible refine IsL.drewN ?_ _) | (with_reducible exact IsL.none))) hb)
  clear hb hB3 hs3 L_p_3 L_q_3
  have L_c_4 := Lib.hid hl
  clear hl
  go_wp2_with fail
  refine (merge_is a3 a4 (by repeat (first | (with_reducible exact Hid.out (by with_reducible assumption)) | (with_reducible refine IsL.alloc ?_ _) | (with_reducible refine IsL.drew ?_) | (with_reducible refine IsL.drewN ?_ _) | (with_reducible exact IsL.none))) (by repeat (first | (with_reducible exact Hid.out (by with_reducible assumption)) | (with_reducible refine IsL.alloc ?_ _) | (with_reducible refine IsL.drew ?_) | (with_reducible refine IsL.drewN ?_ _) | (with_reducible exact IsL.none)))).mono ?_
  rintro e w5 ⟨v_d, rfl, hl, hb⟩
  have hB5 : Below w.heap.size w w5 := below_thru (by go_grown) hb
  have hs5 : w.heap.size ≤ w5.heap.size := hB5.size
  have L_p_5 : Hid (IsL w5 .u64 (.slice at1 xs.length cap1) xs) := Lib.hid (IsL.below (by repeat (first | (with_reducible exact Hid.out (by with_reducible assumption)) | (with_reducible refine IsL.alloc ?_ _) | (with_reducible refine IsL.drew ?_) | (with_reducible refine IsL.drewN ?_ _) | (with_reducible exact IsL.none))) hb)
  have L_q_5 : Hid (IsL w5 .u64 (.slice at2 ys.length cap2) ys) := Lib.hid (IsL.below (by repeat (first | (with_reducible exact Hid.out (by with_reducible assumption)) | (with_reducible refine IsL.alloc ?_ _) | (with_reducible refine IsL.drew ?_) | (with_reducible refine IsL.drewN ?_ _) | (with_reducible exact IsL.none))) hb)
  have L_c_5 : Hid (IsL w5 .u64 v_c C) := Lib.hid (IsL.below (by repeat (first | (with_reducible exact Hid.out (by with_reducible assumption)) | (with_reducible refine IsL.alloc ?_ _) | (with_reducible refine IsL.drew ?_) | (with_reducible refine IsL.drewN ?_ _) | (with_reducible exact IsL.none))) hb)
  clear hb hB4 hs4 L_p_4 L_q_4 L_c_4
  have L_d_5 := Lib.hid hl
  clear hl
  go_wp2_with fail
  refine (same_tt (xs := C) (by repeat (first | (with_reducible exact Hid.out (by with_reducible assumption)) | (with_reducible refine IsL.alloc ?_ _) | (with_reducible refine IsL.drew ?_) | (with_reducible refine IsL.drewN ?_ _) | (with_reducible exact IsL.none))) (by repeat (first | (with_reducible exact Hid.out (by with_reducible assumption)) | (with_reducible refine IsL.alloc ?_ _) | (with_reducible refine IsL.drew ?_) | (with_reducible refine IsL.drewN ?_ _) | (with_reducible exact IsL.none)))).mono ?_
  rintro e w6 ⟨rfl, hb⟩
  have hB6 : Below w.heap.size w w6 := below_thru (by go_grown) hb
  have hs6 : w.heap.size ≤ w6.heap.size := hB6.size
  have L_p_6 : Hid (IsL w6 .u64 (.slice at1 xs.length cap1) xs) := Lib.hid (IsL.below (by repeat (first | (with_reducible exact Hid.out (by with_reducible assumption)) | (with_reducible refine IsL.alloc ?_ _) | (with_reducible refine IsL.drew ?_) | (with_reducible refine IsL.drewN ?_ _) | (with_reducible exact IsL.none))) hb)
  have L_q_6 : Hid (IsL w6 .u64 (.slice at2 ys.length cap2) ys) := Lib.hid (IsL.below (by repeat (first | (with_reducible exact Hid.out (by with_reducible assumption)) | (with_reducible refine IsL.alloc ?_ _) | (with_reducible refine IsL.drew ?_) | (with_reducible refine IsL.drewN ?_ _) | (with_reducible exact IsL.none))) hb)
  have L_c_6 : Hid (IsL w6 .u64 v_c C) := Lib.hid (IsL.below (by repeat (first | (with_reducible exact Hid.out (by with_reducible assumption)) | (with_reducible refine IsL.alloc ?_ _) | (with_reducible refine IsL.drew ?_) | (with_reducible refine IsL.drewN ?_ _) | (with_reducible exact IsL.none))) hb)
  have L_d_6 : Hid (IsL w6 .u64 v_d C) := Lib.hid (IsL.below (by repeat (first | (with_reducible exact Hid.out (by with_reducible assumption)) | (with_reducible refine IsL.alloc ?_ _) | (with_reducible refine IsL.drew ?_) | (with_reducible refine IsL.drewN ?_ _) | (with_reducible exact IsL.none))) hb)
  clear hb hB5 hs5 L_p_5 L_q_5 L_c_5 L_d_5
  clear L_d_6
  go_wp2_with fail
  refine (rising_b hCr (by repeat (first | (with_reducible exact Hid.out (by with_reducible assumption)) | (with_reducible refine IsL.alloc ?_ _) | (with_reducible refine IsL.drew ?_) | (with_reducible refine IsL.drewN ?_ _) | (with_reducible exact IsL.none)))).mono ?_
  rintro e w7 ⟨rfl, hb⟩
  have hB7 : Below w.heap.size w w7 := below_thru (by go_grown) hb
  have hs7 : w.heap.size ≤ w7.heap.size := hB7.size
  have L_p_7 : Hid (IsL w7 .u64 (.slice at1 xs.length cap1) xs) := Lib.hid (IsL.below (by repeat (first | (with_reducible exact Hid.out (by with_reducible assumption)) | (with_reducible refine IsL.alloc ?_ _) | (with_reducible refine IsL.drew ?_) | (with_reducible refine IsL.drewN ?_ _) | (with_reducible exact IsL.none))) hb)
  have L_q_7 : Hid (IsL w7 .u64 (.slice at2 ys.length cap2) ys) := Lib.hid (IsL.below (by repeat (first | (with_reducible exact Hid.out (by with_reducible assumption)) | (with_reducible refine IsL.alloc ?_ _) | (with_reducible refine IsL.drew ?_) | (with_reducible refine IsL.drewN ?_ _) | (with_reducible exact IsL.none))) hb)
  have L_c_7 : Hid (IsL w7 .u64 v_c C) := Lib.hid (IsL.below (by repeat (first | (with_reducible exact Hid.out (by with_reducible assumption)) | (with_reducible refine IsL.alloc ?_ _) | (with_reducible refine IsL.drew ?_) | (with_reducible refine IsL.drewN ?_ _) | (with_reducible exact IsL.none))) hb)
  clear hb hB6 hs6 L_p_6 L_q_6 L_c_6
  obtain ⟨ac, cc, rfl, _⟩ := id L_c_7.out
  obtain ⟨_, hrc, hmc⟩ := L_c_7.out.room
  go_wp2_with fail
  go_loopw [17] (fun i wr => ∃ j : Nat, j ≤ C.length ∧ i = .int .i64 j ∧ Below w7.heap.size w7 wr) (fun i _ => C.length - (intOf i).toNat)
  case atStart => exact ⟨0, Nat.zero_le _, rfl, Below.refl _ _⟩
  case round =>
    obtain ⟨j, hj, rfl, hW⟩ := hrel
    by_cases hlt : j < C.length
    · have L1 := Lib.hid (IsL.below L_c_7.out hW)
      have L2 := Lib.hid (IsL.below L_p_7.out hW)
      have L3 := Lib.hid (IsL.below L_q_7.out hW)
      obtain ⟨b, o, e9, hc⟩ := L1.out.get j hlt
      subst e9
      obtain ⟨t, ht⟩ : ∃ t, nth C j = t := ⟨_, rfl⟩
      rw [ht] at hc
      obtain ⟨n1, h1⟩ : ∃ n, cnt C t C.length = n := ⟨_, rfl⟩
      obtain ⟨n2, h2⟩ : ∃ n, cnt xs t xs.length = n := ⟨_, rfl⟩
      obtain ⟨n3, h3⟩ : ∃ n, cnt ys t ys.length = n := ⟨_, rfl⟩
      have hs := hcnt.out t
      rw [h1, h2, h3] at hs
      have q2 := cnt_le xs t xs.length
      have q3 := cnt_le ys t ys.length
      rw [h2] at q2
      rw [h3] at q3
      have d5 : ((n1 : Int) != (n2 : Int) + (n3 : Int)) = false := by rw [hs]; simp
      have d6 : IntKind.i64.wrap ((n2 : Int) + (n3 : Int)) = (n2 : Int) + (n3 : Int) := IntWalk.i64_in _ (by omega)
      have h1' := Lib.hid h1
      have h2' := Lib.hid h2
      have h3' := Lib.hid h3
      have i0 : (0 : Int) ≤ (j : Int) := by omega
      have i1 : (j : Int) < (C.length : Int) := by omega
      clear h1 h2 h3 ht hs q2 q3
      go_wp2_with fail
      go_quiet ((go_at_call 27; first | exact Calls.quiet_of_same (times_is h1' (L1.out.drewN _)) | exact Calls.quiet_of_same (times_is h2' (L2.out.drewN _)) | exact Calls.quiet_of_same (times_is h3' (L3.out.drewN _))))
      go_wp2_with fail
      go_roundw
      case rel => exact ⟨j + 1, by omega, by go_num, below_drewN' hW _⟩
      case measure => simp [intOf]; omega
    · have HBw := Lib.hid (below_thru hB7 hW)
      obtain rfl : j = C.length := by omega
      go_wp2_with fail
      refine (alive02_any _).mono ?_
      rintro e w99 ⟨rfl, hb9⟩
      have hb9' := below_thru HBw.out hb9
      clear hb9
      go_wp2_with fail
      go_returns
      exact ⟨rfl, hb9'⟩

theorem since_all (x y : Int) (xs ys : List Int) (at1 at2 : Option Addr) (cap1 cap2 : Nat) (w : World) (tx : tick x) (ty : tick y) (hi1 : IsL w .u64 (.slice at1 xs.length cap1) xs) (hi2 : IsL w .u64 (.slice at2 ys.length cap2) ys) :
    Calls Try.prog 8 #[.int .u64 x, .int .u64 y, .slice at1 xs.length cap1, .slice at2 ys.length cap2] w fun e w' => e = .returned (.bool true) ∧ Below w.heap.size w w' := by
  rcases Int.lt_or_le y x with o | o
  · rcases Nat.lt_or_ge 40 xs.length with q | q
    · exact since_gt_a x y xs ys at1 at2 cap1 cap2 w tx ty o hi1 hi2 q
    · rcases Nat.lt_or_ge 40 ys.length with q2 | q2
      · exact since_gt_b x y xs ys at1 at2 cap1 cap2 w tx ty o hi1 hi2 q q2
      · cases r1 : risB xs with
        | false => exact since_gt_ra x y xs ys at1 at2 cap1 cap2 w tx ty o hi1 hi2 q q2 r1
        | true =>
          cases r2 : risB ys with
          | false => exact since_gt_rb x y xs ys at1 at2 cap1 cap2 w tx ty o hi1 hi2 q q2 r1 r2
          | true => exact since_gt_ok x y xs ys at1 at2 cap1 cap2 w tx ty o hi1 hi2 q q2 r1 r2
  · rcases Nat.lt_or_ge 40 xs.length with q | q
    · exact since_le_a x y xs ys at1 at2 cap1 cap2 w tx ty o hi1 hi2 q
    · rcases Nat.lt_or_ge 40 ys.length with q2 | q2
      · exact since_le_b x y xs ys at1 at2 cap1 cap2 w tx ty o hi1 hi2 q q2
      · cases r1 : risB xs with
        | false => exact since_le_ra x y xs ys at1 at2 cap1 cap2 w tx ty o hi1 hi2 q q2 r1
        | true =>
          cases r2 : risB ys with
          | false => exact since_le_rb x y xs ys at1 at2 cap1 cap2 w tx ty o hi1 hi2 q q2 r1 r2
          | true => exact since_le_ok x y xs ys at1 at2 cap1 cap2 w tx ty o hi1 hi2 q q2 r1 r2

end Go.Proofs.Ytdalbngfhinadaa
