/-
  ClockTicks, walked: it returns true.
-/
import Derived.Test.YtdalbngfhinadaaClockMath
import Derived.Deep.QuietTactic
import Derived.BigQuiet
import Derived.Handy
namespace Go.Proofs.Ytdalbngfhinadaa
open Go.RowKit

theorem below_thru2 {w W w1 : World} (h : Below w.heap.size w W) (hb : Below W.heap.size W w1) : Below w.heap.size w w1 := h.trans (hb.mono h.size)
theorem own_below {w w' : World} {B e n : Nat} {v : Value} {l : List Value} (h : w.ownsRow B e 1 v n l) (hb : Below w.heap.size w w') : w'.ownsRow B e 1 v n l := by
  obtain ⟨h1, h2 | ⟨g, cap, cur, h3, hg, h4, h5⟩⟩ := h
  · exact ⟨h1, .inl h2⟩
  · refine ⟨h1, .inr ⟨g, cap, cur, h3, hg, ?_, h5⟩⟩
    rw [hb.block g (by rcases Nat.lt_or_ge g w.heap.size with q | q; exact q; rw [Array.getElem?_eq_none q] at h4; cases h4)]
    exact h4
/-- What a call that makes a list of its own returns. -/
def GivesO (zs : List Int) (c : Int) (w : World) (e : Ending) (w' : World) : Prop := ∃ v, e = .returned (.tuple #[v, .int .i64 c]) ∧ w'.ownsRow w.heap.size 26 1 v zs.length (zs.map (Value.int .u64)) ∧ Below w.heap.size w w'
section
variable {w : World} {v v1 v2 : Value} {xs ys zs : List Int} {c : Int}

theorem merge_o (h1 : IsL w .u64 v1 xs) (h2 : IsL w .u64 v2 ys) : Calls Try.prog 13 #[v1, v2] w (GivesO (mgV xs ys) (mgE xs ys) w) := by
  obtain ⟨a1, c1, rfl, i1, n1⟩ := h1
  obtain ⟨a2, c2, rfl, i2, n2⟩ := h2
  have r1 := i1.room
  have r2 := i2.room
  have m1 := i1.most
  have m2 := i2.most
  by_cases hx : 200 < xs.length
  · have e1 : mgV xs ys = [] := if_pos (Or.inl hx)
    have e2 : mgE xs ys = 4 := if_pos (Or.inl hx)
    rw [e1, e2]
    exact (merge_many1 a1 a2 xs.length ys.length c1 c2 w hx (by omega) (by omega)).mono fun e w' ⟨he, hb⟩ => ⟨_, he, owns_none, by rw [hb]; exact Below.refl _ _⟩
  · by_cases hy : 200 < ys.length
    · have e1 : mgV xs ys = [] := if_pos (Or.inr hy)
      have e2 : mgE xs ys = 4 := if_pos (Or.inr hy)
      rw [e1, e2]
      exact (merge_many2 a1 a2 xs.length ys.length c1 c2 w (by omega) hy (by omega)).mono fun e w' ⟨he, hb⟩ => ⟨_, he, owns_none, by rw [hb]; exact Below.refl _ _⟩
    · have e1 : mgV xs ys = if risB xs && risB ys then mg xs ys else [] := if_neg (by omega)
      have e2 : mgE xs ys = if risB xs && risB ys then 0 else 32 := if_neg (by omega)
      rw [e1, e2]
      cases b1 : risB xs with
      | false => exact (merge_order1 a1 a2 c1 c2 xs ys w i1 (by omega) (by omega) (Lib.hid b1)).mono fun e w' ⟨he, hb⟩ => ⟨_, he, owns_none, hb⟩
      | true =>
        cases b2 : risB ys with
        | false => exact (merge_order2 a1 a2 c1 c2 xs ys w i1 i2 (by omega) (by omega) (Lib.hid b1) (Lib.hid b2)).mono fun e w' ⟨he, hb⟩ => ⟨_, he, owns_none, hb⟩
        | true =>
          refine (merge_ok a1 a2 c1 c2 xs ys w i1 i2 (by omega) (by omega) (Lib.hid b1) (Lib.hid b2)).mono fun e w' ⟨v, he, ho, hb⟩ => ⟨_, he, ?_, hb⟩
          rw [← mg_len] at ho
          exact ho

theorem rmerge_o (h1 : IsL w .u64 v1 xs) (h2 : IsL w .u64 v2 ys) : Calls Try.prog 24 #[v1, v2] w (GivesO (mgV xs ys) (mgE xs ys) w) := by
  obtain ⟨a1, c1, rfl, i1, n1⟩ := h1
  obtain ⟨a2, c2, rfl, i2, n2⟩ := h2
  have r1 := i1.room
  have r2 := i2.room
  have m1 := i1.most
  have m2 := i2.most
  by_cases hx : 200 < xs.length
  · have e1 : mgV xs ys = [] := if_pos (Or.inl hx)
    have e2 : mgE xs ys = 4 := if_pos (Or.inl hx)
    rw [e1, e2]
    exact (rmerge_many1 a1 a2 xs.length ys.length c1 c2 w hx (by omega) (by omega)).mono fun e w' ⟨he, hb⟩ => ⟨_, he, owns_none, by rw [hb]; exact Below.refl _ _⟩
  · by_cases hy : 200 < ys.length
    · have e1 : mgV xs ys = [] := if_pos (Or.inr hy)
      have e2 : mgE xs ys = 4 := if_pos (Or.inr hy)
      rw [e1, e2]
      exact (rmerge_many2 a1 a2 xs.length ys.length c1 c2 w (by omega) hy (by omega)).mono fun e w' ⟨he, hb⟩ => ⟨_, he, owns_none, by rw [hb]; exact Below.refl _ _⟩
    · have e1 : mgV xs ys = if risB xs && risB ys then mg xs ys else [] := if_neg (by omega)
      have e2 : mgE xs ys = if risB xs && risB ys then 0 else 32 := if_neg (by omega)
      rw [e1, e2]
      cases b1 : risB xs with
      | false => exact (rmerge_order1 a1 a2 c1 c2 xs ys w i1 (by omega) (by omega) (Lib.hid b1)).mono fun e w' ⟨he, hb⟩ => ⟨_, he, owns_none, hb⟩
      | true =>
        cases b2 : risB ys with
        | false => exact (rmerge_order2 a1 a2 c1 c2 xs ys w i1 i2 (by omega) (by omega) (Lib.hid b1) (Lib.hid b2)).mono fun e w' ⟨he, hb⟩ => ⟨_, he, owns_none, hb⟩
        | true =>
          refine (rmerge_ok a1 a2 c1 c2 xs ys w i1 n1 i2 (by omega) (by omega) (Lib.hid b1) (Lib.hid b2)).mono fun e w' ⟨v, he, ho, hb⟩ => ⟨_, he, ?_, hb⟩
          rw [insAll_mg xs ys b1 b2] at ho
          exact ho

theorem merge_os (h : Hid (mgV xs ys = zs)) (h' : Hid (mgE xs ys = c)) (h1 : IsL w .u64 v1 xs) (h2 : IsL w .u64 v2 ys) : Calls Try.prog 13 #[v1, v2] w (GivesO zs c w) := by
  rw [← h.out, ← h'.out]
  exact merge_o h1 h2
theorem rmerge_os (h : Hid (mgV xs ys = zs)) (h' : Hid (mgE xs ys = c)) (h1 : IsL w .u64 v1 xs) (h2 : IsL w .u64 v2 ys) : Calls Try.prog 24 #[v1, v2] w (GivesO zs c w) := by
  rw [← h.out, ← h'.out]
  exact rmerge_o h1 h2
theorem rsince_is {x y a b : Int} (h : Hid (sinceV x y = a)) (h' : Hid (sinceE x y = b)) (h1 : tick x) (h2 : tick y) : Calls Try.prog 22 #[.int .u64 x, .int .u64 y] w fun e w' => e = .returned (.tuple #[.int .u64 a, .int .i64 b]) ∧ Below w.heap.size w w' := by
  rw [← h.out, ← h'.out]
  exact (rsince_any x y w h1.1 h1.2 h2.1 h2.2).mono fun e w' ⟨he, hw⟩ => ⟨he, by rw [hw]; exact Below.refl _ _⟩
theorem rafter_is {x y a b : Int} (h : Hid (afterV x y = a)) (h' : Hid (afterE x y = b)) (h1 : tick x) (h2 : tick y) : Calls Try.prog 23 #[.int .u64 x, .int .u64 y] w fun e w' => e = .returned (.tuple #[.int .u64 a, .int .i64 b]) ∧ Below w.heap.size w w' := by
  rw [← h.out, ← h'.out]
  exact (rafter_any x y w h1.1 h1.2 h2.1 h2.2).mono fun e w' ⟨he, hw⟩ => ⟨he, by rw [hw]; exact Below.refl _ _⟩
end

set_option maxRecDepth 100000 in
set_option maxHeartbeats 3200000 in
theorem ticks_a (x y : Int) (xs ys : List Int) (at1 at2 : Option Addr) (cap1 cap2 : Nat) (w : World) (hi1 : IsL w .u64 (.slice at1 xs.length cap1) xs) (hi2 : IsL w .u64 (.slice at2 ys.length cap2) ys) (l1 : longB xs.length = true) :
    Calls Try.prog 5 #[.int .u64 x, .int .u64 y, .slice at1 xs.length cap1, .slice at2 ys.length cap2] w fun e w' => e = .returned (.bool true) ∧ Below w.heap.size w w' := by
  obtain ⟨_, hr1, hm1⟩ := hi1.room
  obtain ⟨_, hr2, hm2⟩ := hi2.room
  have L_p_0 := Lib.hid hi1
  have L_q_0 := Lib.hid hi2
  clear hi1 hi2
  have b1 := Lib.hid l1
  clear l1
  go_enter Try.func5, Try.ntmps5
  go_wp2_with fail
  refine (long_b b1 (by repeat (first | (with_reducible exact Hid.out (by with_reducible assumption)) | (with_reducible refine IsL.alloc ?_ _) | (with_reducible refine IsL.drew ?_) | (with_reducible refine IsL.drewN ?_ _) | (with_reducible exact IsL.none)))).mono ?_
  rintro e w1 ⟨rfl, hb⟩
  have hB1 : Below w.heap.size w w1 := below_thru2 (by go_grown) hb
  have hs1 : w.heap.size ≤ w1.heap.size := hB1.size
  have L_p_1 : Hid (IsL w1 .u64 (.slice at1 xs.length cap1) xs) := Lib.hid (IsL.below (by repeat (first | (with_reducible exact Hid.out (by with_reducible assumption)) | (with_reducible refine IsL.alloc ?_ _) | (with_reducible refine IsL.drew ?_) | (with_reducible refine IsL.drewN ?_ _) | (with_reducible exact IsL.none))) hb)
  have L_q_1 : Hid (IsL w1 .u64 (.slice at2 ys.length cap2) ys) := Lib.hid (IsL.below (by repeat (first | (with_reducible exact Hid.out (by with_reducible assumption)) | (with_reducible refine IsL.alloc ?_ _) | (with_reducible refine IsL.drew ?_) | (with_reducible refine IsL.drewN ?_ _) | (with_reducible exact IsL.none))) hb)
  clear hb L_p_0 L_q_0
  go_wp2_with fail
  go_returns
  exact ⟨rfl, hB1⟩

set_option maxRecDepth 100000 in
set_option maxHeartbeats 3200000 in
theorem ticks_b (x y : Int) (xs ys : List Int) (at1 at2 : Option Addr) (cap1 cap2 : Nat) (w : World) (hi1 : IsL w .u64 (.slice at1 xs.length cap1) xs) (hi2 : IsL w .u64 (.slice at2 ys.length cap2) ys) (l1 : longB xs.length = false) (l2 : longB ys.length = true) :
    Calls Try.prog 5 #[.int .u64 x, .int .u64 y, .slice at1 xs.length cap1, .slice at2 ys.length cap2] w fun e w' => e = .returned (.bool true) ∧ Below w.heap.size w w' := by
  obtain ⟨_, hr1, hm1⟩ := hi1.room
  obtain ⟨_, hr2, hm2⟩ := hi2.room
  have L_p_0 := Lib.hid hi1
  have L_q_0 := Lib.hid hi2
  clear hi1 hi2
  have b1 := Lib.hid l1
  clear l1
  have b2 := Lib.hid l2
  clear l2
  go_enter Try.func5, Try.ntmps5
  go_wp2_with fail
  refine (long_b b1 (by repeat (first | (with_reducible exact Hid.out (by with_reducible assumption)) | (with_reducible refine IsL.alloc ?_ _) | (with_reducible refine IsL.drew ?_) | (with_reducible refine IsL.drewN ?_ _) | (with_reducible exact IsL.none)))).mono ?_
  rintro e w1 ⟨rfl, hb⟩
  have hB1 : Below w.heap.size w w1 := below_thru2 (by go_grown) hb
  have hs1 : w.heap.size ≤ w1.heap.size := hB1.size
  have L_p_1 : Hid (IsL w1 .u64 (.slice at1 xs.length cap1) xs) := Lib.hid (IsL.below (by repeat (first | (with_reducible exact Hid.out (by with_reducible assumption)) | (with_reducible refine IsL.alloc ?_ _) | (with_reducible refine IsL.drew ?_) | (with_reducible refine IsL.drewN ?_ _) | (with_reducible exact IsL.none))) hb)
  have L_q_1 : Hid (IsL w1 .u64 (.slice at2 ys.length cap2) ys) := Lib.hid (IsL.below (by repeat (first | (with_reducible exact Hid.out (by with_reducible assumption)) | (with_reducible refine IsL.alloc ?_ _) | (with_reducible refine IsL.drew ?_) | (with_reducible refine IsL.drewN ?_ _) | (with_reducible exact IsL.none))) hb)
  clear hb L_p_0 L_q_0
  go_wp2_with fail
  refine (long_b b2 (by repeat (first | (with_reducible exact Hid.out (by with_reducible assumption)) | (with_reducible refine IsL.alloc ?_ _) | (with_reducible refine IsL.drew ?_) | (with_reducible refine IsL.drewN ?_ _) | (with_reducible exact IsL.none)))).mono ?_
  rintro e w2 ⟨rfl, hb⟩
  have hB2 : Below w.heap.size w w2 := below_thru2 (by go_grown) hb
  have hs2 : w.heap.size ≤ w2.heap.size := hB2.size
  have L_p_2 : Hid (IsL w2 .u64 (.slice at1 xs.length cap1) xs) := Lib.hid (IsL.below (by repeat (first | (with_reducible exact Hid.out (by with_reducible assumption)) | (with_reducible refine IsL.alloc ?_ _) | (with_reducible refine IsL.drew ?_) | (with_reducible refine IsL.drewN ?_ _) | (with_reducible exact IsL.none))) hb)
  have L_q_2 : Hid (IsL w2 .u64 (.slice at2 ys.length cap2) ys) := Lib.hid (IsL.below (by repeat (first | (with_reducible exact Hid.out (by with_reducible assumption)) | (with_reducible refine IsL.alloc ?_ _) | (with_reducible refine IsL.drew ?_) | (with_reducible refine IsL.drewN ?_ _) | (with_reducible exact IsL.none))) hb)
  clear hb hB1 hs1 L_p_1 L_q_1
  go_wp2_with fail
  go_returns
  exact ⟨rfl, hB2⟩

set_option maxRecDepth 100000 in
set_option maxHeartbeats 3200000 in
theorem ticks_empty (x y : Int) (xs ys : List Int) (at1 at2 : Option Addr) (cap1 cap2 : Nat) (w : World) (tx : tick x) (ty : tick y) (hi1 : IsL w .u64 (.slice at1 xs.length cap1) xs) (hi2 : IsL w .u64 (.slice at2 ys.length cap2) ys) (l1 : longB xs.length = false) (l2 : longB ys.length = false) (hz : mgV xs ys = []) :
    Calls Try.prog 5 #[.int .u64 x, .int .u64 y, .slice at1 xs.length cap1, .slice at2 ys.length cap2] w fun e w' => e = .returned (.bool true) ∧ Below w.heap.size w w' := by
  obtain ⟨_, hr1, hm1⟩ := hi1.room
  obtain ⟨_, hr2, hm2⟩ := hi2.room
  have L_p_0 := Lib.hid hi1
  have L_q_0 := Lib.hid hi2
  clear hi1 hi2
  have n1 : xs.length ≤ 300 := by have := of_decide_eq_false l1; omega
  have n2 : ys.length ≤ 300 := by have := of_decide_eq_false l2; omega
  have hzl : (mgV xs ys).length ≤ 400 := by unfold mgV; split; simp; split; rw [mg_len]; omega; simp
  obtain ⟨Z, hZ⟩ : ∃ Z, mgV xs ys = Z := ⟨_, rfl⟩
  obtain ⟨z, hze⟩ : ∃ z, mgE xs ys = z := ⟨_, rfl⟩
  obtain ⟨sv, e1⟩ : ∃ n, sinceV x y = n := ⟨_, rfl⟩
  obtain ⟨se, e2⟩ : ∃ n, sinceE x y = n := ⟨_, rfl⟩
  obtain ⟨av, e3⟩ : ∃ n, afterV x y = n := ⟨_, rfl⟩
  obtain ⟨ae, e4⟩ : ∃ n, afterE x y = n := ⟨_, rfl⟩
  rw [hZ] at hz hzl
  have b1 := Lib.hid l1
  have b2 := Lib.hid l2
  have c1 := Lib.hid e1
  have c2 := Lib.hid e2
  have c3 := Lib.hid e3
  have c4 := Lib.hid e4
  have c5 := Lib.hid hZ
  have c6 := Lib.hid hze
  clear l1 l2 e1 e2 e3 e4 hZ hze
  subst hz
  obtain ⟨ti, hin, hz0, hz1, hz2⟩ := info_parts info_u64
  go_enter Try.func5, Try.ntmps5
  go_wp2_with fail
  refine (long_b b1 (by repeat (first | (with_reducible exact Hid.out (by with_reducible assumption)) | (with_reducible refine IsL.alloc ?_ _) | (with_reducible refine IsL.drew ?_) | (with_reducible refine IsL.drewN ?_ _) | (with_reducible exact IsL.none)))).mono ?_
  rintro e w1 ⟨rfl, hb⟩
  have hB1 : Below w.heap.size w w1 := below_thru2 (by go_grown) hb
  have hs1 : w.heap.size ≤ w1.heap.size := hB1.size
  have L_p_1 : Hid (IsL w1 .u64 (.slice at1 xs.length cap1) xs) := Lib.hid (IsL.below (by repeat (first | (with_reducible exact Hid.out (by with_reducible assumption)) | (with_reducible refine IsL.alloc ?_ _) | (with_reducible refine IsL.drew ?_) | (with_reducible refine IsL.drewN ?_ _) | (with_reducible exact IsL.none))) hb)
  have L_q_1 : Hid (IsL w1 .u64 (.slice at2 ys.length cap2) ys) := Lib.hid (IsL.below (by repeat (first | (with_reducible exact Hid.out (by with_reducible assumption)) | (with_reducible refine IsL.alloc ?_ _) | (with_reducible refine IsL.drew ?_) | (with_reducible refine IsL.drewN ?_ _) | (with_reducible exact IsL.none))) hb)
  clear hb L_p_0 L_q_0
  go_wp2_with fail
  refine (long_b b2 (by repeat (first | (with_reducible exact Hid.out (by with_reducible assumption)) | (with_reducible refine IsL.alloc ?_ _) | (with_reducible refine IsL.drew ?_) | (with_reducible refine IsL.drewN ?_ _) | (with_reducible exact IsL.none)))).mono ?_
  rintro e w2 ⟨rfl, hb⟩
  have hB2 : Below w.heap.size w w2 := below_thru2 (by go_grown) hb
  have hs2 : w.heap.size ≤ w2.heap.size := hB2.size
  have L_p_2 : Hid (IsL w2 .u64 (.slice at1 xs.length cap1) xs) := Lib.hid (IsL.below (by repeat (first | (with_reducible exact Hid.out (by with_reducible assumption)) | (with_reducible refine IsL.alloc ?_ _) | (with_reducible refine IsL.drew ?_) | (with_reducible refine IsL.drewN ?_ _) | (with_reducible exact IsL.none))) hb)
  have L_q_2 : Hid (IsL w2 .u64 (.slice at2 ys.length cap2) ys) := Lib.hid (IsL.below (by repeat (first | (with_reducible exact Hid.out (by with_reducible assumption)) | (with_reducible refine IsL.alloc ?_ _) | (with_reducible refine IsL.drew ?_) | (with_reducible refine IsL.drewN ?_ _) | (with_reducible exact IsL.none))) hb)
  clear hb hB1 hs1 L_p_1 L_q_1
  go_wp2_with (first | (at_builtin; refine wpList_append_built rfl _ _ 22 rfl 26 ti (.int .u64 0) 8 .u64 Try.underlying22 hin hz0 hz1 hz2 rfl [] xs _ (.slice at1 xs.length cap1) _ _ _ rfl rfl rfl rfl rfl rfl L_p_2.out (by unfold maxLen; simp; omega) (by simp; omega) ?_; intro v_m wm hown hbm) | (at_builtin; refine wpList_append_built rfl _ _ 22 rfl 26 ti (.int .u64 0) 8 .u64 Try.underlying22 hin hz0 hz1 hz2 rfl [] ys _ (.slice at2 ys.length cap2) _ _ _ rfl rfl rfl rfl rfl rfl (IsL.below L_q_2.out hbm) (by unfold maxLen; simp; omega) (by simp; omega) ?_; intro v_n w3 hown2 hbn))
  have L_u_3 : Hid (IsL w3 .u64 v_m xs) := Lib.hid (IsL.below (IsL.own (xs := xs) hown rfl) hbn)
  have L_v_3 : Hid (IsL w3 .u64 v_n ys) := Lib.hid (IsL.own (xs := ys) hown2 rfl)
  have hb := below_thru2 hbm hbn
  clear hown hown2 hbm hbn
  have hB3 : Below w.heap.size w w3 := below_thru2 (by go_grown) hb
  have hs3 : w.heap.size ≤ w3.heap.size := hB3.size
  have L_p_3 : Hid (IsL w3 .u64 (.slice at1 xs.length cap1) xs) := Lib.hid (IsL.below (by repeat (first | (with_reducible exact Hid.out (by with_reducible assumption)) | (with_reducible refine IsL.alloc ?_ _) | (with_reducible refine IsL.drew ?_) | (with_reducible refine IsL.drewN ?_ _) | (with_reducible exact IsL.none))) hb)
  have L_q_3 : Hid (IsL w3 .u64 (.slice at2 ys.length cap2) ys) := Lib.hid (IsL.below (by repeat (first | (with_reducible exact Hid.out (by with_reducible assumption)) | (with_reducible refine IsL.alloc ?_ _) | (with_reducible refine IsL.drew ?_) | (with_reducible refine IsL.drewN ?_ _) | (with_reducible exact IsL.none))) hb)
  clear hb hB2 hs2 L_p_2 L_q_2
  go_wp2_with fail
  refine (since_is c1 c2 tx ty).mono ?_
  rintro e w4 ⟨rfl, hb⟩
  have hB4 : Below w.heap.size w w4 := below_thru2 (by go_grown) hb
  have hs4 : w.heap.size ≤ w4.heap.size := hB4.size
  have L_p_4 : Hid (IsL w4 .u64 (.slice at1 xs.length cap1) xs) := Lib.hid (IsL.below (by repeat (first | (with_reducible exact Hid.out (by with_reducible assumption)) | (with_reducible refine IsL.alloc ?_ _) | (with_reducible refine IsL.drew ?_) | (with_reducible refine IsL.drewN ?_ _) | (with_reducible exact IsL.none))) hb)
  have L_q_4 : Hid (IsL w4 .u64 (.slice at2 ys.length cap2) ys) := Lib.hid (IsL.below (by repeat (first | (with_reducible exact Hid.out (by with_reducible assumption)) | (with_reducible refine IsL.alloc ?_ _) | (with_reducible refine IsL.drew ?_) | (with_reducible refine IsL.drewN ?_ _) | (with_reducible exact IsL.none))) hb)
  have L_u_4 : Hid (IsL w4 .u64 v_m xs) := Lib.hid (IsL.below (by repeat (first | (with_reducible exact Hid.out (by with_reducible assumption)) | (with_reducible refine IsL.alloc ?_ _) | (with_reducible refine IsL.drew ?_) | (with_reducible refine IsL.drewN ?_ _) | (with_reducible exact IsL.none))) hb)
  have L_v_4 : Hid (IsL w4 .u64 v_n ys) := Lib.hid (IsL.below (by repeat (first | (with_reducible exact Hid.out (by with_reducible assumption)) | (with_reducible refine IsL.alloc ?_ _) | (with_reducible refine IsL.drew ?_) | (with_reducible refine IsL.drewN ?_ _) | (with_reducible exact IsL.none))) hb)
  clear hb hB3 hs3 L_p_3 L_q_3 L_u_3 L_v_3
  go_wp2_with fail
  refine (rsince_is c1 c2 tx ty).mono ?_
  rintro e w5 ⟨rfl, hb⟩
  have hB5 : Below w.heap.size w w5 := below_thru2 (by go_grown) hb
  have hs5 : w.heap.size ≤ w5.heap.size := hB5.size
  have L_p_5 : Hid (IsL w5 .u64 (.slice at1 xs.length cap1) xs) := Lib.hid (IsL.below (by repeat (first | (with_reducible exact Hid.out (by with_reducible assumption)) | (with_reducible refine IsL.alloc ?_ _) | (with_reducible refine IsL.drew ?_) | (with_reducible refine IsL.drewN ?_ _) | (with_reducible exact IsL.none))) hb)
  have L_q_5 : Hid (IsL w5 .u64 (.slice at2 ys.length cap2) ys) := Lib.hid (IsL.below (by repeat (first | (with_reducible exact Hid.out (by with_reducible assumption)) | (with_reducible refine IsL.alloc ?_ _) | (with_reducible refine IsL.drew ?_) | (with_reducible refine IsL.drewN ?_ _) | (with_reducible exact IsL.none))) hb)
  have L_u_5 : Hid (IsL w5 .u64 v_m xs) := Lib.hid (IsL.below (by repeat (first | (with_reducible exact Hid.out (by with_reducible assumption)) | (with_reducible refine IsL.alloc ?_ _) | (with_reducible refine IsL.drew ?_) | (with_reducible refine IsL.drewN ?_ _) | (with_reducible exact IsL.none))) hb)
  have L_v_5 : Hid (IsL w5 .u64 v_n ys) := Lib.hid (IsL.below (by repeat (first | (with_reducible exact Hid.out (by with_reducible assumption)) | (with_reducible refine IsL.alloc ?_ _) | (with_reducible refine IsL.drew ?_) | (with_reducible refine IsL.drewN ?_ _) | (with_reducible exact IsL.none))) hb)
  clear hb hB4 hs4 L_p_4 L_q_4 L_u_4 L_v_4
  go_wp2_with fail
  refine (after_is c3 c4 tx ty).mono ?_
  rintro e w6 ⟨rfl, hb⟩
  have hB6 : Below w.heap.size w w6 := below_thru2 (by go_grown) hb
  have hs6 : w.heap.size ≤ w6.heap.size := hB6.size
  have L_p_6 : Hid (IsL w6 .u64 (.slice at1 xs.length cap1) xs) := Lib.hid (IsL.below (by repeat (first | (with_reducible exact Hid.out (by with_reducible assumption)) | (with_reducible refine IsL.alloc ?_ _) | (with_reducible refine IsL.drew ?_) | (with_reducible refine IsL.drewN ?_ _) | (with_reducible exact IsL.none))) hb)
  have L_q_6 : Hid (IsL w6 .u64 (.slice at2 ys.length cap2) ys) := Lib.hid (IsL.below (by repeat (first | (with_reducible exact Hid.out (by with_reducible assumption)) | (with_reducible refine IsL.alloc ?_ _) | (with_reducible refine IsL.drew ?_) | (with_reducible refine IsL.drewN ?_ _) | (with_reducible exact IsL.none))) hb)
  have L_u_6 : Hid (IsL w6 .u64 v_m xs) := Lib.hid (IsL.below (by repeat (first | (with_reducible exact Hid.out (by with_reducible assumption)) | (with_reducible refine IsL.alloc ?_ _) | (with_reducible refine IsL.drew ?_) | (with_reducible refine IsL.drewN ?_ _) | (with_reducible exact IsL.none))) hb)
  have L_v_6 : Hid (IsL w6 .u64 v_n ys) := Lib.hid (IsL.below (by repeat (first | (with_reducible exact Hid.out (by with_reducible assumption)) | (with_reducible refine IsL.alloc ?_ _) | (with_reducible refine IsL.drew ?_) | (with_reducible refine IsL.drewN ?_ _) | (with_reducible exact IsL.none))) hb)
  clear hb hB5 hs5 L_p_5 L_q_5 L_u_5 L_v_5
  go_wp2_with fail
  refine (rafter_is c3 c4 tx ty).mono ?_
  rintro e w7 ⟨rfl, hb⟩
  have hB7 : Below w.heap.size w w7 := below_thru2 (by go_grown) hb
  have hs7 : w.heap.size ≤ w7.heap.size := hB7.size
  have L_p_7 : Hid (IsL w7 .u64 (.slice at1 xs.length cap1) xs) := Lib.hid (IsL.below (by repeat (first | (with_reducible exact Hid.out (by with_reducible assumption)) | (with_reducible refine IsL.alloc ?_ _) | (with_reducible refine IsL.drew ?_) | (with_reducible refine IsL.drewN ?_ _) | (with_reducible exact IsL.none))) hb)
  have L_q_7 : Hid (IsL w7 .u64 (.slice at2 ys.length cap2) ys) := Lib.hid (IsL.below (by repeat (first | (with_reducible exact Hid.out (by with_reducible assumption)) | (with_reducible refine IsL.alloc ?_ _) | (with_reducible refine IsL.drew ?_) | (with_reducible refine IsL.drewN ?_ _) | (with_reducible exact IsL.none))) hb)
  have L_u_7 : Hid (IsL w7 .u64 v_m xs) := Lib.hid (IsL.below (by repeat (first | (with_reducible exact Hid.out (by with_reducible assumption)) | (with_reducible refine IsL.alloc ?_ _) | (with_reducible refine IsL.drew ?_) | (with_reducible refine IsL.drewN ?_ _) | (with_reducible exact IsL.none))) hb)
  have L_v_7 : Hid (IsL w7 .u64 v_n ys) := Lib.hid (IsL.below (by repeat (first | (with_reducible exact Hid.out (by with_reducible assumption)) | (with_reducible refine IsL.alloc ?_ _) | (with_reducible refine IsL.drew ?_) | (with_reducible refine IsL.drewN ?_ _) | (with_reducible exact IsL.none))) hb)
  clear hb hB6 hs6 L_p_6 L_q_6 L_u_6 L_v_6
  go_wp2_with fail
  refine (merge_os c5 c6 (by repeat (first | (with_reducible exact Hid.out (by with_reducible assumption)) | (with_reducible refine IsL.alloc ?_ _) | (with_reducible refine IsL.drew ?_) | (with_reducible refine IsL.drewN ?_ _) | (with_reducible exact IsL.none))) (by repeat (first | (with_reducible exact Hid.out (by with_reducible assumption)) | (with_reducible refine IsL.alloc ?_ _) | (with_reducible refine IsL.drew ?_) | (with_reducible refine IsL.drewN ?_ _) | (with_reducible exact IsL.none)))).mono ?_
  rintro e w8 ⟨v_k, rfl, hk, hb⟩
  have hB8 : Below w.heap.size w w8 := below_thru2 (by go_grown) hb
  have hs8 : w.heap.size ≤ w8.heap.size := hB8.size
  have L_p_8 : Hid (IsL w8 .u64 (.slice at1 xs.length cap1) xs) := Lib.hid (IsL.below (by repeat (first | (with_reducible exact Hid.out (by with_reducible assumption)) | (with_reducible refine IsL.alloc ?_ _) | (with_reducible refine IsL.drew ?_) | (with_reducible refine IsL.drewN ?_ _) | (with_reducible exact IsL.none))) hb)
  have L_q_8 : Hid (IsL w8 .u64 (.slice at2 ys.length cap2) ys) := Lib.hid (IsL.below (by repeat (first | (with_reducible exact Hid.out (by with_reducible assumption)) | (with_reducible refine IsL.alloc ?_ _) | (with_reducible refine IsL.drew ?_) | (with_reducible refine IsL.drewN ?_ _) | (with_reducible exact IsL.none))) hb)
  have L_u_8 : Hid (IsL w8 .u64 v_m xs) := Lib.hid (IsL.below (by repeat (first | (with_reducible exact Hid.out (by with_reducible assumption)) | (with_reducible refine IsL.alloc ?_ _) | (with_reducible refine IsL.drew ?_) | (with_reducible refine IsL.drewN ?_ _) | (with_reducible exact IsL.none))) hb)
  have L_v_8 : Hid (IsL w8 .u64 v_n ys) := Lib.hid (IsL.below (by repeat (first | (with_reducible exact Hid.out (by with_reducible assumption)) | (with_reducible refine IsL.alloc ?_ _) | (with_reducible refine IsL.drew ?_) | (with_reducible refine IsL.drewN ?_ _) | (with_reducible exact IsL.none))) hb)
  clear hb hB7 hs7 L_p_7 L_q_7 L_u_7 L_v_7
  obtain ⟨ak, ck, rfl, hik, _⟩ := own_ints (xs := []) hk
  clear hk hik
  go_wp2_with fail
  refine (rmerge_os c5 c6 (by repeat (first | (with_reducible exact Hid.out (by with_reducible assumption)) | (with_reducible refine IsL.alloc ?_ _) | (with_reducible refine IsL.drew ?_) | (with_reducible refine IsL.drewN ?_ _) | (with_reducible exact IsL.none))) (by repeat (first | (with_reducible exact Hid.out (by with_reducible assumption)) | (with_reducible refine IsL.alloc ?_ _) | (with_reducible refine IsL.drew ?_) | (with_reducible refine IsL.drewN ?_ _) | (with_reducible exact IsL.none)))).mono ?_
  rintro e w9 ⟨v_j, rfl, hm, hb⟩
  have hB9 : Below w.heap.size w w9 := below_thru2 (by go_grown) hb
  have hs9 : w.heap.size ≤ w9.heap.size := hB9.size
  have L_p_9 : Hid (IsL w9 .u64 (.slice at1 xs.length cap1) xs) := Lib.hid (IsL.below (by repeat (first | (with_reducible exact Hid.out (by with_reducible assumption)) | (with_reducible refine IsL.alloc ?_ _) | (with_reducible refine IsL.drew ?_) | (with_reducible refine IsL.drewN ?_ _) | (with_reducible exact IsL.none))) hb)
  have L_q_9 : Hid (IsL w9 .u64 (.slice at2 ys.length cap2) ys) := Lib.hid (IsL.below (by repeat (first | (with_reducible exact Hid.out (by with_reducible assumption)) | (with_reducible refine IsL.alloc ?_ _) | (with_reducible refine IsL.drew ?_) | (with_reducible refine IsL.drewN ?_ _) | (with_reducible exact IsL.none))) hb)
  have L_u_9 : Hid (IsL w9 .u64 v_m xs) := Lib.hid (IsL.below (by repeat (first | (with_reducible exact Hid.out (by with_reducible assumption)) | (with_reducible refine IsL.alloc ?_ _) | (with_reducible refine IsL.drew ?_) | (with_reducible refine IsL.drewN ?_ _) | (with_reducible exact IsL.none))) hb)
  have L_v_9 : Hid (IsL w9 .u64 v_n ys) := Lib.hid (IsL.below (by repeat (first | (with_reducible exact Hid.out (by with_reducible assumption)) | (with_reducible refine IsL.alloc ?_ _) | (with_reducible refine IsL.drew ?_) | (with_reducible refine IsL.drewN ?_ _) | (with_reducible exact IsL.none))) hb)
  clear hb hB8 hs8 L_p_8 L_q_8 L_u_8 L_v_8
  obtain ⟨aj, cj, rfl, hij, _⟩ := own_ints (xs := []) hm
  clear hm hij
  go_wp2_with fail
  go_loopw [23] (fun i wr => i = .int .i64 0 ∧ wr = w9) (fun i _ => 0)
  case atStart => exact ⟨rfl, rfl⟩
  case round =>
    obtain ⟨rfl, rfl⟩ := hrel
    go_wp2_with fail
    refine (same_tt (xs := xs) (by repeat (first | (with_reducible exact Hid.out (by with_reducible assumption)) | (with_reducible refine IsL.alloc ?_ _) | (with_reducible refine IsL.drew ?_) | (with_reducible refine IsL.drewN ?_ _) | (with_reducible exact IsL.none))) (by repeat (first | (with_reducible exact Hid.out (by with_reducible assumption)) | (with_reducible refine IsL.alloc ?_ _) | (with_reducible refine IsL.drew ?_) | (with_reducible refine IsL.drewN ?_ _) | (with_reducible exact IsL.none)))).mono ?_
    rintro e w10 ⟨rfl, hb⟩
    have hB10 : Below w.heap.size w w10 := below_thru2 (by go_grown) hb
    have hs10 : w.heap.size ≤ w10.heap.size := hB10.size
    have L_p_10 : Hid (IsL w10 .u64 (.slice at1 xs.length cap1) xs) := Lib.hid (IsL.below (by repeat (first | (with_reducible exact Hid.out (by with_reducible assumption)) | (with_reducible refine IsL.alloc ?_ _) | (with_reducible refine IsL.drew ?_) | (with_reducible refine IsL.drewN ?_ _) | (with_reducible exact IsL.none))) hb)
    have L_q_10 : Hid (IsL w10 .u64 (.slice at2 ys.length cap2) ys) := Lib.hid (IsL.below (by repeat (first | (with_reducible exact Hid.out (by with_reducible assumption)) | (with_reducible refine IsL.alloc ?_ _) | (with_reducible refine IsL.drew ?_) | (with_reducible refine IsL.drewN ?_ _) | (with_reducible exact IsL.none))) hb)
    have L_u_10 : Hid (IsL w10 .u64 v_m xs) := Lib.hid (IsL.below (by repeat (first | (with_reducible exact Hid.out (by with_reducible assumption)) | (with_reducible refine IsL.alloc ?_ _) | (with_reducible refine IsL.drew ?_) | (with_reducible refine IsL.drewN ?_ _) | (with_reducible exact IsL.none))) hb)
    have L_v_10 : Hid (IsL w10 .u64 v_n ys) := Lib.hid (IsL.below (by repeat (first | (with_reducible exact Hid.out (by with_reducible assumption)) | (with_reducible refine IsL.alloc ?_ _) | (with_reducible refine IsL.drew ?_) | (with_reducible refine IsL.drewN ?_ _) | (with_reducible exact IsL.none))) hb)
    clear hb hB9 hs9 L_p_9 L_q_9 L_u_9 L_v_9
    go_wp2_with fail
    refine (same_tt (xs := ys) (by repeat (first | (with_reducible exact Hid.out (by with_reducible assumption)) | (with_reducible refine IsL.alloc ?_ _) | (with_reducible refine IsL.drew ?_) | (with_reducible refine IsL.drewN ?_ _) | (with_reducible exact IsL.none))) (by repeat (first | (with_reducible exact Hid.out (by with_reducible assumption)) | (with_reducible refine IsL.alloc ?_ _) | (with_reducible refine IsL.drew ?_) | (with_reducible refine IsL.drewN ?_ _) | (with_reducible exact IsL.none)))).mono ?_
    rintro e w11 ⟨rfl, hb⟩
    have hB11 : Below w.heap.size w w11 := below_thru2 (by go_grown) hb
    have hs11 : w.heap.size ≤ w11.heap.size := hB11.size
    have L_p_11 : Hid (IsL w11 .u64 (.slice at1 xs.length cap1) xs) := Lib.hid (IsL.below (by repeat (first | (with_reducible exact Hid.out (by with_reducible assumption)) | (with_reducible refine IsL.alloc ?_ _) | (with_reducible refine IsL.drew ?_) | (with_reducible refine IsL.drewN ?_ _) | (with_reducible exact IsL.none))) hb)
    have L_q_11 : Hid (IsL w11 .u64 (.slice at2 ys.length cap2) ys) := Lib.hid (IsL.below (by repeat (first | (with_reducible exact Hid.out (by with_reducible assumption)) | (with_reducible refine IsL.alloc ?_ _) | (with_reducible refine IsL.drew ?_) | (with_reducible refine IsL.drewN ?_ _) | (with_reducible exact IsL.none))) hb)
    have L_u_11 : Hid (IsL w11 .u64 v_m xs) := Lib.hid (IsL.below (by repeat (first | (with_reducible exact Hid.out (by with_reducible assumption)) | (with_reducible refine IsL.alloc ?_ _) | (with_reducible refine IsL.drew ?_) | (with_reducible refine IsL.drewN ?_ _) | (with_reducible exact IsL.none))) hb)
    have L_v_11 : Hid (IsL w11 .u64 v_n ys) := Lib.hid (IsL.below (by repeat (first | (with_reducible exact Hid.out (by with_reducible assumption)) | (with_reducible refine IsL.alloc ?_ _) | (with_reducible refine IsL.drew ?_) | (with_reducible refine IsL.drewN ?_ _) | (with_reducible exact IsL.none))) hb)
    clear hb hB10 hs10 L_p_10 L_q_10 L_u_10 L_v_10
    go_wp2_with fail
    go_returns
    exact ⟨rfl, hB11⟩

set_option maxRecDepth 100000 in
set_option maxHeartbeats 3200000 in
theorem ticks_full (x y : Int) (xs ys : List Int) (at1 at2 : Option Addr) (cap1 cap2 : Nat) (w : World) (tx : tick x) (ty : tick y) (hi1 : IsL w .u64 (.slice at1 xs.length cap1) xs) (hi2 : IsL w .u64 (.slice at2 ys.length cap2) ys) (l1 : longB xs.length = false) (l2 : longB ys.length = false) (hz : mgV xs ys ≠ []) :
    Calls Try.prog 5 #[.int .u64 x, .int .u64 y, .slice at1 xs.length cap1, .slice at2 ys.length cap2] w fun e w' => e = .returned (.bool true) ∧ Below w.heap.size w w' := by
  obtain ⟨_, hr1, hm1⟩ := hi1.room
  obtain ⟨_, hr2, hm2⟩ := hi2.room
  have L_p_0 := Lib.hid hi1
  have L_q_0 := Lib.hid hi2
  clear hi1 hi2
  have n1 : xs.length ≤ 300 := by have := of_decide_eq_false l1; omega
  have n2 : ys.length ≤ 300 := by have := of_decide_eq_false l2; omega
  have hzl : (mgV xs ys).length ≤ 400 := by unfold mgV; split; simp; split; rw [mg_len]; omega; simp
  obtain ⟨Z, hZ⟩ : ∃ Z, mgV xs ys = Z := ⟨_, rfl⟩
  obtain ⟨z, hze⟩ : ∃ z, mgE xs ys = z := ⟨_, rfl⟩
  obtain ⟨sv, e1⟩ : ∃ n, sinceV x y = n := ⟨_, rfl⟩
  obtain ⟨se, e2⟩ : ∃ n, sinceE x y = n := ⟨_, rfl⟩
  obtain ⟨av, e3⟩ : ∃ n, afterV x y = n := ⟨_, rfl⟩
  obtain ⟨ae, e4⟩ : ∃ n, afterE x y = n := ⟨_, rfl⟩
  rw [hZ] at hz hzl
  have b1 := Lib.hid l1
  have b2 := Lib.hid l2
  have c1 := Lib.hid e1
  have c2 := Lib.hid e2
  have c3 := Lib.hid e3
  have c4 := Lib.hid e4
  have c5 := Lib.hid hZ
  have c6 := Lib.hid hze
  clear l1 l2 e1 e2 e3 e4 hZ hze
  have hpos : 0 < Z.length := by cases Z; exact absurd rfl hz; simp
  clear hz
  obtain ⟨ti, hin, hz0, hz1, hz2⟩ := info_parts info_u64
  go_enter Try.func5, Try.ntmps5
  go_wp2_with fail
  refine (long_b b1 (by repeat (first | (with_reducible exact Hid.out (by with_reducible assumption)) | (with_reducible refine IsL.alloc ?_ _) | (with_reducible refine IsL.drew ?_) | (with_reducible refine IsL.drewN ?_ _) | (with_reducible exact IsL.none)))).mono ?_
  rintro e w1 ⟨rfl, hb⟩
  have hB1 : Below w.heap.size w w1 := below_thru2 (by go_grown) hb
  have hs1 : w.heap.size ≤ w1.heap.size := hB1.size
  have L_p_1 : Hid (IsL w1 .u64 (.slice at1 xs.length cap1) xs) := Lib.hid (IsL.below (by repeat (first | (with_reducible exact Hid.out (by with_reducible assumption)) | (with_reducible refine IsL.alloc ?_ _) | (with_reducible refine IsL.drew ?_) | (with_reducible refine IsL.drewN ?_ _) | (with_reducible exact IsL.none))) hb)
  have L_q_1 : Hid (IsL w1 .u64 (.slice at2 ys.length cap2) ys) := Lib.hid (IsL.below (by repeat (first | (with_reducible exact Hid.out (by with_reducible assumption)) | (with_reducible refine IsL.alloc ?_ _) | (with_reducible refine IsL.drew ?_) | (with_reducible refine IsL.drewN ?_ _) | (with_reducible exact IsL.none))) hb)
  clear hb L_p_0 L_q_0
  go_wp2_with fail
  refine (long_b b2 (by repeat (first | (with_reducible exact Hid.out (by with_reducible assumption)) | (with_reducible refine IsL.alloc ?_ _) | (with_reducible refine IsL.drew ?_) | (with_reducible refine IsL.drewN ?_ _) | (with_reducible exact IsL.none)))).mono ?_
  rintro e w2 ⟨rfl, hb⟩
  have hB2 : Below w.heap.size w w2 := below_thru2 (by go_grown) hb
  have hs2 : w.heap.size ≤ w2.heap.size := hB2.size
  have L_p_2 : Hid (IsL w2 .u64 (.slice at1 xs.length cap1) xs) := Lib.hid (IsL.below (by repeat (first | (with_reducible exact Hid.out (by with_reducible assumption)) | (with_reducible refine IsL.alloc ?_ _) | (with_reducible refine IsL.drew ?_) | (with_reducible refine IsL.drewN ?_ _) | (with_reducible exact IsL.none))) hb)
  have L_q_2 : Hid (IsL w2 .u64 (.slice at2 ys.length cap2) ys) := Lib.hid (IsL.below (by repeat (first | (with_reducible exact Hid.out (by with_reducible assumption)) | (with_reducible refine IsL.alloc ?_ _) | (with_reducible refine IsL.drew ?_) | (with_reducible refine IsL.drewN ?_ _) | (with_reducible exact IsL.none))) hb)
  clear hb hB1 hs1 L_p_1 L_q_1
  go_wp2_with (first | (at_builtin; refine wpList_append_built rfl _ _ 22 rfl 26 ti (.int .u64 0) 8 .u64 Try.underlying22 hin hz0 hz1 hz2 rfl [] xs _ (.slice at1 xs.length cap1) _ _ _ rfl rfl rfl rfl rfl rfl L_p_2.out (by unfold maxLen; simp; omega) (by simp; omega) ?_; intro v_m wm hown hbm) | (at_builtin; refine wpList_append_built rfl _ _ 22 rfl 26 ti (.int .u64 0) 8 .u64 Try.underlying22 hin hz0 hz1 hz2 rfl [] ys _ (.slice at2 ys.length cap2) _ _ _ rfl rfl rfl rfl rfl rfl (IsL.below L_q_2.out hbm) (by unfold maxLen; simp; omega) (by simp; omega) ?_; intro v_n w3 hown2 hbn))
  have L_u_3 : Hid (IsL w3 .u64 v_m xs) := Lib.hid (IsL.below (IsL.own (xs := xs) hown rfl) hbn)
  have L_v_3 : Hid (IsL w3 .u64 v_n ys) := Lib.hid (IsL.own (xs := ys) hown2 rfl)
  have hb := below_thru2 hbm hbn
  clear hown hown2 hbm hbn
  have hB3 : Below w.heap.size w w3 := below_thru2 (by go_grown) hb
  have hs3 : w.heap.size ≤ w3.heap.size := hB3.size
  have L_p_3 : Hid (IsL w3 .u64 (.slice at1 xs.length cap1) xs) := Lib.hid (IsL.below (by repeat (first | (with_reducible exact Hid.out (by with_reducible assumption)) | (with_reducible refine IsL.alloc ?_ _) | (with_reducible refine IsL.drew ?_) | (with_reducible refine IsL.drewN ?_ _) | (with_reducible exact IsL.none))) hb)
  have L_q_3 : Hid (IsL w3 .u64 (.slice at2 ys.length cap2) ys) := Lib.hid (IsL.below (by repeat (first | (with_reducible exact Hid.out (by with_reducible assumption)) | (with_reducible refine IsL.alloc ?_ _) | (with_reducible refine IsL.drew ?_) | (with_reducible refine IsL.drewN ?_ _) | (with_reducible exact IsL.none))) hb)
  clear hb hB2 hs2 L_p_2 L_q_2
  go_wp2_with fail
  refine (since_is c1 c2 tx ty).mono ?_
  rintro e w4 ⟨rfl, hb⟩
  have hB4 : Below w.heap.size w w4 := below_thru2 (by go_grown) hb
  have hs4 : w.heap.size ≤ w4.heap.size := hB4.size
  have L_p_4 : Hid (IsL w4 .u64 (.slice at1 xs.length cap1) xs) := Lib.hid (IsL.below (by repeat (first | (with_reducible exact Hid.out (by with_reducible assumption)) | (with_reducible refine IsL.alloc ?_ _) | (with_reducible refine IsL.drew ?_) | (with_reducible refine IsL.drewN ?_ _) | (with_reducible exact IsL.none))) hb)
  have L_q_4 : Hid (IsL w4 .u64 (.slice at2 ys.length cap2) ys) := Lib.hid (IsL.below (by repeat (first | (with_reducible exact Hid.out (by with_reducible assumption)) | (with_reducible refine IsL.alloc ?_ _) | (with_reducible refine IsL.drew ?_) | (with_reducible refine IsL.drewN ?_ _) | (with_reducible exact IsL.none))) hb)
  have L_u_4 : Hid (IsL w4 .u64 v_m xs) := Lib.hid (IsL.below (by repeat (first | (with_reducible exact Hid.out (by with_reducible assumption)) | (with_reducible refine IsL.alloc ?_ _) | (with_reducible refine IsL.drew ?_) | (with_reducible refine IsL.drewN ?_ _) | (with_reducible exact IsL.none))) hb)
  have L_v_4 : Hid (IsL w4 .u64 v_n ys) := Lib.hid (IsL.below (by repeat (first | (with_reducible exact Hid.out (by with_reducible assumption)) | (with_reducible refine IsL.alloc ?_ _) | (with_reducible refine IsL.drew ?_) | (with_reducible refine IsL.drewN ?_ _) | (with_reducible exact IsL.none))) hb)
  clear hb hB3 hs3 L_p_3 L_q_3 L_u_3 L_v_3
  go_wp2_with fail
  refine (rsince_is c1 c2 tx ty).mono ?_
  rintro e w5 ⟨rfl, hb⟩
  have hB5 : Below w.heap.size w w5 := below_thru2 (by go_grown) hb
  have hs5 : w.heap.size ≤ w5.heap.size := hB5.size
  have L_p_5 : Hid (IsL w5 .u64 (.slice at1 xs.length cap1) xs) := Lib.hid (IsL.below (by repeat (first | (with_reducible exact Hid.out (by with_reducible assumption)) | (with_reducible refine IsL.alloc ?_ _) | (with_reducible refine IsL.drew ?_) | (with_reducible refine IsL.drewN ?_ _) | (with_reducible exact IsL.none))) hb)
  have L_q_5 : Hid (IsL w5 .u64 (.slice at2 ys.length cap2) ys) := Lib.hid (IsL.below (by repeat (first | (with_reducible exact Hid.out (by with_reducible assumption)) | (with_reducible refine IsL.alloc ?_ _) | (with_reducible refine IsL.drew ?_) | (with_reducible refine IsL.drewN ?_ _) | (with_reducible exact IsL.none))) hb)
  have L_u_5 : Hid (IsL w5 .u64 v_m xs) := Lib.hid (IsL.below (by repeat (first | (with_reducible exact Hid.out (by with_reducible assumption)) | (with_reducible refine IsL.alloc ?_ _) | (with_reducible refine IsL.drew ?_) | (with_reducible refine IsL.drewN ?_ _) | (with_reducible exact IsL.none))) hb)
  have L_v_5 : Hid (IsL w5 .u64 v_n ys) := Lib.hid (IsL.below (by repeat (first | (with_reducible exact Hid.out (by with_reducible assumption)) | (with_reducible refine IsL.alloc ?_ _) | (with_reducible refine IsL.drew ?_) | (with_reducible refine IsL.drewN ?_ _) | (with_reducible exact IsL.none))) hb)
  clear hb hB4 hs4 L_p_4 L_q_4 L_u_4 L_v_4
  go_wp2_with fail
  refine (after_is c3 c4 tx ty).mono ?_
  rintro e w6 ⟨rfl, hb⟩
  have hB6 : Below w.heap.size w w6 := below_thru2 (by go_grown) hb
  have hs6 : w.heap.size ≤ w6.heap.size := hB6.size
  have L_p_6 : Hid (IsL w6 .u64 (.slice at1 xs.length cap1) xs) := Lib.hid (IsL.below (by repeat (first | (with_reducible exact Hid.out (by with_reducible assumption)) | (with_reducible refine IsL.alloc ?_ _) | (with_reducible refine IsL.drew ?_) | (with_reducible refine IsL.drewN ?_ _) | (with_reducible exact IsL.none))) hb)
  have L_q_6 : Hid (IsL w6 .u64 (.slice at2 ys.length cap2) ys) := Lib.hid (IsL.below (by repeat (first | (with_reducible exact Hid.out (by with_reducible assumption)) | (with_reducible refine IsL.alloc ?_ _) | (with_reducible refine IsL.drew ?_) | (with_reducible refine IsL.drewN ?_ _) | (with_reducible exact IsL.none))) hb)
  have L_u_6 : Hid (IsL w6 .u64 v_m xs) := Lib.hid (IsL.below (by repeat (first | (with_reducible exact Hid.out (by with_reducible assumption)) | (with_reducible refine IsL.alloc ?_ _) | (with_reducible refine IsL.drew ?_) | (with_reducible refine IsL.drewN ?_ _) | (with_reducible exact IsL.none))) hb)
  have L_v_6 : Hid (IsL w6 .u64 v_n ys) := Lib.hid (IsL.below (by repeat (first | (with_reducible exact Hid.out (by with_reducible assumption)) | (with_reducible refine IsL.alloc ?_ _) | (with_reducible refine IsL.drew ?_) | (with_reducible refine IsL.drewN ?_ _) | (with_reducible exact IsL.none))) hb)
  clear hb hB5 hs5 L_p_5 L_q_5 L_u_5 L_v_5
  go_wp2_with fail
  refine (rafter_is c3 c4 tx ty).mono ?_
  rintro e w7 ⟨rfl, hb⟩
  have hB7 : Below w.heap.size w w7 := below_thru2 (by go_grown) hb
  have hs7 : w.heap.size ≤ w7.heap.size := hB7.size
  have L_p_7 : Hid (IsL w7 .u64 (.slice at1 xs.length cap1) xs) := Lib.hid (IsL.below (by repeat (first | (with_reducible exact Hid.out (by with_reducible assumption)) | (with_reducible refine IsL.alloc ?_ _) | (with_reducible refine IsL.drew ?_) | (with_reducible refine IsL.drewN ?_ _) | (with_reducible exact IsL.none))) hb)
  have L_q_7 : Hid (IsL w7 .u64 (.slice at2 ys.length cap2) ys) := Lib.hid (IsL.below (by repeat (first | (with_reducible exact Hid.out (by with_reducible assumption)) | (with_reducible refine IsL.alloc ?_ _) | (with_reducible refine IsL.drew ?_) | (with_reducible refine IsL.drewN ?_ _) | (with_reducible exact IsL.none))) hb)
  have L_u_7 : Hid (IsL w7 .u64 v_m xs) := Lib.hid (IsL.below (by repeat (first | (with_reducible exact Hid.out (by with_reducible assumption)) | (with_reducible refine IsL.alloc ?_ _) | (with_reducible refine IsL.drew ?_) | (with_reducible refine IsL.drewN ?_ _) | (with_reducible exact IsL.none))) hb)
  have L_v_7 : Hid (IsL w7 .u64 v_n ys) := Lib.hid (IsL.below (by repeat (first | (with_reducible exact Hid.out (by with_reducible assumption)) | (with_reducible refine IsL.alloc ?_ _) | (with_reducible refine IsL.drew ?_) | (with_reducible refine IsL.drewN ?_ _) | (with_reducible exact IsL.none))) hb)
  clear hb hB6 hs6 L_p_6 L_q_6 L_u_6 L_v_6
  go_wp2_with fail
  have HB7 := Lib.hid hB7
  have K_p := L_p_7
  have K_q := L_q_7
  have K_u := L_u_7
  have K_v := L_v_7
  refine (merge_os c5 c6 (by repeat (first | (with_reducible exact Hid.out (by with_reducible assumption)) | (with_reducible refine IsL.alloc ?_ _) | (with_reducible refine IsL.drew ?_) | (with_reducible refine IsL.drewN ?_ _) | (with_reducible exact IsL.none))) (by repeat (first | (with_reducible exact Hid.out (by with_reducible assumption)) | (with_reducible refine IsL.alloc ?_ _) | (with_reducible refine IsL.drew ?_) | (with_reducible refine IsL.drewN ?_ _) | (with_reducible exact IsL.none)))).mono ?_
  rintro e w8 ⟨v_k, rfl, hk, hb⟩
  have H78 := Lib.hid hb
  have hB8 : Below w.heap.size w w8 := below_thru2 (by go_grown) hb
  have hs8 : w.heap.size ≤ w8.heap.size := hB8.size
  have L_p_8 : Hid (IsL w8 .u64 (.slice at1 xs.length cap1) xs) := Lib.hid (IsL.below (by repeat (first | (with_reducible exact Hid.out (by with_reducible assumption)) | (with_reducible refine IsL.alloc ?_ _) | (with_reducible refine IsL.drew ?_) | (with_reducible refine IsL.drewN ?_ _) | (with_reducible exact IsL.none))) hb)
  have L_q_8 : Hid (IsL w8 .u64 (.slice at2 ys.length cap2) ys) := Lib.hid (IsL.below (by repeat (first | (with_reducible exact Hid.out (by with_reducible assumption)) | (with_reducible refine IsL.alloc ?_ _) | (with_reducible refine IsL.drew ?_) | (with_reducible refine IsL.drewN ?_ _) | (with_reducible exact IsL.none))) hb)
  have L_u_8 : Hid (IsL w8 .u64 v_m xs) := Lib.hid (IsL.below (by repeat (first | (with_reducible exact Hid.out (by with_reducible assumption)) | (with_reducible refine IsL.alloc ?_ _) | (with_reducible refine IsL.drew ?_) | (with_reducible refine IsL.drewN ?_ _) | (with_reducible exact IsL.none))) hb)
  have L_v_8 : Hid (IsL w8 .u64 v_n ys) := Lib.hid (IsL.below (by repeat (first | (with_reducible exact Hid.out (by with_reducible assumption)) | (with_reducible refine IsL.alloc ?_ _) | (with_reducible refine IsL.drew ?_) | (with_reducible refine IsL.drewN ?_ _) | (with_reducible exact IsL.none))) hb)
  clear hb hB7 hs7 L_p_7 L_q_7 L_u_7 L_v_7
  obtain ⟨g, ck, rfl, hg1, hg2⟩ := hk.form hpos
  have hk8 := Lib.hid hk
  clear hk
  go_wp2_with fail
  refine (rmerge_os c5 c6 (by repeat (first | (with_reducible exact Hid.out (by with_reducible assumption)) | (with_reducible refine IsL.alloc ?_ _) | (with_reducible refine IsL.drew ?_) | (with_reducible refine IsL.drewN ?_ _) | (with_reducible exact IsL.none))) (by repeat (first | (with_reducible exact Hid.out (by with_reducible assumption)) | (with_reducible refine IsL.alloc ?_ _) | (with_reducible refine IsL.drew ?_) | (with_reducible refine IsL.drewN ?_ _) | (with_reducible exact IsL.none)))).mono ?_
  rintro e w9 ⟨v_j, rfl, hm, hb⟩
  have hk9 := Lib.hid (own_below hk8.out hb)
  have H79 : Below w7.heap.size w7 w9 := below_thru2 H78.out hb
  have hB9 : Below w.heap.size w w9 := below_thru2 (by go_grown) hb
  have hs9 : w.heap.size ≤ w9.heap.size := hB9.size
  have L_p_9 : Hid (IsL w9 .u64 (.slice at1 xs.length cap1) xs) := Lib.hid (IsL.below (by repeat (first | (with_reducible exact Hid.out (by with_reducible assumption)) | (with_reducible refine IsL.alloc ?_ _) | (with_reducible refine IsL.drew ?_) | (with_reducible refine IsL.drewN ?_ _) | (with_reducible exact IsL.none))) hb)
  have L_q_9 : Hid (IsL w9 .u64 (.slice at2 ys.length cap2) ys) := Lib.hid (IsL.below (by repeat (first | (with_reducible exact Hid.out (by with_reducible assumption)) | (with_reducible refine IsL.alloc ?_ _) | (with_reducible refine IsL.drew ?_) | (with_reducible refine IsL.drewN ?_ _) | (with_reducible exact IsL.none))) hb)
  have L_u_9 : Hid (IsL w9 .u64 v_m xs) := Lib.hid (IsL.below (by repeat (first | (with_reducible exact Hid.out (by with_reducible assumption)) | (with_reducible refine IsL.alloc ?_ _) | (with_reducible refine IsL.drew ?_) | (with_reducible refine IsL.drewN ?_ _) | (with_reducible exact IsL.none))) hb)
  have L_v_9 : Hid (IsL w9 .u64 v_n ys) := Lib.hid (IsL.below (by repeat (first | (with_reducible exact Hid.out (by with_reducible assumption)) | (with_reducible refine IsL.alloc ?_ _) | (with_reducible refine IsL.drew ?_) | (with_reducible refine IsL.drewN ?_ _) | (with_reducible exact IsL.none))) hb)
  clear hb hB8 hs8 L_p_8 L_q_8 L_u_8 L_v_8
  obtain ⟨g2, cm, rfl, hg3, hg4⟩ := hm.form hpos
  have hm9 := Lib.hid hm
  have hgg : g2 ≠ g := by omega
  clear hm hk8
  go_wp2_with fail
  go_loopw [23] (fun i wr => ∃ (j : Nat) (ks : List Value), j ≤ Z.length ∧ i = .int .i64 j ∧ Hid (∀ i, j ≤ i → i < Z.length → ks[i]? = some (.int .u64 (nth Z i))) ∧ wr.ownsRow w7.heap.size 26 1 (.slice (some ⟨g, 0, none⟩) Z.length ck) Z.length ks ∧
    wr.ownsRow w8.heap.size 26 1 (.slice (some ⟨g2, 0, none⟩) Z.length cm) Z.length (Z.map (Value.int .u64)) ∧ Below w7.heap.size w7 wr) (fun i _ => Z.length - (intOf i).toNat)
  case atStart => exact ⟨0, Z.map (Value.int .u64), Nat.zero_le _, rfl, Lib.hid (fun i _ hi => by rw [List.getElem?_map, List.getElem?_eq_getElem hi, nth_get hi]; rfl), hk9.out, hm9.out, H79⟩
  case round =>
    obtain ⟨j, ks, hj, rfl, hks, hk, hm, hW⟩ := hrel
    by_cases hlt : j < Z.length
    · have ck1 := (hk.cellAt j (by omega)).trans (hks.out j (Nat.le_refl _) hlt)
      have cm1 := (hm.cellAt j (by omega)).trans (show (Z.map (Value.int .u64))[j]? = some (.int .u64 (nth Z j)) by rw [List.getElem?_map, List.getElem?_eq_getElem hlt, nth_get hlt]; rfl)
      have fk1 := hk.frozenAt j
      have hst := Lib.hid (fun u => hk.stored j u)
      have hkp := Lib.hid (fun u => hm.kept (hk.stored j u).2 (.inr (fun q => hgg (by cases q; rfl))))
      have HW := Lib.hid (fun u => hW.setCell (p := ⟨g, j, none⟩) hg1 u)
      obtain ⟨t, ht⟩ : ∃ t, nth Z j = t := ⟨_, rfl⟩
      rw [ht] at ck1 cm1
      have i0 : (0 : Int) ≤ (j : Int) := by omega
      have i1 : (j : Int) < (Z.length : Int) := by omega
      clear ht hk hm hW
      go_wp2_with fail
      go_quiet (fail)
      rename_i nq
      go_wp2_with fail
      go_roundw
      case rel => exact ⟨j + 1, _, by omega, by go_num, Lib.hid (fun i hi hi2 => by rw [List.getElem?_set_ne (by omega)]; exact hks.out i (by omega) hi2), owns_drewN (hst.out _).1 nq, owns_drewN (hkp.out _) nq, below_drewN' (HW.out _) nq⟩
      case measure => simp [intOf]; omega
    · have hWW := Lib.hid hW
      have L1 := Lib.hid (IsL.below K_p.out hW)
      have L2 := Lib.hid (IsL.below K_q.out hW)
      have L3 := Lib.hid (IsL.below K_u.out hW)
      have L4 := Lib.hid (IsL.below K_v.out hW)
      have HBw := Lib.hid (below_thru2 HB7.out hW)
      obtain rfl : j = Z.length := by omega
      clear hk hm hW hks
      go_wp2_with fail
      refine (same_tt (xs := xs) L1.out L3.out).mono ?_
      rintro e w10 ⟨rfl, hb1⟩
      have L5 := Lib.hid (IsL.below L2.out hb1)
      have L6 := Lib.hid (IsL.below L4.out hb1)
      have HBx := Lib.hid (below_thru2 HBw.out hb1)
      clear hb1
      go_wp2_with fail
      refine (same_tt (xs := ys) L5.out L6.out).mono ?_
      rintro e w11 ⟨rfl, hb1⟩
      have HBy := Lib.hid (below_thru2 HBx.out hb1)
      clear hb1
      go_wp2_with fail
      go_returns
      exact ⟨rfl, HBy.out⟩

theorem ticks_all (x y : Int) (xs ys : List Int) (at1 at2 : Option Addr) (cap1 cap2 : Nat) (w : World) (tx : tick x) (ty : tick y) (hi1 : IsL w .u64 (.slice at1 xs.length cap1) xs) (hi2 : IsL w .u64 (.slice at2 ys.length cap2) ys) :
    Calls Try.prog 5 #[.int .u64 x, .int .u64 y, .slice at1 xs.length cap1, .slice at2 ys.length cap2] w fun e w' => e = .returned (.bool true) ∧ Below w.heap.size w w' := by
  cases l1 : longB xs.length with
  | true => exact ticks_a x y xs ys at1 at2 cap1 cap2 w hi1 hi2 l1
  | false =>
    cases l2 : longB ys.length with
    | true => exact ticks_b x y xs ys at1 at2 cap1 cap2 w hi1 hi2 l1 l2
    | false =>
      by_cases hz : mgV xs ys = []
      · exact ticks_empty x y xs ys at1 at2 cap1 cap2 w tx ty hi1 hi2 l1 l2 hz
      · exact ticks_full x y xs ys at1 at2 cap1 cap2 w tx ty hi1 hi2 l1 l2 hz

end Go.Proofs.Ytdalbngfhinadaa
