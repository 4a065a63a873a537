/-
  ClockNever, walked: it returns true.
-/
import Derived.Test.YtdalbngfhinadaaClockMath
import Derived.Test.YtdalbngfhinadaaAlive02
import Derived.Deep.QuietTactic
import Derived.BigQuiet
import Derived.IntWalk
namespace Go.Proofs.Ytdalbngfhinadaa
open Go.RowKit

theorem in_at (at0 : Option Addr) (cap : Nat) (xs : List Int) (m : Nat) (t : Int) (w : World) (b : Bool) (h : Hid (inB (xs.take m) t = b)) (hi : IsL w .u64 (.slice at0 xs.length cap) xs) (hm : m ≤ xs.length) :
    Calls Try.prog 26 #[.slice at0 m cap, .int .u64 t] w fun e w' => e = .returned (.bool b) ∧ w' = w := by
  obtain ⟨a, c, e, h1, h0⟩ := hi
  injection e with e1 e2 e3
  subst e1 e3
  have := in_any at0 cap (xs.take m) t w (h1.take m hm)
  rw [show (xs.take m).length = m by rw [List.length_take]; omega, h.out] at this
  exact this

theorem never_long (now : Int) (xs : List Int) (at0 : Option Addr) (cap : Nat) (w : World) (hl : 40 < xs.length) :
    Calls Try.prog 6 #[.int .u64 now, .slice at0 xs.length cap] w fun e w' => e = .returned (.bool true) ∧ Below w.heap.size w w' := by
  have d1 : decide ((40 : Int) < (xs.length : Int)) = true := decide_eq_true (by omega)
  go_enter Try.func6, Try.ntmps6
  go_wp2_with fail
  refine (alive02_any _).mono ?_
  rintro e w1 ⟨rfl, hb⟩
  go_wp2_with fail
  go_returns
  exact ⟨rfl, hb⟩

set_option maxRecDepth 100000 in
set_option maxHeartbeats 3200000 in
theorem never_short (now : Int) (xs : List Int) (at0 : Option Addr) (cap : Nat) (w : World) (hi : IsL w .u64 (.slice at0 xs.length cap) xs) (hl : xs.length ≤ 40) :
    Calls Try.prog 6 #[.int .u64 now, .slice at0 xs.length cap] w fun e w' => e = .returned (.bool true) ∧ Below w.heap.size w w' := by
  obtain ⟨_, hr, hm⟩ := hi.room
  have L_l_0 := Lib.hid hi
  clear hi
  have d1 : decide ((40 : Int) < (xs.length : Int)) = false := decide_eq_false (by omega)
  obtain ⟨A, hA⟩ : ∃ A, cl now xs xs.length = A := ⟨_, rfl⟩
  obtain ⟨B, hB⟩ : ∃ B, bk now xs xs.length = B := ⟨_, rfl⟩
  have a1 := Lib.hid (show clV now xs = A by rw [← hA]; exact if_neg (by omega))
  have a2 := Lib.hid (show clE xs = 0 from if_neg (by omega))
  have a3 := Lib.hid (show bkL now xs = B by rw [← hB]; exact if_neg (by omega))
  have hAl : A.length = xs.length := by rw [← hA, cl_len]
  have d2 : ((A.length : Int) != (xs.length : Int)) = false := by rw [hAl]; simp
  have hAl' := Lib.hid hAl
  have hA' := Lib.hid hA
  have hB' := Lib.hid hB
  have hBl : B.length ≤ 40 := by rw [← hB]; have := bk_len now xs xs.length; omega
  have hris := Lib.hid (show risB ([now] ++ A) = true by rw [← hA]; exact cl_rises now xs)
  have ha40 : A.length ≤ 40 := by omega
  clear hAl hA hB
  obtain ⟨ti, hin, hz0, hz1, hz2⟩ := info_parts info_u64
  go_enter Try.func6, Try.ntmps6
  go_wp2_with fail
  refine (clamps_is a1 a2 (by repeat (first | (with_reducible exact Hid.out (by with_reducible assumption)) | (with_reducible refine IsL.alloc ?_ _) | (with_reducible refine IsL.drew ?_) | (with_reducible refine IsL.drewN ?_ _) | (with_reducible exact IsL.none)))).mono ?_
  rintro e w1 ⟨v_a, rfl, hl, hb⟩
  have hB1 : Below w.heap.size w w1 := below_thru (by go_grown) hb
  have hs1 : w.heap.size ≤ w1.heap.size := hB1.size
  have L_l_1 : Hid (IsL w1 .u64 (.slice at0 xs.length cap) xs) := Lib.hid (IsL.below (by repeat (first | (with_reducible exact Hid.out (by with_reducible assumption)) | (with_reducible refine IsL.alloc ?_ _) | (with_reducible refine IsL.drew ?_) | (with_reducible refine IsL.drewN ?_ _) | (with_reducible exact IsL.none))) hb)
  clear hb L_l_0
  have L_a_1 := Lib.hid hl
  clear hl
  go_wp2_with fail
  refine (back_is a3 a2 (by repeat (first | (with_reducible exact Hid.out (by with_reducible assumption)) | (with_reducible refine IsL.alloc ?_ _) | (with_reducible refine IsL.drew ?_) | (with_reducible refine IsL.drewN ?_ _) | (with_reducible exact IsL.none)))).mono ?_
  rintro e w2 ⟨v_b, rfl, hl, hb⟩
  have hB2 : Below w.heap.size w w2 := below_thru (by go_grown) hb
  have hs2 : w.heap.size ≤ w2.heap.size := hB2.size
  have L_l_2 : Hid (IsL w2 .u64 (.slice at0 xs.length cap) xs) := Lib.hid (IsL.below (by repeat (first | (with_reducible exact Hid.out (by with_reducible assumption)) | (with_reducible refine IsL.alloc ?_ _) | (with_reducible refine IsL.drew ?_) | (with_reducible refine IsL.drewN ?_ _) | (with_reducible exact IsL.none))) hb)
  have L_a_2 : Hid (IsL w2 .u64 v_a A) := Lib.hid (IsL.below (by repeat (first | (with_reducible exact Hid.out (by with_reducible assumption)) | (with_reducible refine IsL.alloc ?_ _) | (with_reducible refine IsL.drew ?_) | (with_reducible refine IsL.drewN ?_ _) | (with_reducible exact IsL.none))) hb)
  clear hb hB1 hs1 L_l_1 L_a_1
  have L_b_2 := Lib.hid hl
  clear hl
  obtain ⟨aa, ca, rfl, _⟩ := id L_a_2.out
  obtain ⟨_, hra, hma⟩ := L_a_2.out.room
  obtain ⟨ab, cb, rfl, _⟩ := id L_b_2.out
  obtain ⟨_, hrb, hmb⟩ := L_b_2.out.room
  go_wp2_with (at_builtin; refine wpList_append_built rfl _ _ 22 rfl 26 ti (.int .u64 0) 8 .u64 Try.underlying22 hin hz0 hz1 hz2 rfl [now] A _ (.slice aa A.length ca) _ _ _ rfl rfl rfl rfl rfl rfl L_a_2.out (by unfold maxLen; simp; omega) (by simp; omega) ?_; intro v_c w3 hown hb)
  have hB3 : Below w.heap.size w w3 := below_thru (by go_grown) hb
  have hs3 : w.heap.size ≤ w3.heap.size := hB3.size
  have L_l_3 : Hid (IsL w3 .u64 (.slice at0 xs.length cap) xs) := Lib.hid (IsL.below (by repeat (first | (with_reducible exact Hid.out (by with_reducible assumption)) | (with_reducible refine IsL.alloc ?_ _) | (with_reducible refine IsL.drew ?_) | (with_reducible refine IsL.drewN ?_ _) | (with_reducible exact IsL.none))) hb)
  have L_a_3 : Hid (IsL w3 .u64 (.slice aa A.length ca) A) := Lib.hid (IsL.below (by repeat (first | (with_reducible exact Hid.out (by with_reducible assumption)) | (with_reducible refine IsL.alloc ?_ _) | (with_reducible refine IsL.drew ?_) | (with_reducible refine IsL.drewN ?_ _) | (with_reducible exact IsL.none))) hb)
  have L_b_3 : Hid (IsL w3 .i64 (.slice ab B.length cb) B) := Lib.hid (IsL.below (by repeat (first | (with_reducible exact Hid.out (by with_reducible assumption)) | (with_reducible refine IsL.alloc ?_ _) | (with_reducible refine IsL.drew ?_) | (with_reducible refine IsL.drewN ?_ _) | (with_reducible exact IsL.none))) hb)
  clear hb hB2 hs2 L_l_2 L_a_2 L_b_2
  have L_c_3 := Lib.hid (IsL.own hown rfl)
  clear hown
  go_wp2_with fail
  refine (rising_b hris (by repeat (first | (with_reducible exact Hid.out (by with_reducible assumption)) | (with_reducible refine IsL.alloc ?_ _) | (with_reducible refine IsL.drew ?_) | (with_reducible refine IsL.drewN ?_ _) | (with_reducible exact IsL.none)))).mono ?_
  rintro e w4 ⟨rfl, hb⟩
  have hB4 : Below w.heap.size w w4 := below_thru (by go_grown) hb
  have hs4 : w.heap.size ≤ w4.heap.size := hB4.size
  have L_l_4 : Hid (IsL w4 .u64 (.slice at0 xs.length cap) xs) := Lib.hid (IsL.below (by repeat (first | (with_reducible exact Hid.out (by with_reducible assumption)) | (with_reducible refine IsL.alloc ?_ _) | (with_reducible refine IsL.drew ?_) | (with_reducible refine IsL.drewN ?_ _) | (with_reducible exact IsL.none))) hb)
  have L_a_4 : Hid (IsL w4 .u64 (.slice aa A.length ca) A) := Lib.hid (IsL.below (by repeat (first | (with_reducible exact Hid.out (by with_reducible assumption)) | (with_reducible refine IsL.alloc ?_ _) | (with_reducible refine IsL.drew ?_) | (with_reducible refine IsL.drewN ?_ _) | (with_reducible exact IsL.none))) hb)
  have L_b_4 : Hid (IsL w4 .i64 (.slice ab B.length cb) B) := Lib.hid (IsL.below (by repeat (first | (with_reducible exact Hid.out (by with_reducible assumption)) | (with_reducible refine IsL.alloc ?_ _) | (with_reducible refine IsL.drew ?_) | (with_reducible refine IsL.drewN ?_ _) | (with_reducible exact IsL.none))) hb)
  have L_c_4 : Hid (IsL w4 .u64 v_c ([now] ++ A)) := Lib.hid (IsL.below (by repeat (first | (with_reducible exact Hid.out (by with_reducible assumption)) | (with_reducible refine IsL.alloc ?_ _) | (with_reducible refine IsL.drew ?_) | (with_reducible refine IsL.drewN ?_ _) | (with_reducible exact IsL.none))) hb)
  clear hb hB3 hs3 L_l_3 L_a_3 L_b_3 L_c_3
  clear L_c_4
  go_wp2_with fail
  go_loopw [9, 10] (fun s i wr => ∃ j m : Nat, j ≤ xs.length ∧ i = .int .i64 j ∧ s = .int .i64 m ∧ Hid ((bk now xs j).length = m) ∧ Below w4.heap.size w4 wr) (fun _ i _ => xs.length - (intOf i).toNat)
  case atStart => exact ⟨0, 0, Nat.zero_le _, rfl, rfl, Lib.hid rfl, Below.refl _ _⟩
  case round =>
    obtain ⟨j, m, hj, rfl, rfl, hme, hW⟩ := hrel
    have HBw := Lib.hid (below_thru hB4 hW)
    by_cases hlt : j < xs.length
    · have hjA : j < A.length := by have := hAl'.out; omega
      have L1 := IsL.below L_l_4.out hW
      have L2 := IsL.below L_a_4.out hW
      have L3 := IsL.below L_b_4.out hW
      have hL1 := Lib.hid L1
      obtain ⟨b1, o1, e1, c1⟩ := L1.get j hlt
      obtain ⟨b2, o2, e2, c2⟩ := L2.get j hjA
      subst e1 e2
      have hx : nth A j = gr now (xs.take (j + 1)) := by rw [← hA'.out]; exact cl_nth now xs _ j hlt
      obtain ⟨x, hxe⟩ : ∃ x, nth xs j = x := ⟨_, rfl⟩
      obtain ⟨y, hye⟩ : ∃ y, nth A j = y := ⟨_, rfl⟩
      have hge : x ≤ y := by rw [← hxe, ← hye, hx]; exact (gr_mono now xs j hlt).2
      have d3 : decide (y < x) = false := decide_eq_false (by omega)
      have hin2 : y ≠ now → inB (xs.take (j + 1)) y = true := by rw [← hye, hx]; exact cl_in now xs j
      have hne : y ≠ x ↔ nth xs j < gr now (xs.take j) := by rw [← hxe, ← hye, hx]; exact gr_ne_iff now xs j hlt
      rw [hxe] at c1
      rw [hye] at c2
      have hbk := bk_nth now xs xs.length j hlt
      have hsk := bk_skip now xs j
      rw [hB'.out] at hbk
      have hbl := bk_len now xs j
      rw [hme.out] at hbk hbl
      clear hx hxe hye L1 L2
      have i0 : (0 : Int) ≤ (j : Int) := by omega
      have i1 : (j : Int) < (xs.length : Int) := by omega
      have i2 : (j : Int) < (A.length : Int) := by omega
      have i3 : IntKind.i64.wrap ((j : Int) + 1) = (j : Int) + 1 := IntWalk.i64_in _ (by omega)
      have i4 : (0 : Int) ≤ (j : Int) + 1 := by omega
      have i5 : ((j : Int) + 1).toNat = j + 1 := by omega
      have i6 : (j : Int) + 1 ≤ (cap : Int) := by omega
      by_cases hyx : y = x
      · have d4 : (y != x) = false := by rw [hyx]; simp
        have hs2 := Lib.hid (hsk (fun q => (hne.2 q) hyx))
        clear hbk hne hsk hyx
        by_cases hyn : y = now
        · have d5 : (y != now) = false := by rw [hyn]; simp
          clear hin2 hyn
          go_wp2_with fail
          go_quiet (fail)
          rename_i nq
          go_wp2_with fail
          go_quiet (fail)
          rename_i nq2
          go_wp2_with fail
          go_roundw
          case rel => exact ⟨j + 1, m, by omega, by go_num, rfl, Lib.hid (by rw [hs2.out]; exact hme.out), below_drewN' hW _⟩
          case measure => simp [intOf]; omega
        · have d5 : (y != now) = true := by simpa using hyn
          have hin3 := Lib.hid (hin2 hyn)
          clear hin2 hyn
          go_wp2_with fail
          go_quiet ((go_at_call 26; exact Calls.quiet_of_same (in_at _ cap xs (j + 1) y _ true hin3 (hL1.out.drewN _) (by omega))))
          rename_i nq
          go_wp2_with fail
          go_quiet (fail)
          rename_i nq2
          go_wp2_with fail
          go_roundw
          case rel => exact ⟨j + 1, m, by omega, by go_num, rfl, Lib.hid (by rw [hs2.out]; exact hme.out), below_drewN' hW _⟩
          case measure => simp [intOf]; omega
      · have d4 : (y != x) = true := by simpa using hyx
        obtain ⟨k1, k2, k3⟩ := hbk (hne.1 hyx)
        have k3' := Lib.hid k3
        obtain ⟨b3, o3, e3, c3⟩ := L3.get m k1
        subst e3
        rw [k2] at c3
        have i7 : (m : Int) < (B.length : Int) := by omega
        have i8 : decide ((B.length : Int) ≤ (m : Int)) = false := decide_eq_false (by omega)
        have i9 : (0 : Int) ≤ (m : Int) := by omega
        clear k2 k3 hne hsk hyx L3
        by_cases hyn : y = now
        · have d5 : (y != now) = false := by rw [hyn]; simp
          clear hin2 hyn
          go_wp2_with fail
          go_quiet (fail)
          rename_i nq
          go_wp2_with fail
          go_quiet (fail)
          rename_i nq2
          go_wp2_with fail
          go_roundw
          case rel => exact ⟨j + 1, m + 1, by omega, by go_num, by go_num, k3', below_drewN' hW _⟩
          case measure => simp [intOf]; omega
        · have d5 : (y != now) = true := by simpa using hyn
          have hin3 := Lib.hid (hin2 hyn)
          clear hin2 hyn
          go_wp2_with fail
          go_quiet ((go_at_call 26; exact Calls.quiet_of_same (in_at _ cap xs (j + 1) y _ true hin3 (hL1.out.drewN _) (by omega))))
          rename_i nq
          go_wp2_with fail
          go_quiet (fail)
          rename_i nq2
          go_wp2_with fail
          go_roundw
          case rel => exact ⟨j + 1, m + 1, by omega, by go_num, by go_num, k3', below_drewN' hW _⟩
          case measure => simp [intOf]; omega
    · obtain rfl : j = xs.length := by omega
      have hmB : m = B.length := by rw [← hme.out, hB'.out]
      subst hmB
      go_wp2_with fail
      refine (alive02_any _).mono ?_
      rintro e w9 ⟨rfl, hb9⟩
      have hb9' := below_thru HBw.out hb9
      clear hb9
      go_wp2_with fail
      go_returns
      exact ⟨rfl, hb9'⟩

end Go.Proofs.Ytdalbngfhinadaa
