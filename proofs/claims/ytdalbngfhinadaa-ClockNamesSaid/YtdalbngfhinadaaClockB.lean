/-
  Package clock, walked: too many readings; differences and sums; whether a list is sorted; merged ticks.
-/
import Derived.Test.YtdalbngfhinadaaRef02B
import Derived.WalkLawsBesides
import Derived.IntWalk
import Derived.Deep.RegionHeld3
import Derived.Deep.AppendLies
import Derived.Deep.RegionLaw
import Derived.BigQuiet
import Derived.Deep.QuietTactic
import Derived.Maps.AppendAt
namespace Go.Proofs.Ytdalbngfhinadaa
open Go.RowKit

theorem clamps_no (now : Int) (at0 : Option Addr) (len cap : Nat) (w : World) (hl : 200 < len) (hm : len ≤ 9223372036854775807) :
    Calls Try.prog 9 #[.int .u64 now, .slice at0 len cap] w fun e w' => e = .returned (.tuple #[.slice none 0 0, .int .i64 4]) ∧ Below w.heap.size w w' := by
  have hd : decide ((200 : Int) < (len : Int)) = true := decide_eq_true (by omega)
  go_enter Try.func9, Try.ntmps9
  go_wp2
  go_returns
  exact ⟨rfl, Below.refl _ _⟩
theorem back_no (now : Int) (at0 : Option Addr) (len cap : Nat) (w : World) (hl : 200 < len) (hm : len ≤ 9223372036854775807) :
    Calls Try.prog 10 #[.int .u64 now, .slice at0 len cap] w fun e w' => e = .returned (.tuple #[.slice none 0 0, .int .i64 4]) ∧ Below w.heap.size w w' := by
  have hd : decide ((200 : Int) < (len : Int)) = true := decide_eq_true (by omega)
  go_enter Try.func10, Try.ntmps10
  go_wp2
  go_returns
  exact ⟨rfl, (Below.refl _ _).alloc (Nat.le_refl _) _⟩
theorem since_any (x y : Int) (w : World) (h1 : 0 ≤ x) (h1' : x ≤ 18446744073709551615) (h2 : 0 ≤ y) (h2' : y ≤ 18446744073709551615) :
    Calls Try.prog 11 #[.int .u64 x, .int .u64 y] w fun e w' => e = .returned (.tuple #[.int .u64 (sinceV x y), .int .i64 (sinceE x y)]) ∧ w' = w := by
  by_cases h : y < x
  · have e1 := Lib.hid (show sinceV x y = 0 from if_pos h)
    have e2 := Lib.hid (show sinceE x y = 32 from if_pos h)
    go_enter Try.func11, Try.ntmps11
    go_wp2
    go_returns
    exact ⟨by rw [e1.out, e2.out]; rfl, rfl⟩
  · have e1 := Lib.hid (show sinceV x y = y - x from if_neg h)
    have e2 := Lib.hid (show sinceE x y = 0 from if_neg h)
    have h' : x ≤ y := by omega
    clear h
    go_enter Try.func11, Try.ntmps11
    go_wp2
    go_returns
    exact ⟨by rw [e1.out, e2.out]; rfl, rfl⟩
theorem after_any (t n : Int) (w : World) (h1 : 0 ≤ t) (h1' : t ≤ 18446744073709551615) (h2 : 0 ≤ n) (h2' : n ≤ 18446744073709551615) :
    Calls Try.prog 12 #[.int .u64 t, .int .u64 n] w fun e w' => e = .returned (.tuple #[.int .u64 (afterV t n), .int .i64 (afterE t n)]) ∧ w' = w := by
  by_cases h : 18446744073709551615 - t < n
  · have e1 := Lib.hid (show afterV t n = 0 from if_pos h)
    have e2 := Lib.hid (show afterE t n = 16 from if_pos h)
    go_enter Try.func12, Try.ntmps12
    go_wp2
    go_returns
    exact ⟨by rw [e1.out, e2.out]; rfl, rfl⟩
  · have e1 := Lib.hid (show afterV t n = t + n from if_neg h)
    have e2 := Lib.hid (show afterE t n = 0 from if_neg h)
    have h' : n ≤ 18446744073709551615 - t := by omega
    clear h
    go_enter Try.func12, Try.ntmps12
    go_wp2
    go_returns
    exact ⟨by rw [e1.out, e2.out]; rfl, rfl⟩

theorem isnan_any (x : Int) (w : World) : Calls Try.prog 32 #[.int .u64 x] w fun e w' => e = .returned (.bool false) ∧ w' = w := by
  go_enter Try.func32, Try.ntmps32
  go_wp2
  go_returns
  exact ⟨by simp, rfl⟩
def ltB (x y : Int) : Bool := decide (x < y)
theorem less_any (x y : Int) (w : World) : Calls Try.prog 31 #[.int .u64 x, .int .u64 y] w fun e w' => e = .returned (.bool (ltB x y)) ∧ w' = w := by
  have HL : Hid (ltB x y = decide (x < y)) := rfl
  go_enter Try.func31, Try.ntmps31
  go_wp2_with (go_at_call 32; refine (isnan_any _ _).mono ?_; rintro e w' ⟨rfl, rfl⟩)
  all_goals go_returns
  all_goals exact ⟨by rw [HL.out]; rfl, rfl⟩

theorem less_is (x y : Int) (b : Bool) (h : Hid (ltB x y = b)) (w : World) : Calls Try.prog 31 #[.int .u64 x, .int .u64 y] w fun e w' => e = .returned (.bool b) ∧ w' = w := by
  have := less_any x y w
  rw [h.out] at this
  exact this

set_option maxHeartbeats 800000 in
theorem sorted_any (at0 : Option Addr) (cap : Nat) (xs : List Int) (w : World) (hi : Ints w .u64 at0 cap xs) :
    Calls Try.prog 29 #[.slice at0 xs.length cap] w fun e w' => e = .returned (.bool (risB xs)) ∧ ∃ n, w' = w.drewN n := by
  have hm := hi.most
  have hr := hi.room
  have HI := Lib.hid hi
  clear hi
  go_enter Try.func29, Try.ntmps29
  go_wp2
  go_loopw [3] (fun i wr => ∃ (k : Int) (n : Nat), -1 ≤ k ∧ k < xs.length ∧ i = .int .i64 k ∧ Hid (wr = w.drewN n) ∧ Hid (∀ i : Nat, k ≤ (i : Int) → i + 1 < xs.length → nth xs i ≤ nth xs (i + 1))) (fun i _ => (intOf i).toNat)
  case atStart => exact ⟨(xs.length : Int) - 1, 0, by omega, by omega, by go_num, Lib.hid rfl, Lib.hid (fun i h1 h2 => by omega)⟩
  case round =>
    obtain ⟨k, n, hk1, hk, rfl, hw, he⟩ := hrel
    by_cases hlt : 0 < k
    · obtain ⟨j, rfl⟩ : ∃ j : Nat, k = ((j + 1 : Nat) : Int) := ⟨(k - 1).toNat, by omega⟩
      have HR : Ints wr .u64 at0 cap xs := by rw [hw.out]; exact HI.out.drewN n
      obtain ⟨b, off, e1, hcs⟩ := HR.cells (by omega)
      clear HR
      subst e1
      have hc := hcs (j + 1) (by omega)
      have hc0 := hcs j (by omega)
      clear hcs
      have i0 : (0 : Int) ≤ (j : Int) := by omega
      have i1 : (j : Int) < (xs.length : Int) := by omega
      have i2 : (j : Int) + 1 < (xs.length : Int) := by omega
      have i3 : (0 : Int) ≤ (j : Int) + 1 := by omega
      have i4 : ((j : Int) + 1).toNat = j + 1 := by omega
      have hj : j + 1 < xs.length := by omega
      have i5 : IntKind.i64.wrap (j : Int) = (j : Int) := IntWalk.i64_in _ (by omega)
      clear hlt hk hk1
      by_cases h : nth xs (j + 1) < nth xs j
      · have hd := Lib.hid (show ltB (nth xs (j + 1)) (nth xs j) = true from decide_eq_true h)
        have HE := Lib.hid (show risB xs = false from decide_eq_false (fun q => by have := q j (by omega) (by omega); omega))
        clear h
        go_wp2
        go_quiet ((go_at_call 31; exact Calls.quiet_of_same (less_is _ _ _ hd _)))
        go_wp2
        go_returns
        exact ⟨by rw [HE.out]; rfl, _, by rw [hw.out]; exact World.drewN_drewN _ _ _⟩
      · have hd := Lib.hid (show ltB (nth xs (j + 1)) (nth xs j) = false from decide_eq_false h)
        have HN := Lib.hid h
        clear h
        go_wp2
        go_quiet ((go_at_call 31; exact Calls.quiet_of_same (less_is _ _ _ hd _)))
        go_wp2
        go_roundw
        case rel => exact ⟨(j : Int), _, by omega, by omega, by go_num, Lib.hid (by rw [hw.out]; exact World.drewN_drewN _ _ _), Lib.hid (fun i hi h2 => by
          rcases Nat.lt_or_ge j i with q | q
          · exact he.out i (by omega) h2
          · obtain rfl : i = j := by omega
            have := HN.out
            omega)⟩
        case measure => show ((j : Int)).toNat < (((j + 1 : Nat) : Int)).toNat; omega
    · go_wp2
      go_returns
      refine ⟨?_, _, hw.out⟩
      rw [show risB xs = true from decide_eq_true (fun i _ hi => he.out i (by omega) (by omega))]
      rfl

end Go.Proofs.Ytdalbngfhinadaa
