/-
  Package clock, walked: too many readings; differences and sums; whether a list is sorted; merged ticks.
-/
import Derived.Test.YtmpcpflpcfanjaaRef02B
import Derived.WalkLawsBesides
import Derived.IntWalk
import Derived.Deep.RegionHeld3
import Derived.Deep.AppendLies
import Derived.Deep.RegionLaw
import Derived.BigQuiet
import Derived.Deep.QuietTactic
import Derived.Maps.AppendAt
namespace Go.Proofs.Ytmpcpflpcfanjaa
open Go.RowKit

theorem clamps_no (now : Int) (at0 : Option Addr) (len cap : Nat) (w : World) (hl : 200 < len) (hm : len ≤ 9223372036854775807) :
    Calls Try.prog 40 #[.int .u64 now, .slice at0 len cap] w fun e w' => e = .returned (.tuple #[.slice none 0 0, .int .i64 4]) ∧ Below w.heap.size w w' := by
  have hd : decide ((200 : Int) < (len : Int)) = true := decide_eq_true (by omega)
  go_enter Try.func40, Try.ntmps40
  go_wp2
  go_returns
  exact ⟨rfl, Below.refl _ _⟩
theorem since_any (x y : Int) (w : World) (h1 : 0 ≤ x) (h1' : x ≤ 18446744073709551615) (h2 : 0 ≤ y) (h2' : y ≤ 18446744073709551615) :
    Calls Try.prog 69 #[.int .u64 x, .int .u64 y] w fun e w' => e = .returned (.tuple #[.int .u64 (sinceV x y), .int .i64 (sinceE x y)]) ∧ w' = w := by
  by_cases h : y < x
  · have e1 := Lib.hid (show sinceV x y = 0 from if_pos h)
    have e2 := Lib.hid (show sinceE x y = 32 from if_pos h)
    go_enter Try.func69, Try.ntmps69
    go_wp2
    go_returns
    exact ⟨by rw [e1.out, e2.out]; rfl, rfl⟩
  · have e1 := Lib.hid (show sinceV x y = y - x from if_neg h)
    have e2 := Lib.hid (show sinceE x y = 0 from if_neg h)
    have h' : x ≤ y := by omega
    clear h
    go_enter Try.func69, Try.ntmps69
    go_wp2
    go_returns
    exact ⟨by rw [e1.out, e2.out]; rfl, rfl⟩
theorem after_any (t n : Int) (w : World) (h1 : 0 ≤ t) (h1' : t ≤ 18446744073709551615) (h2 : 0 ≤ n) (h2' : n ≤ 18446744073709551615) :
    Calls Try.prog 72 #[.int .u64 t, .int .u64 n] w fun e w' => e = .returned (.tuple #[.int .u64 (afterV t n), .int .i64 (afterE t n)]) ∧ w' = w := by
  by_cases h : 18446744073709551615 - t < n
  · have e1 := Lib.hid (show afterV t n = 0 from if_pos h)
    have e2 := Lib.hid (show afterE t n = 16 from if_pos h)
    go_enter Try.func72, Try.ntmps72
    go_wp2
    go_returns
    exact ⟨by rw [e1.out, e2.out]; rfl, rfl⟩
  · have e1 := Lib.hid (show afterV t n = t + n from if_neg h)
    have e2 := Lib.hid (show afterE t n = 0 from if_neg h)
    have h' : n ≤ 18446744073709551615 - t := by omega
    clear h
    go_enter Try.func72, Try.ntmps72
    go_wp2
    go_returns
    exact ⟨by rw [e1.out, e2.out]; rfl, rfl⟩

theorem isnan_any (x : Int) (w : World) : Calls Try.prog 89 #[.int .u64 x] w fun e w' => e = .returned (.bool false) ∧ w' = w := by
  go_enter Try.func89, Try.ntmps89
  go_wp2
  go_returns
  exact ⟨by simp, rfl⟩
def ltB (x y : Int) : Bool := decide (x < y)
end Go.Proofs.Ytmpcpflpcfanjaa
