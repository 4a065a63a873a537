/-
  Package clock, walked: too many readings; differences and sums; whether a list is sorted; merged ticks.
-/
import Derived.Test.YtegbcagcfmijcaaRef02B
import Derived.WalkLawsBesides
import Derived.IntWalk
import Derived.Deep.RegionHeld3
import Derived.Deep.AppendLies
import Derived.Deep.RegionLaw
import Derived.BigQuiet
import Derived.Deep.QuietTactic
import Derived.Maps.AppendAt
namespace Go.Proofs.Ytegbcagcfmijcaa
open Go.RowKit

theorem isnan_any (x : Int) (w : World) : Calls Try.prog 48 #[.int .u64 x] w fun e w' => e = .returned (.bool false) ∧ w' = w := by
  go_enter Try.func48, Try.ntmps48
  go_wp2
  go_returns
  exact ⟨by simp, rfl⟩
def ltB (x y : Int) : Bool := decide (x < y)
end Go.Proofs.Ytegbcagcfmijcaa
