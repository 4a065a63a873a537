/-
  The helpers of the statements of layer 2, walked: whether a tick is in a list, how often.
-/
import Derived.Test.YtegbcagcfmijcaaRef02
namespace Go.Proofs.Ytegbcagcfmijcaa
open Go.RowKit

def inB (xs : List Int) (t : Int) : Bool := decide (∃ i, i < xs.length ∧ nth xs i = t)
/-- How often a tick is among the first k. -/
def cnt (xs : List Int) (t : Int) : Nat → Nat
  | 0 => 0
  | k + 1 => if nth xs k = t then cnt xs t k + 1 else cnt xs t k
theorem cnt_le (xs : List Int) (t : Int) (k : Nat) : cnt xs t k ≤ k := by
  induction k with
  | zero => exact Nat.le_refl _
  | succ k ih => unfold cnt; split <;> omega
end Go.Proofs.Ytegbcagcfmijcaa
