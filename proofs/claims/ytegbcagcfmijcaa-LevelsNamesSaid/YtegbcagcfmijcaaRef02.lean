/-
  The reference of layer 2, walked: comparing lists, the greatest one, whether a list rises, differences and sums.
-/
import Derived.Test.YtegbcagcfmijcaaProg
import Derived.Test.YtegbcagcfmijcaaSlices
import Derived.Deep.QuietTactic
import Derived.BigQuiet
namespace Go.Proofs.Ytegbcagcfmijcaa
open Go.RowKit

theorem u64_lt_len {n : Nat} (h : n ≤ 9223372036854775807) : (n : Int) ≤ 9223372036854775807 := by omega

/-- The greatest one of a tick and a list. -/
def gr (now : Int) (xs : List Int) : Int := xs.foldl (fun a x => if a < x then x else a) now
theorem gr_snoc (now : Int) (xs : List Int) (x : Int) : gr now (xs ++ [x]) = if gr now xs < x then x else gr now xs := by
  unfold gr
  rw [List.foldl_append]
  rfl

/-- Two lists compared. -/
def sameB (xs ys : List Int) : Bool := decide (xs = ys)

/-- No element is less than the one before it. -/
def risB (xs : List Int) : Bool := decide (∀ i, i < xs.length → i + 1 < xs.length → nth xs i ≤ nth xs (i + 1))
def sinceV (x y : Int) : Int := if y < x then 0 else y - x
def sinceE (x y : Int) : Int := if y < x then 32 else 0
def afterV (t n : Int) : Int := if 18446744073709551615 - t < n then 0 else t + n
def afterE (t n : Int) : Int := if 18446744073709551615 - t < n then 16 else 0
def longB (n : Nat) : Bool := decide (40 < n ∧ n ≤ 200 ∨ 300 < n)
end Go.Proofs.Ytegbcagcfmijcaa
