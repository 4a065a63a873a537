/-
  The helpers of the statements of layer 3, walked over the contracts of package bucket.
-/
import Derived.Test.YtegbcagcfmijcaaBucketW
namespace Go.Proofs.Ytegbcagcfmijcaa
open Go.RowKit

theorem charge_is {b r p l q a c m : Int} (h : Hid (bucE b r p l q = 0)) (hc : 0 ≤ c) (hl : c ≤ l) (hm : l ≤ 1000000000) (e : Hid (l - c = m)) (w : World) :
    Calls Try.prog 37 #[.agg #[.int .i64 b, .int .i64 r, .int .i64 p, .int .i64 l, .int .i64 q, .int .u64 a], .int .i64 c] w fun e w' =>
      e = .returned (.tuple #[.agg #[.int .i64 b, .int .i64 r, .int .i64 p, .int .i64 m, .int .i64 q, .int .u64 a], .int .i64 0]) ∧ Below w.heap.size w w' := by
  rw [← e.out]
  exact charge_ok h hc hl hm w
def bEq (a b c d e f a2 b2 c2 d2 e2 f2 : Int) : Bool := a == a2 && b == b2 && c == c2 && d == d2 && e == e2 && f == f2
def moreB (l p l2 p2 : Int) : Bool := decide (l > l2 ∨ (l = l2 ∧ p ≥ p2))

end Go.Proofs.Ytegbcagcfmijcaa
