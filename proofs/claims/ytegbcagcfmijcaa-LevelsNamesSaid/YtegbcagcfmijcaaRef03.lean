/-
  The reference of layer 3, walked: what is valid; full buckets; charging.
-/
import Derived.Test.YtegbcagcfmijcaaRefDiv
namespace Go.Proofs.Ytegbcagcfmijcaa
open Go.RowKit

/-- The error of a limit; of a bucket. -/
def limE (b r p : Int) : Int := if 1 ≤ b ∧ b ≤ 1000000000 ∧ 0 ≤ r ∧ r ≤ 1000000000 ∧ 1 ≤ p ∧ p ≤ 1000000000 then 0 else 8
def limV (b r p : Int) : Value := .agg #[.int .i64 b, .int .i64 r, .int .i64 p]
def bucV (b r p l q t : Int) : Value := .agg #[.int .i64 b, .int .i64 r, .int .i64 p, .int .i64 l, .int .i64 q, .int .u64 t]

theorem box6 {w : World} {t : TypeId} (a b c d e f : Value) : Box (w.alloc (.cells #[a, b, c, d, e, f] t)) w.heap.size [a, b, c, d, e, f] := Box.new rfl
theorem limE_two (b r p : Int) : limE b r p = 0 ∨ limE b r p = 8 := by unfold limE; split <;> simp
/-- The error of a bucket. -/
def bucE (b r p l q : Int) : Int := if limE b r p = 0 ∧ 0 ≤ l ∧ l ≤ b ∧ 0 ≤ q ∧ q < p ∧ (l = b → q = 0) then 0 else 8
theorem bucE_yes {b r p l q : Int} (h : limE b r p = 0) (h1 : 0 ≤ l ∧ l ≤ b ∧ 0 ≤ q ∧ q < p ∧ (l = b → q = 0)) : bucE b r p l q = 0 := if_pos ⟨h, h1⟩
theorem bucE_no {b r p l q : Int} (h1 : l < 0 ∨ b < l ∨ q < 0 ∨ p ≤ q ∨ (l = b ∧ q ≠ 0)) : bucE b r p l q = 8 := if_neg (fun h => by omega)
theorem ret_i {k : IntKind} {a b : Int} (h : a = b) : Ending.returned (.int k a) = .returned (.int k b) := by rw [h]

end Go.Proofs.Ytegbcagcfmijcaa
