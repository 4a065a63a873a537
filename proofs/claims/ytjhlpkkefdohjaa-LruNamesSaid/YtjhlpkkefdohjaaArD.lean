/-
  Package arena, walked: Take, Give, Count.
-/
import Derived.Test.YtjhlpkkefdohjaaArC
namespace Go.Proofs.Ytjhlpkkefdohjaa
open Go.RowKit

/-- What Count answers. -/
def CtA (A : Ar) (m o q : Int) : Prop := (q = 8 ∧ (∀ l, ¬ Valid A l) ∧ m = 0 ∧ o = 0) ∨ (q = 0 ∧ ∃ l, Valid A l ∧ m = (A.us.count true : Nat) ∧ o = (l.length : Nat))
theorem CtA.ex (A : Ar) : ∃ m o q, CtA A m o q := by
  by_cases h : ∃ l, Valid A l
  · obtain ⟨l, hl⟩ := h
    exact ⟨_, _, _, Or.inr ⟨rfl, l, hl, rfl, rfl⟩⟩
  · exact ⟨_, _, _, Or.inl ⟨rfl, fun l hl => h ⟨l, hl⟩, rfl, rfl⟩⟩
end Go.Proofs.Ytjhlpkkefdohjaa
