/-
  LruNames returns true. Conditions: none.
-/
import Derived.Test.YtjhlpkkefdohjaaLrN
import Derived.Test.YtjhlpkkefdohjaaOpen15
namespace Go.Proofs.Ytjhlpkkefdohjaa
open Go.ChangeShapes Go.WideShapes Go.ChangeAt Go.RowKit Go.Joins

set_option maxRecDepth 100000 in
theorem names15_walk : LawWalk Try.prog 4 Try.f4 := by
  intro H enc W base args ds ps hval hA _ _
  rw [Try.params4] at hA hval
  obtain ⟨hargs, rfl, rfl⟩ := trodAll_nil hA
  obtain rfl : args = #[] := by cases args; simp_all
  exact names15_is W

set_option maxRecDepth 100000 in
theorem names15_lifted (os : Os) (started : os.Started) (H : Type) (enc : TypeId × Value → H) :
    ReturnsInHanded {} Try.checked os 4 .any (Rows.lruNamesSpec.pre6 enc Try.prog Try.f4 Rows.lruNamesRow.domain false) (Rows.lruNamesSpec.post enc Try.prog Try.f4 false true false false) :=
  law_lifted (C := Try.checked) (s := Rows.lruNamesSpec) (conds := Rows.lruNamesRow.domain) (tb := 4) own laidOut started (by kernel_rfl) Try.func4
    (ChangeSpec.witness6 (enc := enc) (C := Try.checked) false ⟨#[], #[], []⟩ 8 (by kernel_rfl) (by kernel_rfl) (by kernel_rfl) (by kernel_rfl))
    (by rw [show Try.f4.params = _ from Try.params4]; decide +kernel) (by kernel_rfl) Try.underlying4 rfl
    (fun ds hl => by
      rw [show Try.f4.params = _ from Try.params4] at hl
      match ds, hl with
      | [], _ => rfl) names15_walk

set_option maxRecDepth 100000 in
theorem names15_over : Rows.lruNamesRow.holds Try.pinned (OpenSpec.ofChange Rows.lruNamesSpec) :=
  OpenClaim.holds_of_wide 4 Try.f4 rfl rfl rfl rfl rfl rfl rfl ⟨rfl, rfl, rfl, rfl, rfl⟩ rfl rfl rfl rfl rfl (by kernel_rfl) Try.func4 (by kernel_rfl)
    (of_decide_eq_true (by kernel_rfl)) (by unfold Func.isWrapper; first | (rw [if_pos (by decide +kernel)]; kernel_rfl) | (rw [if_neg (by decide +kernel)]; exact ⟨rfl, rfl⟩))
    (fun os started H enc _ => names15_lifted os started H enc)

/-- The given statement. -/
theorem names15_holds : Rows.LruNamesSaid := names15_over
#print axioms names15_holds

end Go.Proofs.Ytjhlpkkefdohjaa
