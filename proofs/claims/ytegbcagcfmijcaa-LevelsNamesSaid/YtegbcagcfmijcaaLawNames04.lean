/-
  LevelsNames returns true. Conditions: none.
-/
import Derived.Test.YtegbcagcfmijcaaNames04E
import Derived.Test.YtegbcagcfmijcaaLaw03
namespace Go.Proofs.Ytegbcagcfmijcaa
open Go.ChangeShapes Go.WideShapes Go.ChangeAt Go.RowKit Go.Joins

set_option maxRecDepth 100000 in
theorem names4_walk : LawWalk Try.prog 3 Try.f3 := by
  intro H enc W base args ds ps hval hA _ _
  rw [Try.params3] at hA hval
  obtain ⟨_hargs, rfl, rfl⟩ := trodAll_nil hA
  obtain rfl : args = #[] := by cases args; simp_all
  exact names04_any W

set_option maxRecDepth 100000 in
theorem names4_lifted (os : Os) (started : os.Started) (H : Type) (enc : TypeId × Value → H) :
    ReturnsInHanded {} Try.checked os 3 .any (Rows.levelsNamesSpec.pre6 enc Try.prog Try.f3 Rows.levelsNamesRow.domain false) (Rows.levelsNamesSpec.post enc Try.prog Try.f3 false true false false) :=
  law_lifted (C := Try.checked) (s := Rows.levelsNamesSpec) (conds := Rows.levelsNamesRow.domain) (tb := 4) own laidOut started (by kernel_rfl) Try.func3
    (ChangeSpec.witness6 (enc := enc) (C := Try.checked) false ⟨#[], #[], []⟩ 8 (by kernel_rfl) (by kernel_rfl) (by kernel_rfl) (by kernel_rfl))
    (by rw [show Try.f3.params = _ from Try.params3]; decide +kernel) (by kernel_rfl) Try.underlying4 rfl
    (fun ds hl => by
      rw [show Try.f3.params = _ from Try.params3] at hl
      match ds, hl with
      | [], _ => rfl) names4_walk

set_option maxRecDepth 100000 in
theorem names4_over : Rows.levelsNamesRow.holds Try.pinned (OpenSpec.ofChange Rows.levelsNamesSpec) :=
  OpenClaim.holds_of_wide 3 Try.f3 rfl rfl rfl rfl rfl rfl rfl ⟨rfl, rfl, rfl, rfl, rfl⟩ rfl rfl rfl rfl rfl (by kernel_rfl) Try.func3 (by kernel_rfl)
    (of_decide_eq_true (by kernel_rfl)) (by unfold Func.isWrapper; first | (rw [if_pos (by decide +kernel)]; kernel_rfl) | (rw [if_neg (by decide +kernel)]; exact ⟨rfl, rfl⟩))
    (fun os started H enc _ => names4_lifted os started H enc)

/-- The given statement. -/
theorem names4_holds : Rows.LevelsNamesSaid := names4_over
#print axioms names4_holds

end Go.Proofs.Ytegbcagcfmijcaa
