/-
  ProbeNames returns true. Conditions: none.
-/
import Derived.Test.YtalfnmlbidohcaaPbL
import Derived.Test.YtalfnmlbidohcaaOpen14
namespace Go.Proofs.Ytalfnmlbidohcaa
open Go.ChangeShapes Go.WideShapes Go.ChangeAt Go.RowKit Go.Joins

set_option maxRecDepth 100000 in
theorem names14_walk : LawWalk Try.prog 5 Try.f5 := by
  intro H enc W base args ds ps hval hA _ _
  rw [Try.params5] at hA hval
  obtain ⟨hargs, rfl, rfl⟩ := trodAll_nil hA
  obtain rfl : args = #[] := by cases args; simp_all
  exact names14_is W

set_option maxRecDepth 100000 in
theorem names14_lifted (os : Os) (started : os.Started) (H : Type) (enc : TypeId × Value → H) :
    ReturnsInHanded {} Try.checked os 5 .any (Rows.probeNamesSpec.pre6 enc Try.prog Try.f5 Rows.probeNamesRow.domain false) (Rows.probeNamesSpec.post enc Try.prog Try.f5 false true false false) :=
  law_lifted (C := Try.checked) (s := Rows.probeNamesSpec) (conds := Rows.probeNamesRow.domain) (tb := 4) own laidOut started (by kernel_rfl) Try.func5
    (ChangeSpec.witness6 (enc := enc) (C := Try.checked) false ⟨#[], #[], []⟩ 8 (by kernel_rfl) (by kernel_rfl) (by kernel_rfl) (by kernel_rfl))
    (by rw [show Try.f5.params = _ from Try.params5]; decide +kernel) (by kernel_rfl) Try.underlying4 rfl
    (fun ds hl => by
      rw [show Try.f5.params = _ from Try.params5] at hl
      match ds, hl with
      | [], _ => rfl) names14_walk

set_option maxRecDepth 100000 in
theorem names14_over : Rows.probeNamesRow.holds Try.pinned (OpenSpec.ofChange Rows.probeNamesSpec) :=
  OpenClaim.holds_of_wide 5 Try.f5 rfl rfl rfl rfl rfl rfl rfl ⟨rfl, rfl, rfl, rfl, rfl⟩ rfl rfl rfl rfl rfl (by kernel_rfl) Try.func5 (by kernel_rfl)
    (of_decide_eq_true (by kernel_rfl)) (by unfold Func.isWrapper; first | (rw [if_pos (by decide +kernel)]; kernel_rfl) | (rw [if_neg (by decide +kernel)]; exact ⟨rfl, rfl⟩))
    (fun os started H enc _ => names14_lifted os started H enc)

/-- The given statement. -/
theorem names14_holds : Rows.ProbeNamesSaid := names14_over
#print axioms names14_holds

end Go.Proofs.Ytalfnmlbidohcaa
