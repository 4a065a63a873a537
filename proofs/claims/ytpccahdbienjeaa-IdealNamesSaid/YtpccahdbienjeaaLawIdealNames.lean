/-
  IdealNames returns true. Conditions: none.
-/
import Derived.Test.YtpccahdbienjeaaNames12
import Derived.Test.YtpccahdbienjeaaOpen12
namespace Go.Proofs.Ytpccahdbienjeaa
open Go.ChangeShapes Go.WideShapes Go.ChangeAt Go.RowKit Go.Joins

set_option maxRecDepth 100000 in
theorem names12_walk : LawWalkS Try.prog 3 Try.f3 := by
  intro H enc W base args ds ps hval hA _
  rw [Try.params3] at hA hval
  obtain ⟨hargs, rfl, rfl⟩ := trodAll_nil hA
  obtain rfl : args = #[] := by cases args; simp_all
  exact names12_is W

set_option maxRecDepth 100000 in
theorem names12_lifted (os : Os) (started : os.Started) (H : Type) (enc : TypeId × Value → H) :
    ReturnsInHanded {} Try.checked os 3 .any (Rows.idealNamesSpec.pre6 enc Try.prog Try.f3 Rows.idealNamesRow.domain false) (Rows.idealNamesSpec.post enc Try.prog Try.f3 false true false false) :=
  law_liftedS (C := Try.checked) (s := Rows.idealNamesSpec) (conds := Rows.idealNamesRow.domain) (tb := 4) own laidOut started (by kernel_rfl) Try.func3
    (ChangeSpec.witness6 (enc := enc) (C := Try.checked) false ⟨#[], #[], []⟩ 8 (by kernel_rfl) (by kernel_rfl) (by kernel_rfl) (by kernel_rfl))
    (by rw [show Try.f3.params = _ from Try.params3]; decide +kernel) (by kernel_rfl) Try.underlying4 rfl
    (fun ds hl => by
      rw [show Try.f3.params = _ from Try.params3] at hl
      match ds, hl with
      | [], _ => rfl) names12_walk

set_option maxRecDepth 100000 in
theorem names12_over : Rows.idealNamesRow.holds Try.pinned (OpenSpec.ofChange Rows.idealNamesSpec) :=
  OpenClaim.holds_of_wide 3 Try.f3 rfl rfl rfl rfl rfl rfl rfl ⟨rfl, rfl, rfl, rfl, rfl⟩ rfl rfl rfl rfl rfl (by kernel_rfl) Try.func3 (by kernel_rfl)
    (of_decide_eq_true (by kernel_rfl)) (by unfold Func.isWrapper; first | (rw [if_pos (by decide +kernel)]; kernel_rfl) | (rw [if_neg (by decide +kernel)]; exact ⟨rfl, rfl⟩))
    (fun os started H enc _ => names12_lifted os started H enc)

/-- The given statement. -/
theorem names12_holds : Rows.IdealNamesSaid := names12_over
#print axioms names12_holds

end Go.Proofs.Ytpccahdbienjeaa
