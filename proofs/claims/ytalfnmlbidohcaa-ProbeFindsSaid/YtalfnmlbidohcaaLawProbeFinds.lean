/-
  For any list of cells and any key ProbeFinds returns true and leaves its arguments as they were. Conditions: none.
-/
import Derived.Test.YtalfnmlbidohcaaPbH
import Derived.Test.YtalfnmlbidohcaaOpen14
namespace Go.Proofs.Ytalfnmlbidohcaa
open Go.ChangeShapes Go.WideShapes Go.ChangeAt Go.RowKit Go.Joins

set_option maxRecDepth 100000 in
theorem finds14_walk : LawWalk Try.prog 3 Try.f3 := by
  intro H enc W base args ds ps hval hA _ _
  rw [Try.params3] at hA hval
  obtain ⟨v0, vs0, d0, ds0, p0, q0, hargs, rfl, rfl, h0, r0⟩ := trodAll_cons hA
  obtain ⟨v1, vs1, d1, ds1, p1, q1, rfl, rfl, rfl, h1, r1⟩ := trodAll_cons r0
  obtain ⟨rfl, rfl, rfl⟩ := trodAll_nil r1
  obtain rfl : args = #[v0, v1] := by cases args; simp_all
  obtain ⟨x0, hi0, hk0⟩ := open_cells (hval 0 _ v0 rfl rfl) h0
  obtain ⟨n1, rfl, hk1⟩ := open_key (hval 1 _ v1 rfl rfl) h1
  exact finds14_is hk0 hk1 W hi0

set_option maxRecDepth 100000 in
theorem finds14_lifted (os : Os) (started : os.Started) (H : Type) (enc : TypeId × Value → H) :
    ReturnsInHanded {} Try.checked os 3 .any (Rows.probeFindsSpec.pre6 enc Try.prog Try.f3 Rows.probeFindsRow.domain false) (Rows.probeFindsSpec.post enc Try.prog Try.f3 false true false false) :=
  law_lifted (C := Try.checked) (s := Rows.probeFindsSpec) (conds := Rows.probeFindsRow.domain) (tb := 4) own laidOut started (by kernel_rfl) Try.func3
    (ChangeSpec.witness6 (enc := enc) (C := Try.checked) false ⟨#[], #[(.slice none 0 0), (.int .u32 0)], []⟩ 8 (by kernel_rfl) (by kernel_rfl) (by kernel_rfl) (by kernel_rfl))
    (by rw [show Try.f3.params = _ from Try.params3]; decide +kernel) (by kernel_rfl) Try.underlying4 rfl
    (fun ds hl => by
      rw [show Try.f3.params = _ from Try.params3] at hl
      match ds, hl with
      | [_, _], _ => rfl) finds14_walk

set_option maxRecDepth 100000 in
theorem finds14_over : Rows.probeFindsRow.holds Try.pinned (OpenSpec.ofChange Rows.probeFindsSpec) :=
  OpenClaim.holds_of_wide 3 Try.f3 rfl rfl rfl rfl rfl rfl rfl ⟨rfl, rfl, rfl, rfl, rfl⟩ rfl rfl rfl rfl rfl (by kernel_rfl) Try.func3 (by kernel_rfl)
    (of_decide_eq_true (by kernel_rfl)) (by unfold Func.isWrapper; first | (rw [if_pos (by decide +kernel)]; kernel_rfl) | (rw [if_neg (by decide +kernel)]; exact ⟨rfl, rfl⟩))
    (fun os started H enc _ => finds14_lifted os started H enc)

/-- The given statement. -/
theorem finds14_holds : Rows.ProbeFindsSaid := finds14_over
#print axioms finds14_holds

end Go.Proofs.Ytalfnmlbidohcaa
