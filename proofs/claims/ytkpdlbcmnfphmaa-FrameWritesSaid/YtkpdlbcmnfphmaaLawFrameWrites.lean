/-
  For any frame FrameWrites returns true and leaves its arguments as they were. Conditions: none.
-/
import Derived.Test.YtkpdlbcmnfphmaaWrites09
import Derived.Test.YtkpdlbcmnfphmaaGP3
namespace Go.Proofs.Ytkpdlbcmnfphmaa
open Go.ChangeShapes Go.WideShapes Go.ChangeAt Go.RowKit Go.Joins

set_option maxRecDepth 100000 in
theorem writes9_walk : LawWalk Try.prog 4 Try.f4 := by
  intro H enc W base args ds ps hval hA _ _
  rw [Try.params4] at hA hval
  obtain ⟨v0, vs0, d0, ds0, p0, q0, hargs, rfl, rfl, h0, r0⟩ := trodAll_cons hA
  obtain ⟨rfl, rfl, rfl⟩ := trodAll_nil r0
  obtain rfl : args = #[v0] := by cases args; simp_all
  obtain ⟨f0, rfl⟩ := open_frm (hval 0 _ v0 rfl rfl) h0
  exact writes9_is f0 W

set_option maxRecDepth 100000 in
theorem writes9_lifted (os : Os) (started : os.Started) (H : Type) (enc : TypeId × Value → H) :
    ReturnsInHanded {} Try.checked os 4 .any (Rows.frameWritesSpec.pre6 enc Try.prog Try.f4 Rows.frameWritesRow.domain false) (Rows.frameWritesSpec.post enc Try.prog Try.f4 false true false false) :=
  law_lifted (C := Try.checked) (s := Rows.frameWritesSpec) (conds := Rows.frameWritesRow.domain) (tb := 4) own laidOut started (by kernel_rfl) Try.func4
    (ChangeSpec.witness6 (enc := enc) (C := Try.checked) false ⟨#[], #[(.agg (mcell Frm.zero).toArray)], []⟩ 8 (by kernel_rfl) (by kernel_rfl) (by kernel_rfl) (by kernel_rfl))
    (by rw [show Try.f4.params = _ from Try.params4]; decide +kernel) (by kernel_rfl) Try.underlying4 rfl
    (fun ds hl => by
      rw [show Try.f4.params = _ from Try.params4] at hl
      match ds, hl with
      | [_], _ => rfl) writes9_walk

set_option maxRecDepth 100000 in
theorem writes9_over : Rows.frameWritesRow.holds Try.pinned (OpenSpec.ofChange Rows.frameWritesSpec) :=
  OpenClaim.holds_of_wide 4 Try.f4 rfl rfl rfl rfl rfl rfl rfl ⟨rfl, rfl, rfl, rfl, rfl⟩ rfl rfl rfl rfl rfl (by kernel_rfl) Try.func4 (by kernel_rfl)
    (of_decide_eq_true (by kernel_rfl)) (by unfold Func.isWrapper; first | (rw [if_pos (by decide +kernel)]; kernel_rfl) | (rw [if_neg (by decide +kernel)]; exact ⟨rfl, rfl⟩))
    (fun os started H enc _ => writes9_lifted os started H enc)

/-- The given statement. -/
theorem writes9_holds : Rows.FrameWritesSaid := writes9_over
#print axioms writes9_holds

end Go.Proofs.Ytkpdlbcmnfphmaa
