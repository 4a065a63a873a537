/-
  For any bytes ReplyReads returns true and leaves its arguments as they were. Conditions: none.
-/
import Derived.Test.YtipkgflonioacaaReads10
import Derived.Test.YtipkgflonioacaaGP3
namespace Go.Proofs.Ytipkgflonioacaa
open Go.ChangeShapes Go.WideShapes Go.ChangeAt Go.RowKit Go.Joins

set_option maxRecDepth 100000 in
theorem reads10_walk : LawWalk Try.prog 5 Try.f5 := by
  intro H enc W base args ds ps hval hA _ _
  rw [Try.params5] at hA hval
  obtain ⟨v0, vs0, d0, ds0, p0, q0, hargs, rfl, rfl, h0, r0⟩ := trodAll_cons hA
  obtain ⟨rfl, rfl, rfl⟩ := trodAll_nil r0
  obtain rfl : args = #[v0] := by cases args; simp_all
  obtain ⟨bs0, hi0, hb0⟩ := open_byts (hval 0 _ v0 rfl rfl) h0
  exact reads10_is W hi0 hb0

set_option maxRecDepth 100000 in
theorem reads10_lifted (os : Os) (started : os.Started) (H : Type) (enc : TypeId × Value → H) :
    ReturnsInHanded {} Try.checked os 5 .any (Rows.replyReadsSpec.pre6 enc Try.prog Try.f5 Rows.replyReadsRow.domain false) (Rows.replyReadsSpec.post enc Try.prog Try.f5 false true false false) :=
  law_lifted (C := Try.checked) (s := Rows.replyReadsSpec) (conds := Rows.replyReadsRow.domain) (tb := 4) own laidOut started (by kernel_rfl) Try.func5
    (ChangeSpec.witness6 (enc := enc) (C := Try.checked) false ⟨#[], #[(.slice none 0 0)], []⟩ 8 (by kernel_rfl) (by kernel_rfl) (by kernel_rfl) (by kernel_rfl))
    (by rw [show Try.f5.params = _ from Try.params5]; decide +kernel) (by kernel_rfl) Try.underlying4 rfl
    (fun ds hl => by
      rw [show Try.f5.params = _ from Try.params5] at hl
      match ds, hl with
      | [_], _ => rfl) reads10_walk

set_option maxRecDepth 100000 in
theorem reads10_over : Rows.replyReadsRow.holds Try.pinned (OpenSpec.ofChange Rows.replyReadsSpec) :=
  OpenClaim.holds_of_wide 5 Try.f5 rfl rfl rfl rfl rfl rfl rfl ⟨rfl, rfl, rfl, rfl, rfl⟩ rfl rfl rfl rfl rfl (by kernel_rfl) Try.func5 (by kernel_rfl)
    (of_decide_eq_true (by kernel_rfl)) (by unfold Func.isWrapper; first | (rw [if_pos (by decide +kernel)]; kernel_rfl) | (rw [if_neg (by decide +kernel)]; exact ⟨rfl, rfl⟩))
    (fun os started H enc _ => reads10_lifted os started H enc)

/-- The given statement. -/
theorem reads10_holds : Rows.ReplyReadsSaid := reads10_over
#print axioms reads10_holds

end Go.Proofs.Ytipkgflonioacaa
