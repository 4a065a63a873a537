/-
  For any two replies and bytes ReplyOne returns true and leaves its arguments as they were. Conditions: none.
-/
import Derived.Test.YtipkgflonioacaaOne10
import Derived.Test.YtipkgflonioacaaGP3
namespace Go.Proofs.Ytipkgflonioacaa
open Go.ChangeShapes Go.WideShapes Go.ChangeAt Go.RowKit Go.Joins

set_option maxRecDepth 100000 in
theorem one10_walk : LawWalk Try.prog 6 Try.f6 := by
  intro H enc W base args ds ps hval hA _ _
  rw [Try.params6] at hA hval
  obtain ⟨v0, vs0, d0, ds0, p0, q0, hargs, rfl, rfl, h0, r0⟩ := trodAll_cons hA
  obtain ⟨v1, vs1, d1, ds1, p1, q1, rfl, rfl, rfl, h1, r1⟩ := trodAll_cons r0
  obtain ⟨v2, vs2, d2, ds2, p2, q2, rfl, rfl, rfl, h2, r2⟩ := trodAll_cons r1
  obtain ⟨rfl, rfl, rfl⟩ := trodAll_nil r2
  obtain rfl : args = #[v0, v1, v2] := by cases args; simp_all
  obtain ⟨f0, rfl⟩ := open_rep (hval 0 _ v0 rfl rfl) h0
  obtain ⟨f1, rfl⟩ := open_rep (hval 1 _ v1 rfl rfl) h1
  obtain ⟨bs2, hi2, hb2⟩ := open_byts (hval 2 _ v2 rfl rfl) h2
  exact one10_is f0 f1 W hi2 hb2

set_option maxRecDepth 100000 in
theorem one10_lifted (os : Os) (started : os.Started) (H : Type) (enc : TypeId × Value → H) :
    ReturnsInHanded {} Try.checked os 6 .any (Rows.replyOneSpec.pre6 enc Try.prog Try.f6 Rows.replyOneRow.domain false) (Rows.replyOneSpec.post enc Try.prog Try.f6 false true false false) :=
  law_lifted (C := Try.checked) (s := Rows.replyOneSpec) (conds := Rows.replyOneRow.domain) (tb := 4) own laidOut started (by kernel_rfl) Try.func6
    (ChangeSpec.witness6 (enc := enc) (C := Try.checked) false ⟨#[], #[(.agg Rep.zero.v.toArray), (.agg Rep.zero.v.toArray), (.slice none 0 0)], []⟩ 8 (by kernel_rfl) (by kernel_rfl) (by kernel_rfl) (by kernel_rfl))
    (by rw [show Try.f6.params = _ from Try.params6]; decide +kernel) (by kernel_rfl) Try.underlying4 rfl
    (fun ds hl => by
      rw [show Try.f6.params = _ from Try.params6] at hl
      match ds, hl with
      | [_, _, _], _ => rfl) one10_walk

set_option maxRecDepth 100000 in
theorem one10_over : Rows.replyOneRow.holds Try.pinned (OpenSpec.ofChange Rows.replyOneSpec) :=
  OpenClaim.holds_of_wide 6 Try.f6 rfl rfl rfl rfl rfl rfl rfl ⟨rfl, rfl, rfl, rfl, rfl⟩ rfl rfl rfl rfl rfl (by kernel_rfl) Try.func6 (by kernel_rfl)
    (of_decide_eq_true (by kernel_rfl)) (by unfold Func.isWrapper; first | (rw [if_pos (by decide +kernel)]; kernel_rfl) | (rw [if_neg (by decide +kernel)]; exact ⟨rfl, rfl⟩))
    (fun os started H enc _ => one10_lifted os started H enc)

/-- The given statement. -/
theorem one10_holds : Rows.ReplyOneSaid := one10_over
#print axioms one10_holds

end Go.Proofs.Ytipkgflonioacaa
