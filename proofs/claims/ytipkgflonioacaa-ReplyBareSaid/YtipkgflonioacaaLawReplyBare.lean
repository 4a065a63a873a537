/-
  For any code and reply ReplyBare returns true and leaves its arguments as they were. Conditions: none.
-/
import Derived.Test.YtipkgflonioacaaBare10
import Derived.Test.YtipkgflonioacaaGP3
namespace Go.Proofs.Ytipkgflonioacaa
open Go.ChangeShapes Go.WideShapes Go.ChangeAt Go.RowKit Go.Joins

set_option maxRecDepth 100000 in
theorem bare10_walk : LawWalk Try.prog 7 Try.f7 := by
  intro H enc W base args ds ps hval hA _ _
  rw [Try.params7] at hA hval
  obtain ⟨v0, vs0, d0, ds0, p0, q0, hargs, rfl, rfl, h0, r0⟩ := trodAll_cons hA
  obtain ⟨v1, vs1, d1, ds1, p1, q1, rfl, rfl, rfl, h1, r1⟩ := trodAll_cons r0
  obtain ⟨rfl, rfl, rfl⟩ := trodAll_nil r1
  obtain rfl : args = #[v0, v1] := by cases args; simp_all
  obtain ⟨n0, rfl, hn0, hm0⟩ := open_y8 (hval 0 _ v0 rfl rfl) h0
  obtain ⟨f1, rfl⟩ := open_rep (hval 1 _ v1 rfl rfl) h1
  exact bare10_is n0 ⟨hn0, hm0⟩ f1 W

set_option maxRecDepth 100000 in
theorem bare10_lifted (os : Os) (started : os.Started) (H : Type) (enc : TypeId × Value → H) :
    ReturnsInHanded {} Try.checked os 7 .any (Rows.replyBareSpec.pre6 enc Try.prog Try.f7 Rows.replyBareRow.domain false) (Rows.replyBareSpec.post enc Try.prog Try.f7 false true false false) :=
  law_lifted (C := Try.checked) (s := Rows.replyBareSpec) (conds := Rows.replyBareRow.domain) (tb := 4) own laidOut started (by kernel_rfl) Try.func7
    (ChangeSpec.witness6 (enc := enc) (C := Try.checked) false ⟨#[], #[(.int .u8 0), (.agg Rep.zero.v.toArray)], []⟩ 8 (by kernel_rfl) (by kernel_rfl) (by kernel_rfl) (by kernel_rfl))
    (by rw [show Try.f7.params = _ from Try.params7]; decide +kernel) (by kernel_rfl) Try.underlying4 rfl
    (fun ds hl => by
      rw [show Try.f7.params = _ from Try.params7] at hl
      match ds, hl with
      | [_, _], _ => rfl) bare10_walk

set_option maxRecDepth 100000 in
theorem bare10_over : Rows.replyBareRow.holds Try.pinned (OpenSpec.ofChange Rows.replyBareSpec) :=
  OpenClaim.holds_of_wide 7 Try.f7 rfl rfl rfl rfl rfl rfl rfl ⟨rfl, rfl, rfl, rfl, rfl⟩ rfl rfl rfl rfl rfl (by kernel_rfl) Try.func7 (by kernel_rfl)
    (of_decide_eq_true (by kernel_rfl)) (by unfold Func.isWrapper; first | (rw [if_pos (by decide +kernel)]; kernel_rfl) | (rw [if_neg (by decide +kernel)]; exact ⟨rfl, rfl⟩))
    (fun os started H enc _ => bare10_lifted os started H enc)

/-- The given statement. -/
theorem bare10_holds : Rows.ReplyBareSaid := bare10_over
#print axioms bare10_holds

end Go.Proofs.Ytipkgflonioacaa
