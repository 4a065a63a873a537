/-
  For any reply, index and byte ReplyChanged returns true and leaves its arguments as they were. Conditions: none.
-/
import Derived.Test.YtipkgflonioacaaChanged10
import Derived.Test.YtipkgflonioacaaGP3
namespace Go.Proofs.Ytipkgflonioacaa
open Go.ChangeShapes Go.WideShapes Go.ChangeAt Go.RowKit Go.Joins

set_option maxRecDepth 100000 in
theorem changed10_walk : LawWalk Try.prog 8 Try.f8 := by
  intro H enc W base args ds ps hval hA _ _
  rw [Try.params8] at hA hval
  obtain ⟨v0, vs0, d0, ds0, p0, q0, hargs, rfl, rfl, h0, r0⟩ := trodAll_cons hA
  obtain ⟨v1, vs1, d1, ds1, p1, q1, rfl, rfl, rfl, h1, r1⟩ := trodAll_cons r0
  obtain ⟨v2, vs2, d2, ds2, p2, q2, rfl, rfl, rfl, h2, r2⟩ := trodAll_cons r1
  obtain ⟨rfl, rfl, rfl⟩ := trodAll_nil r2
  obtain rfl : args = #[v0, v1, v2] := by cases args; simp_all
  obtain ⟨f0, rfl⟩ := open_rep (hval 0 _ v0 rfl rfl) h0
  obtain ⟨n1, rfl, _, _, wf1⟩ := open_int Try.underlying3 (hval 1 _ v1 rfl rfl) h1
  obtain ⟨n2, rfl, hn2, hm2⟩ := open_y8 (hval 2 _ v2 rfl rfl) h2
  exact changed10_is f0 n1 n2 W ⟨hn2, hm2⟩

set_option maxRecDepth 100000 in
theorem changed10_lifted (os : Os) (started : os.Started) (H : Type) (enc : TypeId × Value → H) :
    ReturnsInHanded {} Try.checked os 8 .any (Rows.replyChangedSpec.pre6 enc Try.prog Try.f8 Rows.replyChangedRow.domain false) (Rows.replyChangedSpec.post enc Try.prog Try.f8 false true false false) :=
  law_lifted (C := Try.checked) (s := Rows.replyChangedSpec) (conds := Rows.replyChangedRow.domain) (tb := 4) own laidOut started (by kernel_rfl) Try.func8
    (ChangeSpec.witness6 (enc := enc) (C := Try.checked) false ⟨#[], #[(.agg Rep.zero.v.toArray), (.int .i64 0), (.int .u8 0)], []⟩ 8 (by kernel_rfl) (by kernel_rfl) (by kernel_rfl) (by kernel_rfl))
    (by rw [show Try.f8.params = _ from Try.params8]; decide +kernel) (by kernel_rfl) Try.underlying4 rfl
    (fun ds hl => by
      rw [show Try.f8.params = _ from Try.params8] at hl
      match ds, hl with
      | [_, _, _], _ => rfl) changed10_walk

set_option maxRecDepth 100000 in
theorem changed10_over : Rows.replyChangedRow.holds Try.pinned (OpenSpec.ofChange Rows.replyChangedSpec) :=
  OpenClaim.holds_of_wide 8 Try.f8 rfl rfl rfl rfl rfl rfl rfl ⟨rfl, rfl, rfl, rfl, rfl⟩ rfl rfl rfl rfl rfl (by kernel_rfl) Try.func8 (by kernel_rfl)
    (of_decide_eq_true (by kernel_rfl)) (by unfold Func.isWrapper; first | (rw [if_pos (by decide +kernel)]; kernel_rfl) | (rw [if_neg (by decide +kernel)]; exact ⟨rfl, rfl⟩))
    (fun os started H enc _ => changed10_lifted os started H enc)

/-- The given statement. -/
theorem changed10_holds : Rows.ReplyChangedSaid := changed10_over
#print axioms changed10_holds

end Go.Proofs.Ytipkgflonioacaa
