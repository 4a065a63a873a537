/-
  For any reply and code ReplyWrites returns true and leaves its arguments as they were. Conditions: none.
-/
import Derived.Test.YtipkgflonioacaaWrites10
import Derived.Test.YtipkgflonioacaaGP3
namespace Go.Proofs.Ytipkgflonioacaa
open Go.ChangeShapes Go.WideShapes Go.ChangeAt Go.RowKit Go.Joins

set_option maxRecDepth 100000 in
theorem writes10_walk : LawWalk Try.prog 4 Try.f4 := by
  intro H enc W base args ds ps hval hA _ _
  rw [Try.params4] at hA hval
  obtain ⟨v0, vs0, d0, ds0, p0, q0, hargs, rfl, rfl, h0, r0⟩ := trodAll_cons hA
  obtain ⟨v1, vs1, d1, ds1, p1, q1, rfl, rfl, rfl, h1, r1⟩ := trodAll_cons r0
  obtain ⟨rfl, rfl, rfl⟩ := trodAll_nil r1
  obtain rfl : args = #[v0, v1] := by cases args; simp_all
  obtain ⟨f0, rfl⟩ := open_rep (hval 0 _ v0 rfl rfl) h0
  obtain ⟨n1, rfl, hn1, hm1⟩ := open_y8 (hval 1 _ v1 rfl rfl) h1
  exact writes10_is f0 n1 ⟨hn1, hm1⟩ W

set_option maxRecDepth 100000 in
theorem writes10_lifted (os : Os) (started : os.Started) (H : Type) (enc : TypeId × Value → H) :
    ReturnsInHanded {} Try.checked os 4 .any (Rows.replyWritesSpec.pre6 enc Try.prog Try.f4 Rows.replyWritesRow.domain false) (Rows.replyWritesSpec.post enc Try.prog Try.f4 false true false false) :=
  law_lifted (C := Try.checked) (s := Rows.replyWritesSpec) (conds := Rows.replyWritesRow.domain) (tb := 4) own laidOut started (by kernel_rfl) Try.func4
    (ChangeSpec.witness6 (enc := enc) (C := Try.checked) false ⟨#[], #[(.agg Rep.zero.v.toArray), (.int .u8 0)], []⟩ 8 (by kernel_rfl) (by kernel_rfl) (by kernel_rfl) (by kernel_rfl))
    (by rw [show Try.f4.params = _ from Try.params4]; decide +kernel) (by kernel_rfl) Try.underlying4 rfl
    (fun ds hl => by
      rw [show Try.f4.params = _ from Try.params4] at hl
      match ds, hl with
      | [_, _], _ => rfl) writes10_walk

set_option maxRecDepth 100000 in
theorem writes10_over : Rows.replyWritesRow.holds Try.pinned (OpenSpec.ofChange Rows.replyWritesSpec) :=
  OpenClaim.holds_of_wide 4 Try.f4 rfl rfl rfl rfl rfl rfl rfl ⟨rfl, rfl, rfl, rfl, rfl⟩ rfl rfl rfl rfl rfl (by kernel_rfl) Try.func4 (by kernel_rfl)
    (of_decide_eq_true (by kernel_rfl)) (by unfold Func.isWrapper; first | (rw [if_pos (by decide +kernel)]; kernel_rfl) | (rw [if_neg (by decide +kernel)]; exact ⟨rfl, rfl⟩))
    (fun os started H enc _ => writes10_lifted os started H enc)

/-- The given statement. -/
theorem writes10_holds : Rows.ReplyWritesSaid := writes10_over
#print axioms writes10_holds

end Go.Proofs.Ytipkgflonioacaa
