/-
  For any number ArenaOrder returns true. Conditions: none.
-/
import Derived.Test.YtepimljjbmoojaaArL
import Derived.Test.YtepimljjbmoojaaOpen13
namespace Go.Proofs.Ytepimljjbmoojaa
open Go.ChangeShapes Go.WideShapes Go.ChangeAt Go.RowKit Go.Joins

set_option maxRecDepth 100000 in
theorem order13_walk : LawWalk Try.prog 7 Try.f7 := by
  intro H enc W base args ds ps hval hA _ _
  rw [Try.params7] at hA hval
  obtain ⟨v0, vs0, d0, ds0, p0, q0, hargs, rfl, rfl, h0, r0⟩ := trodAll_cons hA
  obtain ⟨rfl, rfl, rfl⟩ := trodAll_nil r0
  obtain rfl : args = #[v0] := by cases args; simp_all
  obtain ⟨n0, rfl, _, _, _⟩ := open_int Try.underlying3 (hval 0 _ v0 rfl rfl) h0
  exact order13_is W

set_option maxRecDepth 100000 in
theorem order13_lifted (os : Os) (started : os.Started) (H : Type) (enc : TypeId × Value → H) :
    ReturnsInHanded {} Try.checked os 7 .any (Rows.arenaOrderSpec.pre6 enc Try.prog Try.f7 Rows.arenaOrderRow.domain false) (Rows.arenaOrderSpec.post enc Try.prog Try.f7 false true false false) :=
  law_lifted (C := Try.checked) (s := Rows.arenaOrderSpec) (conds := Rows.arenaOrderRow.domain) (tb := 4) own laidOut started (by kernel_rfl) Try.func7
    (ChangeSpec.witness6 (enc := enc) (C := Try.checked) false ⟨#[], #[(.int .i64 0)], []⟩ 8 (by kernel_rfl) (by kernel_rfl) (by kernel_rfl) (by kernel_rfl))
    (by rw [show Try.f7.params = _ from Try.params7]; decide +kernel) (by kernel_rfl) Try.underlying4 rfl
    (fun ds hl => by
      rw [show Try.f7.params = _ from Try.params7] at hl
      match ds, hl with
      | [_], _ => rfl) order13_walk

set_option maxRecDepth 100000 in
theorem order13_over : Rows.arenaOrderRow.holds Try.pinned (OpenSpec.ofChange Rows.arenaOrderSpec) :=
  OpenClaim.holds_of_wide 7 Try.f7 rfl rfl rfl rfl rfl rfl rfl ⟨rfl, rfl, rfl, rfl, rfl⟩ rfl rfl rfl rfl rfl (by kernel_rfl) Try.func7 (by kernel_rfl)
    (of_decide_eq_true (by kernel_rfl)) (by unfold Func.isWrapper; first | (rw [if_pos (by decide +kernel)]; kernel_rfl) | (rw [if_neg (by decide +kernel)]; exact ⟨rfl, rfl⟩))
    (fun os started H enc _ => order13_lifted os started H enc)

/-- The given statement. -/
theorem order13_holds : Rows.ArenaOrderSaid := order13_over
#print axioms order13_holds

end Go.Proofs.Ytepimljjbmoojaa
