/-
  For any number and any list of numbers ArenaWhole returns true and leaves its arguments as they were. Conditions: none.
-/
import Derived.Test.YtepimljjbmoojaaArM
import Derived.Test.YtepimljjbmoojaaOpen13
namespace Go.Proofs.Ytepimljjbmoojaa
open Go.ChangeShapes Go.WideShapes Go.ChangeAt Go.RowKit Go.Joins

set_option maxRecDepth 100000 in
theorem whole13_walk : LawWalk Try.prog 5 Try.f5 := by
  intro H enc W base args ds ps hval hA _ _
  rw [Try.params5] at hA hval
  obtain ⟨v0, vs0, d0, ds0, p0, q0, hargs, rfl, rfl, h0, r0⟩ := trodAll_cons hA
  obtain ⟨v1, vs1, d1, ds1, p1, q1, rfl, rfl, rfl, h1, r1⟩ := trodAll_cons r0
  obtain ⟨rfl, rfl, rfl⟩ := trodAll_nil r1
  obtain rfl : args = #[v0, v1] := by cases args; simp_all
  obtain ⟨n0, rfl, _, _, _⟩ := open_int Try.underlying3 (hval 0 _ v0 rfl rfl) h0
  obtain ⟨xs1, hi1⟩ := open_list (hval 1 _ v1 rfl rfl) h1
  exact whole13_is W hi1

set_option maxRecDepth 100000 in
theorem whole13_lifted (os : Os) (started : os.Started) (H : Type) (enc : TypeId × Value → H) :
    ReturnsInHanded {} Try.checked os 5 .any (Rows.arenaWholeSpec.pre6 enc Try.prog Try.f5 Rows.arenaWholeRow.domain false) (Rows.arenaWholeSpec.post enc Try.prog Try.f5 false true false false) :=
  law_lifted (C := Try.checked) (s := Rows.arenaWholeSpec) (conds := Rows.arenaWholeRow.domain) (tb := 4) own laidOut started (by kernel_rfl) Try.func5
    (ChangeSpec.witness6 (enc := enc) (C := Try.checked) false ⟨#[], #[(.int .i64 0), (.slice none 0 0)], []⟩ 8 (by kernel_rfl) (by kernel_rfl) (by kernel_rfl) (by kernel_rfl))
    (by rw [show Try.f5.params = _ from Try.params5]; decide +kernel) (by kernel_rfl) Try.underlying4 rfl
    (fun ds hl => by
      rw [show Try.f5.params = _ from Try.params5] at hl
      match ds, hl with
      | [_, _], _ => rfl) whole13_walk

set_option maxRecDepth 100000 in
theorem whole13_over : Rows.arenaWholeRow.holds Try.pinned (OpenSpec.ofChange Rows.arenaWholeSpec) :=
  OpenClaim.holds_of_wide 5 Try.f5 rfl rfl rfl rfl rfl rfl rfl ⟨rfl, rfl, rfl, rfl, rfl⟩ rfl rfl rfl rfl rfl (by kernel_rfl) Try.func5 (by kernel_rfl)
    (of_decide_eq_true (by kernel_rfl)) (by unfold Func.isWrapper; first | (rw [if_pos (by decide +kernel)]; kernel_rfl) | (rw [if_neg (by decide +kernel)]; exact ⟨rfl, rfl⟩))
    (fun os started H enc _ => whole13_lifted os started H enc)

/-- The given statement. -/
theorem whole13_holds : Rows.ArenaWholeSaid := whole13_over
#print axioms whole13_holds

end Go.Proofs.Ytepimljjbmoojaa
