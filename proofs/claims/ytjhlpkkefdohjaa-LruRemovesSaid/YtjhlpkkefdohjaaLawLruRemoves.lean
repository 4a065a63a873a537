/-
  For any order and any place LruRemoves returns true and leaves its arguments as they were. Conditions: none.
-/
import Derived.Test.YtjhlpkkefdohjaaLrL
import Derived.Test.YtjhlpkkefdohjaaOpen15
namespace Go.Proofs.Ytjhlpkkefdohjaa
open Go.ChangeShapes Go.WideShapes Go.ChangeAt Go.RowKit Go.Joins

set_option maxRecDepth 100000 in
theorem removes15_walk : LawWalk Try.prog 7 Try.f7 := by
  intro H enc W base args ds ps hval hA _ _
  rw [Try.params7] at hA hval
  obtain ⟨v0, vs0, d0, ds0, p0, q0, hargs, rfl, rfl, h0, r0⟩ := trodAll_cons hA
  obtain ⟨v1, vs1, d1, ds1, p1, q1, rfl, rfl, rfl, h1, r1⟩ := trodAll_cons r0
  obtain ⟨rfl, rfl, rfl⟩ := trodAll_nil r1
  obtain rfl : args = #[v0, v1] := by cases args; simp_all
  obtain ⟨A0, hi0⟩ := open_od (hval 0 _ v0 rfl rfl) h0
  obtain ⟨n1, rfl, _, _, _⟩ := open_int Try.underlying3 (hval 1 _ v1 rfl rfl) h1
  exact removes15_is W hi0

set_option maxRecDepth 100000 in
theorem removes15_lifted (os : Os) (started : os.Started) (H : Type) (enc : TypeId × Value → H) :
    ReturnsInHanded {} Try.checked os 7 .any (Rows.lruRemovesSpec.pre6 enc Try.prog Try.f7 Rows.lruRemovesRow.domain false) (Rows.lruRemovesSpec.post enc Try.prog Try.f7 false true false false) :=
  law_lifted (C := Try.checked) (s := Rows.lruRemovesSpec) (conds := Rows.lruRemovesRow.domain) (tb := 4) own laidOut started (by kernel_rfl) Try.func7
    (ChangeSpec.witness6 (enc := enc) (C := Try.checked) false ⟨#[], #[(.agg #[.slice none 0 0, .slice none 0 0, .int .i64 0, .int .i64 0]), (.int .i64 0)], []⟩ 8 (by kernel_rfl) (by kernel_rfl) (by kernel_rfl) (by kernel_rfl))
    (by rw [show Try.f7.params = _ from Try.params7]; decide +kernel) (by kernel_rfl) Try.underlying4 rfl
    (fun ds hl => by
      rw [show Try.f7.params = _ from Try.params7] at hl
      match ds, hl with
      | [_, _], _ => rfl) removes15_walk

set_option maxRecDepth 100000 in
theorem removes15_over : Rows.lruRemovesRow.holds Try.pinned (OpenSpec.ofChange Rows.lruRemovesSpec) :=
  OpenClaim.holds_of_wide 7 Try.f7 rfl rfl rfl rfl rfl rfl rfl ⟨rfl, rfl, rfl, rfl, rfl⟩ rfl rfl rfl rfl rfl (by kernel_rfl) Try.func7 (by kernel_rfl)
    (of_decide_eq_true (by kernel_rfl)) (by unfold Func.isWrapper; first | (rw [if_pos (by decide +kernel)]; kernel_rfl) | (rw [if_neg (by decide +kernel)]; exact ⟨rfl, rfl⟩))
    (fun os started H enc _ => removes15_lifted os started H enc)

/-- The given statement. -/
theorem removes15_holds : Rows.LruRemovesSaid := removes15_over
#print axioms removes15_holds

end Go.Proofs.Ytjhlpkkefdohjaa
