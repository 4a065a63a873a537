/-
  For any number of places and any list of numbers LruUses returns true and leaves its arguments as they were. Conditions: none.
-/
import Derived.Test.YtjhlpkkefdohjaaLrM
import Derived.Test.YtjhlpkkefdohjaaOpen15
namespace Go.Proofs.Ytjhlpkkefdohjaa
open Go.ChangeShapes Go.WideShapes Go.ChangeAt Go.RowKit Go.Joins

set_option maxRecDepth 100000 in
theorem uses15_walk : LawWalk Try.prog 5 Try.f5 := by
  intro H enc W base args ds ps hval hA _ _
  rw [Try.params5] at hA hval
  obtain ⟨v0, vs0, d0, ds0, p0, q0, hargs, rfl, rfl, h0, r0⟩ := trodAll_cons hA
  obtain ⟨v1, vs1, d1, ds1, p1, q1, rfl, rfl, rfl, h1, r1⟩ := trodAll_cons r0
  obtain ⟨rfl, rfl, rfl⟩ := trodAll_nil r1
  obtain rfl : args = #[v0, v1] := by cases args; simp_all
  obtain ⟨n0, rfl, _, _, _⟩ := open_int Try.underlying3 (hval 0 _ v0 rfl rfl) h0
  obtain ⟨l1, hi1⟩ := open_listO (hval 1 _ v1 rfl rfl) h1
  exact uses15_is W hi1

set_option maxRecDepth 100000 in
theorem uses15_lifted (os : Os) (started : os.Started) (H : Type) (enc : TypeId × Value → H) :
    ReturnsInHanded {} Try.checked os 5 .any (Rows.lruUsesSpec.pre6 enc Try.prog Try.f5 Rows.lruUsesRow.domain false) (Rows.lruUsesSpec.post enc Try.prog Try.f5 false true false false) :=
  law_lifted (C := Try.checked) (s := Rows.lruUsesSpec) (conds := Rows.lruUsesRow.domain) (tb := 4) own laidOut started (by kernel_rfl) Try.func5
    (ChangeSpec.witness6 (enc := enc) (C := Try.checked) false ⟨#[], #[(.int .i64 0), (.slice none 0 0)], []⟩ 8 (by kernel_rfl) (by kernel_rfl) (by kernel_rfl) (by kernel_rfl))
    (by rw [show Try.f5.params = _ from Try.params5]; decide +kernel) (by kernel_rfl) Try.underlying4 rfl
    (fun ds hl => by
      rw [show Try.f5.params = _ from Try.params5] at hl
      match ds, hl with
      | [_, _], _ => rfl) uses15_walk

set_option maxRecDepth 100000 in
theorem uses15_over : Rows.lruUsesRow.holds Try.pinned (OpenSpec.ofChange Rows.lruUsesSpec) :=
  OpenClaim.holds_of_wide 5 Try.f5 rfl rfl rfl rfl rfl rfl rfl ⟨rfl, rfl, rfl, rfl, rfl⟩ rfl rfl rfl rfl rfl (by kernel_rfl) Try.func5 (by kernel_rfl)
    (of_decide_eq_true (by kernel_rfl)) (by unfold Func.isWrapper; first | (rw [if_pos (by decide +kernel)]; kernel_rfl) | (rw [if_neg (by decide +kernel)]; exact ⟨rfl, rfl⟩))
    (fun os started H enc _ => uses15_lifted os started H enc)

/-- The given statement. -/
theorem uses15_holds : Rows.LruUsesSaid := uses15_over
#print axioms uses15_holds

end Go.Proofs.Ytjhlpkkefdohjaa
