/-
  For any table and frame IdealAccepts returns true and leaves its arguments as they were. Conditions: none.
-/
import Derived.Test.YtpccahdbienjeaaAccepts12
import Derived.Test.YtpccahdbienjeaaOpen12
namespace Go.Proofs.Ytpccahdbienjeaa
open Go.ChangeShapes Go.WideShapes Go.ChangeAt Go.RowKit Go.Joins

set_option maxRecDepth 100000 in
theorem accepts12_walk : LawWalkS Try.prog 5 Try.f5 := by
  intro H enc W base args ds ps hval hA hz
  rw [Try.params5] at hA hval hz
  obtain ⟨v0, vs0, d0, ds0, p0, q0, hargs, rfl, rfl, h0, r0⟩ := trodAll_cons hA
  obtain ⟨v1, vs1, d1, ds1, p1, q1, rfl, rfl, rfl, h1, r1⟩ := trodAll_cons r0
  obtain ⟨rfl, rfl, rfl⟩ := trodAll_nil r1
  obtain rfl : args = #[v0, v1] := by cases args; simp_all
  obtain ⟨ts0, cs0, hi0, hl0⟩ := open_ideal (hval 0 _ v0 rfl rfl) h0 (hz 0 _ d0 rfl rfl)
  obtain ⟨f1, rfl⟩ := open_frm (hval 1 _ v1 rfl rfl) h1
  exact accepts12_is f1 hl0 W hi0

set_option maxRecDepth 100000 in
theorem accepts12_lifted (os : Os) (started : os.Started) (H : Type) (enc : TypeId × Value → H) :
    ReturnsInHanded {} Try.checked os 5 .any (Rows.idealAcceptsSpec.pre6 enc Try.prog Try.f5 Rows.idealAcceptsRow.domain false) (Rows.idealAcceptsSpec.post enc Try.prog Try.f5 false true false false) :=
  law_liftedS (C := Try.checked) (s := Rows.idealAcceptsSpec) (conds := Rows.idealAcceptsRow.domain) (tb := 4) own laidOut started (by kernel_rfl) Try.func5
    (ChangeSpec.witness6 (enc := enc) (C := Try.checked) false ⟨#[], #[(.agg #[.slice none 0 0, .slice none 0 0]), (.agg (mcell Frm.zero).toArray)], []⟩ 8 (by kernel_rfl) (by kernel_rfl) (by kernel_rfl) (by kernel_rfl))
    (by rw [show Try.f5.params = _ from Try.params5]; decide +kernel) (by kernel_rfl) Try.underlying4 rfl
    (fun ds hl => by
      rw [show Try.f5.params = _ from Try.params5] at hl
      match ds, hl with
      | [_, _], _ => rfl) accepts12_walk

set_option maxRecDepth 100000 in
theorem accepts12_over : Rows.idealAcceptsRow.holds Try.pinned (OpenSpec.ofChange Rows.idealAcceptsSpec) :=
  OpenClaim.holds_of_wide 5 Try.f5 rfl rfl rfl rfl rfl rfl rfl ⟨rfl, rfl, rfl, rfl, rfl⟩ rfl rfl rfl rfl rfl (by kernel_rfl) Try.func5 (by kernel_rfl)
    (of_decide_eq_true (by kernel_rfl)) (by unfold Func.isWrapper; first | (rw [if_pos (by decide +kernel)]; kernel_rfl) | (rw [if_neg (by decide +kernel)]; exact ⟨rfl, rfl⟩))
    (fun os started H enc _ => accepts12_lifted os started H enc)

/-- The given statement. -/
theorem accepts12_holds : Rows.IdealAcceptsSaid := accepts12_over
#print axioms accepts12_holds

end Go.Proofs.Ytpccahdbienjeaa
