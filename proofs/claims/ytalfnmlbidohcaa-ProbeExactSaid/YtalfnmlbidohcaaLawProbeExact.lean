/-
  For any list of keys and any key ProbeExact returns true and leaves its arguments as they were. Conditions: none.
-/
import Derived.Test.YtalfnmlbidohcaaPbK
import Derived.Test.YtalfnmlbidohcaaOpen14
namespace Go.Proofs.Ytalfnmlbidohcaa
open Go.ChangeShapes Go.WideShapes Go.ChangeAt Go.RowKit Go.Joins

set_option maxRecDepth 100000 in
theorem exact14_walk : LawWalk Try.prog 6 Try.f6 := by
  intro H enc W base args ds ps hval hA _ _
  rw [Try.params6] at hA hval
  obtain ⟨v0, vs0, d0, ds0, p0, q0, hargs, rfl, rfl, h0, r0⟩ := trodAll_cons hA
  obtain ⟨v1, vs1, d1, ds1, p1, q1, rfl, rfl, rfl, h1, r1⟩ := trodAll_cons r0
  obtain ⟨rfl, rfl, rfl⟩ := trodAll_nil r1
  obtain rfl : args = #[v0, v1] := by cases args; simp_all
  obtain ⟨l0, hi0, hk0⟩ := open_keys (hval 0 _ v0 rfl rfl) h0
  obtain ⟨n1, rfl, hk1⟩ := open_key (hval 1 _ v1 rfl rfl) h1
  exact exact14_is hk0 W hi0

set_option maxRecDepth 100000 in
theorem exact14_lifted (os : Os) (started : os.Started) (H : Type) (enc : TypeId × Value → H) :
    ReturnsInHanded {} Try.checked os 6 .any (Rows.probeExactSpec.pre6 enc Try.prog Try.f6 Rows.probeExactRow.domain false) (Rows.probeExactSpec.post enc Try.prog Try.f6 false true false false) :=
  law_lifted (C := Try.checked) (s := Rows.probeExactSpec) (conds := Rows.probeExactRow.domain) (tb := 4) own laidOut started (by kernel_rfl) Try.func6
    (ChangeSpec.witness6 (enc := enc) (C := Try.checked) false ⟨#[], #[(.slice none 0 0), (.int .u32 0)], []⟩ 8 (by kernel_rfl) (by kernel_rfl) (by kernel_rfl) (by kernel_rfl))
    (by rw [show Try.f6.params = _ from Try.params6]; decide +kernel) (by kernel_rfl) Try.underlying4 rfl
    (fun ds hl => by
      rw [show Try.f6.params = _ from Try.params6] at hl
      match ds, hl with
      | [_, _], _ => rfl) exact14_walk

set_option maxRecDepth 100000 in
theorem exact14_over : Rows.probeExactRow.holds Try.pinned (OpenSpec.ofChange Rows.probeExactSpec) :=
  OpenClaim.holds_of_wide 6 Try.f6 rfl rfl rfl rfl rfl rfl rfl ⟨rfl, rfl, rfl, rfl, rfl⟩ rfl rfl rfl rfl rfl (by kernel_rfl) Try.func6 (by kernel_rfl)
    (of_decide_eq_true (by kernel_rfl)) (by unfold Func.isWrapper; first | (rw [if_pos (by decide +kernel)]; kernel_rfl) | (rw [if_neg (by decide +kernel)]; exact ⟨rfl, rfl⟩))
    (fun os started H enc _ => exact14_lifted os started H enc)

/-- The given statement. -/
theorem exact14_holds : Rows.ProbeExactSaid := exact14_over
#print axioms exact14_holds

end Go.Proofs.Ytalfnmlbidohcaa
