/-
  For any list of cells, any two keys and any number ProbeBack returns true and leaves its arguments as they were. Conditions: none.
-/
import Derived.Test.YtalfnmlbidohcaaPbJ
import Derived.Test.YtalfnmlbidohcaaOpen14
namespace Go.Proofs.Ytalfnmlbidohcaa
open Go.ChangeShapes Go.WideShapes Go.ChangeAt Go.RowKit Go.Joins

set_option maxRecDepth 100000 in
theorem back14_walk : LawWalk Try.prog 8 Try.f8 := by
  intro H enc W base args ds ps hval hA _ _
  rw [Try.params8] at hA hval
  obtain ⟨v0, vs0, d0, ds0, p0, q0, hargs, rfl, rfl, h0, r0⟩ := trodAll_cons hA
  obtain ⟨v1, vs1, d1, ds1, p1, q1, rfl, rfl, rfl, h1, r1⟩ := trodAll_cons r0
  obtain ⟨v2, vs2, d2, ds2, p2, q2, rfl, rfl, rfl, h2, r2⟩ := trodAll_cons r1
  obtain ⟨v3, vs3, d3, ds3, p3, q3, rfl, rfl, rfl, h3, r3⟩ := trodAll_cons r2
  obtain ⟨rfl, rfl, rfl⟩ := trodAll_nil r3
  obtain rfl : args = #[v0, v1, v2, v3] := by cases args; simp_all
  obtain ⟨x0, hi0, hk0⟩ := open_cells (hval 0 _ v0 rfl rfl) h0
  obtain ⟨n1, rfl, hk1⟩ := open_key (hval 1 _ v1 rfl rfl) h1
  obtain ⟨n2, rfl, hk2⟩ := open_key (hval 2 _ v2 rfl rfl) h2
  obtain ⟨n3, rfl, _, _, _⟩ := open_int Try.underlying3 (hval 3 _ v3 rfl rfl) h3
  exact back14_is hk0 hk1 W hi0

set_option maxRecDepth 100000 in
theorem back14_lifted (os : Os) (started : os.Started) (H : Type) (enc : TypeId × Value → H) :
    ReturnsInHanded {} Try.checked os 8 .any (Rows.probeBackSpec.pre6 enc Try.prog Try.f8 Rows.probeBackRow.domain false) (Rows.probeBackSpec.post enc Try.prog Try.f8 false true false false) :=
  law_lifted (C := Try.checked) (s := Rows.probeBackSpec) (conds := Rows.probeBackRow.domain) (tb := 4) own laidOut started (by kernel_rfl) Try.func8
    (ChangeSpec.witness6 (enc := enc) (C := Try.checked) false ⟨#[], #[(.slice none 0 0), (.int .u32 0), (.int .u32 0), (.int .i64 0)], []⟩ 8 (by kernel_rfl) (by kernel_rfl) (by kernel_rfl) (by kernel_rfl))
    (by rw [show Try.f8.params = _ from Try.params8]; decide +kernel) (by kernel_rfl) Try.underlying4 rfl
    (fun ds hl => by
      rw [show Try.f8.params = _ from Try.params8] at hl
      match ds, hl with
      | [_, _, _, _], _ => rfl) back14_walk

set_option maxRecDepth 100000 in
theorem back14_over : Rows.probeBackRow.holds Try.pinned (OpenSpec.ofChange Rows.probeBackSpec) :=
  OpenClaim.holds_of_wide 8 Try.f8 rfl rfl rfl rfl rfl rfl rfl ⟨rfl, rfl, rfl, rfl, rfl⟩ rfl rfl rfl rfl rfl (by kernel_rfl) Try.func8 (by kernel_rfl)
    (of_decide_eq_true (by kernel_rfl)) (by unfold Func.isWrapper; first | (rw [if_pos (by decide +kernel)]; kernel_rfl) | (rw [if_neg (by decide +kernel)]; exact ⟨rfl, rfl⟩))
    (fun os started H enc _ => back14_lifted os started H enc)

/-- The given statement. -/
theorem back14_holds : Rows.ProbeBackSaid := back14_over
#print axioms back14_holds

end Go.Proofs.Ytalfnmlbidohcaa
