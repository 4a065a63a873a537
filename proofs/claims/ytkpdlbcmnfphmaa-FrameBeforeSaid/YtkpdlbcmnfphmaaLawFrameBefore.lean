/-
  For any two commands and Tag FrameBefore returns true and leaves its arguments as they were. Conditions: none.
-/
import Derived.Test.YtkpdlbcmnfphmaaBefore09
import Derived.Test.YtkpdlbcmnfphmaaGP3
namespace Go.Proofs.Ytkpdlbcmnfphmaa
open Go.ChangeShapes Go.WideShapes Go.ChangeAt Go.RowKit Go.Joins

set_option maxRecDepth 100000 in
theorem before9_walk : LawWalk Try.prog 7 Try.f7 := by
  intro H enc W base args ds ps hval hA _ _
  rw [Try.params7] at hA hval
  obtain ⟨v0, vs0, d0, ds0, p0, q0, hargs, rfl, rfl, h0, r0⟩ := trodAll_cons hA
  obtain ⟨v1, vs1, d1, ds1, p1, q1, rfl, rfl, rfl, h1, r1⟩ := trodAll_cons r0
  obtain ⟨v2, vs2, d2, ds2, p2, q2, rfl, rfl, rfl, h2, r2⟩ := trodAll_cons r1
  obtain ⟨rfl, rfl, rfl⟩ := trodAll_nil r2
  obtain rfl : args = #[v0, v1, v2] := by cases args; simp_all
  obtain ⟨c0, rfl⟩ := open_cmd (hval 0 _ v0 rfl rfl) h0
  obtain ⟨c1, rfl⟩ := open_cmd (hval 1 _ v1 rfl rfl) h1
  obtain ⟨g2, rfl, hg2, hb2⟩ := open_dg9 (hval 2 _ v2 rfl rfl) h2
  exact before9_is c0 c1 hg2 hb2 W

set_option maxRecDepth 100000 in
theorem before9_lifted (os : Os) (started : os.Started) (H : Type) (enc : TypeId × Value → H) :
    ReturnsInHanded {} Try.checked os 7 .any (Rows.frameBeforeSpec.pre6 enc Try.prog Try.f7 Rows.frameBeforeRow.domain false) (Rows.frameBeforeSpec.post enc Try.prog Try.f7 false true false false) :=
  law_lifted (C := Try.checked) (s := Rows.frameBeforeSpec) (conds := Rows.frameBeforeRow.domain) (tb := 4) own laidOut started (by kernel_rfl) Try.func7
    (ChangeSpec.witness6 (enc := enc) (C := Try.checked) false ⟨#[], #[(.agg (ccell Cmd.zero).toArray), (.agg (ccell Cmd.zero).toArray), (.agg (zeroD.map (Value.int .u8)).toArray)], []⟩ 8 (by kernel_rfl) (by kernel_rfl) (by kernel_rfl) (by kernel_rfl))
    (by rw [show Try.f7.params = _ from Try.params7]; decide +kernel) (by kernel_rfl) Try.underlying4 rfl
    (fun ds hl => by
      rw [show Try.f7.params = _ from Try.params7] at hl
      match ds, hl with
      | [_, _, _], _ => rfl) before9_walk

set_option maxRecDepth 100000 in
theorem before9_over : Rows.frameBeforeRow.holds Try.pinned (OpenSpec.ofChange Rows.frameBeforeSpec) :=
  OpenClaim.holds_of_wide 7 Try.f7 rfl rfl rfl rfl rfl rfl rfl ⟨rfl, rfl, rfl, rfl, rfl⟩ rfl rfl rfl rfl rfl (by kernel_rfl) Try.func7 (by kernel_rfl)
    (of_decide_eq_true (by kernel_rfl)) (by unfold Func.isWrapper; first | (rw [if_pos (by decide +kernel)]; kernel_rfl) | (rw [if_neg (by decide +kernel)]; exact ⟨rfl, rfl⟩))
    (fun os started H enc _ => before9_lifted os started H enc)

/-- The given statement. -/
theorem before9_holds : Rows.FrameBeforeSaid := before9_over
#print axioms before9_holds

end Go.Proofs.Ytkpdlbcmnfphmaa
