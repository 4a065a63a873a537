/-
  For any token and bytes TokenReads returns true and leaves its arguments as they were. Conditions: none.
-/
import Derived.Test.YtlbbedknldmcpaaReads08
import Derived.Test.YtlbbedknldmcpaaLawK07
namespace Go.Proofs.Ytlbbedknldmcpaa
open Go.ChangeShapes Go.WideShapes Go.ChangeAt Go.RowKit Go.Joins

set_option maxRecDepth 100000 in
theorem reads8_walk : LawWalk Try.prog 3 Try.f3 := by
  intro H enc W base args ds ps hval hA _ _
  rw [Try.params3] at hA hval
  obtain ⟨v0, vs0, d0, ds0, p0, q0, hargs, rfl, rfl, h0, r0⟩ := trodAll_cons hA
  obtain ⟨v1, vs1, d1, ds1, p1, q1, rfl, rfl, rfl, h1, r1⟩ := trodAll_cons r0
  obtain ⟨rfl, rfl, rfl⟩ := trodAll_nil r1
  obtain rfl : args = #[v0, v1] := by cases args; simp_all
  obtain ⟨k0, g0, rfl, hg0, hb0⟩ := open_tok (hval 0 _ v0 rfl rfl) h0
  obtain ⟨bs1, hi1, hb1⟩ := open_byts (hval 1 _ v1 rfl rfl) h1
  exact reads8_is k0 hg0 W hi1 hb1

set_option maxRecDepth 100000 in
theorem reads8_lifted (os : Os) (started : os.Started) (H : Type) (enc : TypeId × Value → H) :
    ReturnsInHanded {} Try.checked os 3 .any (Rows.tokenReadsSpec.pre6 enc Try.prog Try.f3 Rows.tokenReadsRow.domain false) (Rows.tokenReadsSpec.post enc Try.prog Try.f3 false true false false) :=
  law_lifted (C := Try.checked) (s := Rows.tokenReadsSpec) (conds := Rows.tokenReadsRow.domain) (tb := 4) own laidOut started (by kernel_rfl) Try.func3
    (ChangeSpec.witness6 (enc := enc) (C := Try.checked) false ⟨#[], #[(.agg (tcell Nums.zero zeroD).toArray), (.slice none 0 0)], []⟩ 8 (by kernel_rfl) (by kernel_rfl) (by kernel_rfl) (by kernel_rfl))
    (by rw [show Try.f3.params = _ from Try.params3]; decide +kernel) (by kernel_rfl) Try.underlying4 rfl
    (fun ds hl => by
      rw [show Try.f3.params = _ from Try.params3] at hl
      match ds, hl with
      | [_, _], _ => rfl) reads8_walk

set_option maxRecDepth 100000 in
theorem reads8_over : Rows.tokenReadsRow.holds Try.pinned (OpenSpec.ofChange Rows.tokenReadsSpec) :=
  OpenClaim.holds_of_wide 3 Try.f3 rfl rfl rfl rfl rfl rfl rfl ⟨rfl, rfl, rfl, rfl, rfl⟩ rfl rfl rfl rfl rfl (by kernel_rfl) Try.func3 (by kernel_rfl)
    (of_decide_eq_true (by kernel_rfl)) (by unfold Func.isWrapper; first | (rw [if_pos (by decide +kernel)]; kernel_rfl) | (rw [if_neg (by decide +kernel)]; exact ⟨rfl, rfl⟩))
    (fun os started H enc _ => reads8_lifted os started H enc)

/-- The given statement. -/
theorem reads8_holds : Rows.TokenReadsSaid := reads8_over
#print axioms reads8_holds

end Go.Proofs.Ytlbbedknldmcpaa
