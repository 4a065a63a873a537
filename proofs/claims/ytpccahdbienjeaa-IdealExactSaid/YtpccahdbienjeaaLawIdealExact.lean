/-
  For any table, token, command and frame IdealExact returns true and leaves its arguments as they were. Conditions: none.
-/
import Derived.Test.YtpccahdbienjeaaExact12
import Derived.Test.YtpccahdbienjeaaOpen12
namespace Go.Proofs.Ytpccahdbienjeaa
open Go.ChangeShapes Go.WideShapes Go.ChangeAt Go.RowKit Go.Joins

set_option maxRecDepth 100000 in
theorem exact12_walk : LawWalkS Try.prog 6 Try.f6 := by
  intro H enc W base args ds ps hval hA hz
  rw [Try.params6] at hA hval hz
  obtain ⟨v0, vs0, d0, ds0, p0, q0, hargs, rfl, rfl, h0, r0⟩ := trodAll_cons hA
  obtain ⟨v1, vs1, d1, ds1, p1, q1, rfl, rfl, rfl, h1, r1⟩ := trodAll_cons r0
  obtain ⟨v2, vs2, d2, ds2, p2, q2, rfl, rfl, rfl, h2, r2⟩ := trodAll_cons r1
  obtain ⟨v3, vs3, d3, ds3, p3, q3, rfl, rfl, rfl, h3, r3⟩ := trodAll_cons r2
  obtain ⟨rfl, rfl, rfl⟩ := trodAll_nil r3
  obtain rfl : args = #[v0, v1, v2, v3] := by cases args; simp_all
  obtain ⟨ts0, cs0, hi0, hl0⟩ := open_ideal (hval 0 _ v0 rfl rfl) h0 (hz 0 _ d0 rfl rfl)
  obtain ⟨k1, g1, rfl, hg1, hb1⟩ := open_tok (hval 1 _ v1 rfl rfl) h1
  obtain ⟨c2, rfl⟩ := open_cmd (hval 2 _ v2 rfl rfl) h2
  obtain ⟨f3, rfl⟩ := open_frm (hval 3 _ v3 rfl rfl) h3
  exact exact12_is ⟨k1, g1, hg1, hb1⟩ c2 f3 hl0 W hi0

set_option maxRecDepth 100000 in
theorem exact12_lifted (os : Os) (started : os.Started) (H : Type) (enc : TypeId × Value → H) :
    ReturnsInHanded {} Try.checked os 6 .any (Rows.idealExactSpec.pre6 enc Try.prog Try.f6 Rows.idealExactRow.domain false) (Rows.idealExactSpec.post enc Try.prog Try.f6 false true false false) :=
  law_liftedS (C := Try.checked) (s := Rows.idealExactSpec) (conds := Rows.idealExactRow.domain) (tb := 4) own laidOut started (by kernel_rfl) Try.func6
    (ChangeSpec.witness6 (enc := enc) (C := Try.checked) false ⟨#[], #[(.agg #[.slice none 0 0, .slice none 0 0]), (.agg (tcell Nums.zero zeroD).toArray), (.agg (ccell Cmd.zero).toArray), (.agg (mcell Frm.zero).toArray)], []⟩ 8 (by kernel_rfl) (by kernel_rfl) (by kernel_rfl) (by kernel_rfl))
    (by rw [show Try.f6.params = _ from Try.params6]; decide +kernel) (by kernel_rfl) Try.underlying4 rfl
    (fun ds hl => by
      rw [show Try.f6.params = _ from Try.params6] at hl
      match ds, hl with
      | [_, _, _, _], _ => rfl) exact12_walk

set_option maxRecDepth 100000 in
theorem exact12_over : Rows.idealExactRow.holds Try.pinned (OpenSpec.ofChange Rows.idealExactSpec) :=
  OpenClaim.holds_of_wide 6 Try.f6 rfl rfl rfl rfl rfl rfl rfl ⟨rfl, rfl, rfl, rfl, rfl⟩ rfl rfl rfl rfl rfl (by kernel_rfl) Try.func6 (by kernel_rfl)
    (of_decide_eq_true (by kernel_rfl)) (by unfold Func.isWrapper; first | (rw [if_pos (by decide +kernel)]; kernel_rfl) | (rw [if_neg (by decide +kernel)]; exact ⟨rfl, rfl⟩))
    (fun os started H enc _ => exact12_lifted os started H enc)

/-- The given statement. -/
theorem exact12_holds : Rows.IdealExactSaid := exact12_over
#print axioms exact12_holds

end Go.Proofs.Ytpccahdbienjeaa
