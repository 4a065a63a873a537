/-
  For any table, two tokens, frame, endpoint and cost IdealOrder returns true and leaves its arguments as they were. Conditions: none.
-/
import Derived.Test.YtpccahdbienjeaaOrder12
import Derived.Test.YtpccahdbienjeaaOpen12
namespace Go.Proofs.Ytpccahdbienjeaa
open Go.ChangeShapes Go.WideShapes Go.ChangeAt Go.RowKit Go.Joins

set_option maxRecDepth 100000 in
theorem order12_walk : LawWalkS Try.prog 7 Try.f7 := by
  intro H enc W base args ds ps hval hA hz
  rw [Try.params7] at hA hval hz
  obtain ⟨v0, vs0, d0, ds0, p0, q0, hargs, rfl, rfl, h0, r0⟩ := trodAll_cons hA
  obtain ⟨v1, vs1, d1, ds1, p1, q1, rfl, rfl, rfl, h1, r1⟩ := trodAll_cons r0
  obtain ⟨v2, vs2, d2, ds2, p2, q2, rfl, rfl, rfl, h2, r2⟩ := trodAll_cons r1
  obtain ⟨v3, vs3, d3, ds3, p3, q3, rfl, rfl, rfl, h3, r3⟩ := trodAll_cons r2
  obtain ⟨v4, vs4, d4, ds4, p4, q4, rfl, rfl, rfl, h4, r4⟩ := trodAll_cons r3
  obtain ⟨v5, vs5, d5, ds5, p5, q5, rfl, rfl, rfl, h5, r5⟩ := trodAll_cons r4
  obtain ⟨rfl, rfl, rfl⟩ := trodAll_nil r5
  obtain rfl : args = #[v0, v1, v2, v3, v4, v5] := by cases args; simp_all
  obtain ⟨ts0, cs0, hi0, hl0⟩ := open_ideal (hval 0 _ v0 rfl rfl) h0 (hz 0 _ d0 rfl rfl)
  obtain ⟨k1, g1, rfl, hg1, hb1⟩ := open_tok (hval 1 _ v1 rfl rfl) h1
  obtain ⟨k2, g2, rfl, hg2, hb2⟩ := open_tok (hval 2 _ v2 rfl rfl) h2
  obtain ⟨f3, rfl⟩ := open_frm (hval 3 _ v3 rfl rfl) h3
  obtain ⟨n4, rfl, _, _, wf4⟩ := open_int Try.underlying43 (hval 4 _ v4 rfl rfl) h4
  obtain ⟨n5, rfl, _, _, wf5⟩ := open_int Try.underlying29 (hval 5 _ v5 rfl rfl) h5
  exact order12_is ⟨k1, g1, hg1, hb1⟩ ⟨k2, g2, hg2, hb2⟩ f3 hl0 (b16 wf4) (b32 wf5) W hi0

set_option maxRecDepth 100000 in
theorem order12_lifted (os : Os) (started : os.Started) (H : Type) (enc : TypeId × Value → H) :
    ReturnsInHanded {} Try.checked os 7 .any (Rows.idealOrderSpec.pre6 enc Try.prog Try.f7 Rows.idealOrderRow.domain false) (Rows.idealOrderSpec.post enc Try.prog Try.f7 false true false false) :=
  law_liftedS (C := Try.checked) (s := Rows.idealOrderSpec) (conds := Rows.idealOrderRow.domain) (tb := 4) own laidOut started (by kernel_rfl) Try.func7
    (ChangeSpec.witness6 (enc := enc) (C := Try.checked) false ⟨#[], #[(.agg #[.slice none 0 0, .slice none 0 0]), (.agg (tcell Nums.zero zeroD).toArray), (.agg (tcell Nums.zero zeroD).toArray), (.agg (mcell Frm.zero).toArray), (.int .u16 0), (.int .u32 0)], []⟩ 8 (by kernel_rfl) (by kernel_rfl) (by kernel_rfl) (by kernel_rfl))
    (by rw [show Try.f7.params = _ from Try.params7]; decide +kernel) (by kernel_rfl) Try.underlying4 rfl
    (fun ds hl => by
      rw [show Try.f7.params = _ from Try.params7] at hl
      match ds, hl with
      | [_, _, _, _, _, _], _ => rfl) order12_walk

set_option maxRecDepth 100000 in
theorem order12_over : Rows.idealOrderRow.holds Try.pinned (OpenSpec.ofChange Rows.idealOrderSpec) :=
  OpenClaim.holds_of_wide 7 Try.f7 rfl rfl rfl rfl rfl rfl rfl ⟨rfl, rfl, rfl, rfl, rfl⟩ rfl rfl rfl rfl rfl (by kernel_rfl) Try.func7 (by kernel_rfl)
    (of_decide_eq_true (by kernel_rfl)) (by unfold Func.isWrapper; first | (rw [if_pos (by decide +kernel)]; kernel_rfl) | (rw [if_neg (by decide +kernel)]; exact ⟨rfl, rfl⟩))
    (fun os started H enc _ => order12_lifted os started H enc)

/-- The given statement. -/
theorem order12_holds : Rows.IdealOrderSaid := order12_over
#print axioms order12_holds

end Go.Proofs.Ytpccahdbienjeaa
