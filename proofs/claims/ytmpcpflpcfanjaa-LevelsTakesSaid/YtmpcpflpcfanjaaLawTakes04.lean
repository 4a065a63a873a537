/-
  For any row, any tick and any cost LevelsTakes returns true and leaves its arguments as they were. Conditions: none.
-/
import Derived.Test.YtmpcpflpcfanjaaTakes04
import Derived.Test.YtmpcpflpcfanjaaRow04
namespace Go.Proofs.Ytmpcpflpcfanjaa
open Go.ChangeShapes Go.WideShapes Go.ChangeAt Go.RowKit Go.Joins

set_option maxRecDepth 100000 in
theorem takes4_walk : LawWalk Try.prog 5 Try.f5 := by
  intro H enc W base args ds ps hval hA _ _
  rw [Try.params5] at hA hval
  obtain ⟨v0, vs0, d0, ds0, p0, q0, hargs, rfl, rfl, h0, r0⟩ := trodAll_cons hA
  obtain ⟨v1, vs1, d1, ds1, p1, q1, rfl, rfl, rfl, h1, r1⟩ := trodAll_cons r0
  obtain ⟨v2, vs2, d2, ds2, p2, q2, rfl, rfl, rfl, h2, r2⟩ := trodAll_cons r1
  obtain ⟨rfl, rfl, rfl⟩ := trodAll_nil r2
  obtain rfl : args = #[v0, v1, v2] := by cases args; simp_all
  obtain ⟨bs, hbs, hu⟩ := open_row (hval 0 _ v0 rfl rfl) h0
  obtain ⟨t, rfl, ht⟩ := open_u (hval 1 _ v1 rfl rfl) h1
  obtain ⟨c, rfl, hc⟩ := open_cost (hval 2 _ v2 rfl rfl) h2
  exact takes4_any hbs hu ht hc

set_option maxRecDepth 100000 in
theorem takes4_lifted (os : Os) (started : os.Started) (H : Type) (enc : TypeId × Value → H) :
    ReturnsInHanded {} Try.checked os 5 .any (Rows.levelsTakesSpec.pre6 enc Try.prog Try.f5 Rows.levelsTakesRow.domain false) (Rows.levelsTakesSpec.post enc Try.prog Try.f5 false true false false) :=
  law_lifted (C := Try.checked) (s := Rows.levelsTakesSpec) (conds := Rows.levelsTakesRow.domain) (tb := 4) own laidOut started (by kernel_rfl) Try.func5
    (ChangeSpec.witness6 (enc := enc) (C := Try.checked) false ⟨#[], #[(.slice none 0 0), (.int .u64 0), (.int .i64 0)], []⟩ 8 (by kernel_rfl) (by kernel_rfl) (by kernel_rfl) (by kernel_rfl))
    (by rw [show Try.f5.params = _ from Try.params5]; decide +kernel) (by kernel_rfl) Try.underlying4 rfl
    (fun ds hl => by
      rw [show Try.f5.params = _ from Try.params5] at hl
      match ds, hl with
      | [_, _, _], _ => rfl) takes4_walk

set_option maxRecDepth 100000 in
theorem takes4_over : Rows.levelsTakesRow.holds Try.pinned (OpenSpec.ofChange Rows.levelsTakesSpec) :=
  OpenClaim.holds_of_wide 5 Try.f5 rfl rfl rfl rfl rfl rfl rfl ⟨rfl, rfl, rfl, rfl, rfl⟩ rfl rfl rfl rfl rfl (by kernel_rfl) Try.func5 (by kernel_rfl)
    (of_decide_eq_true (by kernel_rfl)) (by unfold Func.isWrapper; first | (rw [if_pos (by decide +kernel)]; kernel_rfl) | (rw [if_neg (by decide +kernel)]; exact ⟨rfl, rfl⟩))
    (fun os started H enc _ => takes4_lifted os started H enc)

/-- The given statement. -/
theorem takes4_holds : Rows.LevelsTakesSaid := takes4_over
#print axioms takes4_holds

end Go.Proofs.Ytmpcpflpcfanjaa
