/-
  For any row and any lists of ticks and costs LevelsRuns returns true and leaves its arguments as they were. Conditions: none.
-/
import Derived.Test.YtmpcpflpcfanjaaRuns04
import Derived.Test.YtmpcpflpcfanjaaRow04
namespace Go.Proofs.Ytmpcpflpcfanjaa
open Go.ChangeShapes Go.WideShapes Go.ChangeAt Go.RowKit Go.Joins

set_option maxRecDepth 100000 in
theorem runs4_walk : LawWalk Try.prog 6 Try.f6 := by
  intro H enc W base args ds ps hval hA _ _
  rw [Try.params6] at hA hval
  obtain ⟨v0, vs0, d0, ds0, p0, q0, hargs, rfl, rfl, h0, r0⟩ := trodAll_cons hA
  obtain ⟨v1, vs1, d1, ds1, p1, q1, rfl, rfl, rfl, h1, r1⟩ := trodAll_cons r0
  obtain ⟨v2, vs2, d2, ds2, p2, q2, rfl, rfl, rfl, h2, r2⟩ := trodAll_cons r1
  obtain ⟨rfl, rfl, rfl⟩ := trodAll_nil r2
  obtain rfl : args = #[v0, v1, v2] := by cases args; simp_all
  obtain ⟨bs, hbs, hu⟩ := open_row (hval 0 _ v0 rfl rfl) h0
  obtain ⟨axs, cxs, xs, rfl, ixs, txs⟩ := open_ticks (hval 1 _ v1 rfl rfl) h1
  obtain ⟨ays, cys, ys, rfl, iys, tys⟩ := open_costs (hval 2 _ v2 rfl rfl) h2
  exact runs4_any hbs hu ixs txs iys tys

set_option maxRecDepth 100000 in
theorem runs4_lifted (os : Os) (started : os.Started) (H : Type) (enc : TypeId × Value → H) :
    ReturnsInHanded {} Try.checked os 6 .any (Rows.levelsRunsSpec.pre6 enc Try.prog Try.f6 Rows.levelsRunsRow.domain false) (Rows.levelsRunsSpec.post enc Try.prog Try.f6 false true false false) :=
  law_lifted (C := Try.checked) (s := Rows.levelsRunsSpec) (conds := Rows.levelsRunsRow.domain) (tb := 4) own laidOut started (by kernel_rfl) Try.func6
    (ChangeSpec.witness6 (enc := enc) (C := Try.checked) false ⟨#[], #[(.slice none 0 0), (.slice none 0 0), (.slice none 0 0)], []⟩ 8 (by kernel_rfl) (by kernel_rfl) (by kernel_rfl) (by kernel_rfl))
    (by rw [show Try.f6.params = _ from Try.params6]; decide +kernel) (by kernel_rfl) Try.underlying4 rfl
    (fun ds hl => by
      rw [show Try.f6.params = _ from Try.params6] at hl
      match ds, hl with
      | [_, _, _], _ => rfl) runs4_walk

set_option maxRecDepth 100000 in
theorem runs4_over : Rows.levelsRunsRow.holds Try.pinned (OpenSpec.ofChange Rows.levelsRunsSpec) :=
  OpenClaim.holds_of_wide 6 Try.f6 rfl rfl rfl rfl rfl rfl rfl ⟨rfl, rfl, rfl, rfl, rfl⟩ rfl rfl rfl rfl rfl (by kernel_rfl) Try.func6 (by kernel_rfl)
    (of_decide_eq_true (by kernel_rfl)) (by unfold Func.isWrapper; first | (rw [if_pos (by decide +kernel)]; kernel_rfl) | (rw [if_neg (by decide +kernel)]; exact ⟨rfl, rfl⟩))
    (fun os started H enc _ => runs4_lifted os started H enc)

/-- The given statement. -/
theorem runs4_holds : Rows.LevelsRunsSaid := runs4_over
#print axioms runs4_holds

end Go.Proofs.Ytmpcpflpcfanjaa
