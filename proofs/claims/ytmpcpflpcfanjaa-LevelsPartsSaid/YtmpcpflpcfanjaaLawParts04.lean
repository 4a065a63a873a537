/-
  For any row, any lists of ticks and costs and any index LevelsParts returns true and leaves its arguments as they were. Conditions: none.
-/
import Derived.Test.YtmpcpflpcfanjaaParts04
import Derived.Test.YtmpcpflpcfanjaaRow04
namespace Go.Proofs.Ytmpcpflpcfanjaa
open Go.ChangeShapes Go.WideShapes Go.ChangeAt Go.RowKit Go.Joins

set_option maxRecDepth 100000 in
theorem parts4_walk : LawWalk Try.prog 9 Try.f9 := by
  intro H enc W base args ds ps hval hA _ _
  rw [Try.params9] at hA hval
  obtain ⟨v0, vs0, d0, ds0, p0, q0, hargs, rfl, rfl, h0, r0⟩ := trodAll_cons hA
  obtain ⟨v1, vs1, d1, ds1, p1, q1, rfl, rfl, rfl, h1, r1⟩ := trodAll_cons r0
  obtain ⟨v2, vs2, d2, ds2, p2, q2, rfl, rfl, rfl, h2, r2⟩ := trodAll_cons r1
  obtain ⟨v3, vs3, d3, ds3, p3, q3, rfl, rfl, rfl, h3, r3⟩ := trodAll_cons r2
  obtain ⟨rfl, rfl, rfl⟩ := trodAll_nil r3
  obtain rfl : args = #[v0, v1, v2, v3] := by cases args; simp_all
  obtain ⟨bs, hbs, hu⟩ := open_row (hval 0 _ v0 rfl rfl) h0
  obtain ⟨axs, cxs, xs, rfl, ixs, txs⟩ := open_ticks (hval 1 _ v1 rfl rfl) h1
  obtain ⟨ays, cys, ys, rfl, iys, tys⟩ := open_costs (hval 2 _ v2 rfl rfl) h2
  obtain ⟨p, rfl, _⟩ := open_idx (hval 3 _ v3 rfl rfl) h3
  exact parts4_any hbs hu ixs txs iys

set_option maxRecDepth 100000 in
theorem parts4_lifted (os : Os) (started : os.Started) (H : Type) (enc : TypeId × Value → H) :
    ReturnsInHanded {} Try.checked os 9 .any (Rows.levelsPartsSpec.pre6 enc Try.prog Try.f9 Rows.levelsPartsRow.domain false) (Rows.levelsPartsSpec.post enc Try.prog Try.f9 false true false false) :=
  law_lifted (C := Try.checked) (s := Rows.levelsPartsSpec) (conds := Rows.levelsPartsRow.domain) (tb := 4) own laidOut started (by kernel_rfl) Try.func9
    (ChangeSpec.witness6 (enc := enc) (C := Try.checked) false ⟨#[], #[(.slice none 0 0), (.slice none 0 0), (.slice none 0 0), (.int .i64 0)], []⟩ 8 (by kernel_rfl) (by kernel_rfl) (by kernel_rfl) (by kernel_rfl))
    (by rw [show Try.f9.params = _ from Try.params9]; decide +kernel) (by kernel_rfl) Try.underlying4 rfl
    (fun ds hl => by
      rw [show Try.f9.params = _ from Try.params9] at hl
      match ds, hl with
      | [_, _, _, _], _ => rfl) parts4_walk

set_option maxRecDepth 100000 in
theorem parts4_over : Rows.levelsPartsRow.holds Try.pinned (OpenSpec.ofChange Rows.levelsPartsSpec) :=
  OpenClaim.holds_of_wide 9 Try.f9 rfl rfl rfl rfl rfl rfl rfl ⟨rfl, rfl, rfl, rfl, rfl⟩ rfl rfl rfl rfl rfl (by kernel_rfl) Try.func9 (by kernel_rfl)
    (of_decide_eq_true (by kernel_rfl)) (by unfold Func.isWrapper; first | (rw [if_pos (by decide +kernel)]; kernel_rfl) | (rw [if_neg (by decide +kernel)]; exact ⟨rfl, rfl⟩))
    (fun os started H enc _ => parts4_lifted os started H enc)

/-- The given statement. -/
theorem parts4_holds : Rows.LevelsPartsSaid := parts4_over
#print axioms parts4_holds

end Go.Proofs.Ytmpcpflpcfanjaa
