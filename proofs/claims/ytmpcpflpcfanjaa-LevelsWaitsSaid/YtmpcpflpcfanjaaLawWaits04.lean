/-
  For any row and any cost LevelsWaits returns true and leaves its arguments as they were. Conditions: none.
-/
import Derived.Test.YtmpcpflpcfanjaaWaits04
import Derived.Test.YtmpcpflpcfanjaaRow04
namespace Go.Proofs.Ytmpcpflpcfanjaa
open Go.ChangeShapes Go.WideShapes Go.ChangeAt Go.RowKit Go.Joins

theorem waits4_any {bs : List Bk} {v : Value} {c : Int} {w : World} (h1 : IsB w v bs) (hu : ∀ b ∈ bs, isU b.a) :
    Calls Try.prog 8 #[v, .int .i64 c] w fun e w' => e = .returned (.bool true) ∧ Below w.heap.size w w' := by
  by_cases h : rowE bs = 0
  · rcases Nat.eq_zero_or_pos bs.length with q | q
    · exact waits4_nil h q h1
    · rcases Int.lt_or_le c 0 with z | z
      · exact waits4_neg h q z h1
      · exact waits4_main (Row.of h hu) q z h1
  · exact waits4_bad h h1
set_option maxRecDepth 100000 in
theorem waits4_walk : LawWalk Try.prog 8 Try.f8 := by
  intro H enc W base args ds ps hval hA _ _
  rw [Try.params8] at hA hval
  obtain ⟨v0, vs0, d0, ds0, p0, q0, hargs, rfl, rfl, h0, r0⟩ := trodAll_cons hA
  obtain ⟨v1, vs1, d1, ds1, p1, q1, rfl, rfl, rfl, h1, r1⟩ := trodAll_cons r0
  obtain ⟨rfl, rfl, rfl⟩ := trodAll_nil r1
  obtain rfl : args = #[v0, v1] := by cases args; simp_all
  obtain ⟨bs, hbs, hu⟩ := open_row (hval 0 _ v0 rfl rfl) h0
  obtain ⟨c, rfl, hc⟩ := open_cost (hval 1 _ v1 rfl rfl) h1
  exact waits4_any hbs hu

set_option maxRecDepth 100000 in
theorem waits4_lifted (os : Os) (started : os.Started) (H : Type) (enc : TypeId × Value → H) :
    ReturnsInHanded {} Try.checked os 8 .any (Rows.levelsWaitsSpec.pre6 enc Try.prog Try.f8 Rows.levelsWaitsRow.domain false) (Rows.levelsWaitsSpec.post enc Try.prog Try.f8 false true false false) :=
  law_lifted (C := Try.checked) (s := Rows.levelsWaitsSpec) (conds := Rows.levelsWaitsRow.domain) (tb := 4) own laidOut started (by kernel_rfl) Try.func8
    (ChangeSpec.witness6 (enc := enc) (C := Try.checked) false ⟨#[], #[(.slice none 0 0), (.int .i64 0)], []⟩ 8 (by kernel_rfl) (by kernel_rfl) (by kernel_rfl) (by kernel_rfl))
    (by rw [show Try.f8.params = _ from Try.params8]; decide +kernel) (by kernel_rfl) Try.underlying4 rfl
    (fun ds hl => by
      rw [show Try.f8.params = _ from Try.params8] at hl
      match ds, hl with
      | [_, _], _ => rfl) waits4_walk

set_option maxRecDepth 100000 in
theorem waits4_over : Rows.levelsWaitsRow.holds Try.pinned (OpenSpec.ofChange Rows.levelsWaitsSpec) :=
  OpenClaim.holds_of_wide 8 Try.f8 rfl rfl rfl rfl rfl rfl rfl ⟨rfl, rfl, rfl, rfl, rfl⟩ rfl rfl rfl rfl rfl (by kernel_rfl) Try.func8 (by kernel_rfl)
    (of_decide_eq_true (by kernel_rfl)) (by unfold Func.isWrapper; first | (rw [if_pos (by decide +kernel)]; kernel_rfl) | (rw [if_neg (by decide +kernel)]; exact ⟨rfl, rfl⟩))
    (fun os started H enc _ => waits4_lifted os started H enc)

/-- The given statement. -/
theorem waits4_holds : Rows.LevelsWaitsSaid := waits4_over
#print axioms waits4_holds

end Go.Proofs.Ytmpcpflpcfanjaa
