/-
  For any limits, any tick and any lists of readings and costs TopBuckets returns true and leaves its arguments as they were. Conditions: none.
-/
import Derived.Test.YtmpcpflpcfanjaaTop04
namespace Go.Proofs.Ytmpcpflpcfanjaa
open Go.ChangeShapes Go.WideShapes Go.ChangeAt Go.RowKit Go.Joins

set_option maxRecDepth 100000 in
theorem top4_walk : LawWalk Try.prog 11 Try.f11 := by
  intro H enc W base args ds ps hval hA _ _
  rw [Try.params11] at hA hval
  obtain ⟨v0, vs0, d0, ds0, p0, q0, hargs, rfl, rfl, h0, r0⟩ := trodAll_cons hA
  obtain ⟨v1, vs1, d1, ds1, p1, q1, rfl, rfl, rfl, h1, r1⟩ := trodAll_cons r0
  obtain ⟨v2, vs2, d2, ds2, p2, q2, rfl, rfl, rfl, h2, r2⟩ := trodAll_cons r1
  obtain ⟨v3, vs3, d3, ds3, p3, q3, rfl, rfl, rfl, h3, r3⟩ := trodAll_cons r2
  obtain ⟨rfl, rfl, rfl⟩ := trodAll_nil r3
  obtain rfl : args = #[v0, v1, v2, v3] := by cases args; simp_all
  obtain ⟨a0, c0, ls, rfl, hl0⟩ := open_limits (hval 0 _ v0 rfl rfl) h0
  obtain ⟨t, rfl, ht⟩ := open_u (hval 1 _ v1 rfl rfl) h1
  obtain ⟨a1, c1, xs, rfl, hi1, ht1, hn1⟩ := open_ticksN (hval 2 _ v2 rfl rfl) h2
  obtain ⟨a2, c2, cs, rfl, hj1, hc1⟩ := open_costs (hval 3 _ v3 rfl rfl) h3
  exact top_any hl0 ht hi1 ht1 hn1 hj1 hc1

set_option maxRecDepth 100000 in
theorem top4_lifted (os : Os) (started : os.Started) (H : Type) (enc : TypeId × Value → H) :
    ReturnsInHanded {} Try.checked os 11 .any (Rows.topBucketsSpec.pre6 enc Try.prog Try.f11 Rows.topBucketsRow.domain false) (Rows.topBucketsSpec.post enc Try.prog Try.f11 false true false false) :=
  law_lifted (C := Try.checked) (s := Rows.topBucketsSpec) (conds := Rows.topBucketsRow.domain) (tb := 4) own laidOut started (by kernel_rfl) Try.func11
    (ChangeSpec.witness6 (enc := enc) (C := Try.checked) false ⟨#[], #[(.slice none 0 0), (.int .u64 0), (.slice none 0 0), (.slice none 0 0)], []⟩ 8 (by kernel_rfl) (by kernel_rfl) (by kernel_rfl) (by kernel_rfl))
    (by rw [show Try.f11.params = _ from Try.params11]; decide +kernel) (by kernel_rfl) Try.underlying4 rfl
    (fun ds hl => by
      rw [show Try.f11.params = _ from Try.params11] at hl
      match ds, hl with
      | [_, _, _, _], _ => rfl) top4_walk

set_option maxRecDepth 100000 in
theorem top4_over : Rows.topBucketsRow.holds Try.pinned (OpenSpec.ofChange Rows.topBucketsSpec) :=
  OpenClaim.holds_of_wide 11 Try.f11 rfl rfl rfl rfl rfl rfl rfl ⟨rfl, rfl, rfl, rfl, rfl⟩ rfl rfl rfl rfl rfl (by kernel_rfl) Try.func11 (by kernel_rfl)
    (of_decide_eq_true (by kernel_rfl)) (by unfold Func.isWrapper; first | (rw [if_pos (by decide +kernel)]; kernel_rfl) | (rw [if_neg (by decide +kernel)]; exact ⟨rfl, rfl⟩))
    (fun os started H enc _ => top4_lifted os started H enc)

/-- The given statement. -/
theorem top4_holds : Rows.TopBucketsSaid := top4_over
#print axioms top4_holds

end Go.Proofs.Ytmpcpflpcfanjaa
