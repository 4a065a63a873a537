/-
  For any two buckets and any lists of ticks and costs BucketMore returns true and leaves its arguments as they were. Conditions: none.
-/
import Derived.Test.YtmpcpflpcfanjaaMoreM03
import Derived.Test.YtmpcpflpcfanjaaLawL03
import Derived.Test.YtmpcpflpcfanjaaLaw03
namespace Go.Proofs.Ytmpcpflpcfanjaa
open Go.ChangeShapes Go.WideShapes Go.ChangeAt Go.RowKit Go.Joins

theorem more_all {bu ra pe le pt a bu2 ra2 pe2 le2 pt2 a2 : Int} {at0 at1 : Option Addr} {cap cap1 : Nat} {ts cs : List Int} {w : World} (ha : isU a) (hi : Ints w .u64 at0 cap ts) (hj : Ints w .i64 at1 cap1 cs) (ht : ∀ k, k < ts.length → isU (nth ts k)) :
    Calls Try.prog 3 #[.agg #[.int .i64 bu, .int .i64 ra, .int .i64 pe, .int .i64 le, .int .i64 pt, .int .u64 a], .agg #[.int .i64 bu2, .int .i64 ra2, .int .i64 pe2, .int .i64 le2, .int .i64 pt2, .int .u64 a2], .slice at0 ts.length cap, .slice at1 cs.length cap1] w fun e w' =>
      e = .returned (.bool true) ∧ Below w.heap.size w w' := by
  rcases bucE_two bu ra pe le pt with h | h
  · rcases bucE_two bu ra pe le2 pt2 with h2 | h2
    · cases h3 : moreB le2 pt2 le pt with
      | false => exact more_l w hi hj (Lib.hid h) (Lib.hid h2) (Lib.hid h3)
      | true =>
        rcases Nat.lt_or_ge 30 ts.length with q | q
        · exact more_long w hi hj (Lib.hid h) (Lib.hid h2) (Lib.hid h3) q
        · rcases Nat.lt_or_ge cs.length ts.length with z | z
          · exact more_few w hi hj (Lib.hid h) (Lib.hid h2) (Lib.hid h3) q z
          · exact more_main w hi hj (Lib.hid h) (Lib.hid h2) (Lib.hid h3) ht q z (Buc.of h ha) (Buc.of h2 ha)
    · exact more_c w hi hj (Lib.hid h) (Lib.hid h2)
  · exact more_b w hi hj (Lib.hid h)
set_option maxRecDepth 100000 in
theorem more_walk : LawWalk Try.prog 3 Try.f3 := by
  intro H enc W base args ds ps hval hA _ _
  rw [Try.params3] at hA hval
  obtain ⟨v0, vs0, d0, ds0, p0, q0, hargs, rfl, rfl, h0, r0⟩ := trodAll_cons hA
  obtain ⟨v1, vs1, d1, ds1, p1, q1, rfl, rfl, rfl, h1, r1⟩ := trodAll_cons r0
  obtain ⟨v2, vs2, d2, ds2, p2, q2, rfl, rfl, rfl, h2, r2⟩ := trodAll_cons r1
  obtain ⟨v3, vs3, d3, ds3, p3, q3, rfl, rfl, rfl, h3, r3⟩ := trodAll_cons r2
  obtain ⟨rfl, rfl, rfl⟩ := trodAll_nil r3
  obtain rfl : args = #[v0, v1, v2, v3] := by cases args; simp_all
  obtain ⟨b0, b1, b2, b3, b4, b5, rfl, hb⟩ := open_bucket (hval 0 _ v0 rfl rfl) h0
  obtain ⟨c0, c1, c2, c3, c4, c5, rfl, hc⟩ := open_bucket (hval 1 _ v1 rfl rfl) h1
  obtain ⟨axs, cxs, xs, rfl, ixs, txs⟩ := open_ticks (hval 2 _ v2 rfl rfl) h2
  obtain ⟨ays, cys, ys, rfl, iys, tys⟩ := open_costs (hval 3 _ v3 rfl rfl) h3
  exact more_all hb ixs iys txs

set_option maxRecDepth 100000 in
theorem more_lifted (os : Os) (started : os.Started) (H : Type) (enc : TypeId × Value → H) :
    ReturnsInHanded {} Try.checked os 3 .any (Rows.bucketMoreSpec.pre6 enc Try.prog Try.f3 Rows.bucketMoreRow.domain false) (Rows.bucketMoreSpec.post enc Try.prog Try.f3 false true false false) :=
  law_lifted (C := Try.checked) (s := Rows.bucketMoreSpec) (conds := Rows.bucketMoreRow.domain) (tb := 4) own laidOut started (by kernel_rfl) Try.func3
    (ChangeSpec.witness6 (enc := enc) (C := Try.checked) false ⟨#[], #[(.agg #[.int .i64 0, .int .i64 0, .int .i64 0, .int .i64 0, .int .i64 0, .int .u64 0]), (.agg #[.int .i64 0, .int .i64 0, .int .i64 0, .int .i64 0, .int .i64 0, .int .u64 0]), (.slice none 0 0), (.slice none 0 0)], []⟩ 8 (by kernel_rfl) (by kernel_rfl) (by kernel_rfl) (by kernel_rfl))
    (by rw [show Try.f3.params = _ from Try.params3]; decide +kernel) (by kernel_rfl) Try.underlying4 rfl
    (fun ds hl => by
      rw [show Try.f3.params = _ from Try.params3] at hl
      match ds, hl with
      | [_, _, _, _], _ => rfl) more_walk

set_option maxRecDepth 100000 in
theorem more_over : Rows.bucketMoreRow.holds Try.pinned (OpenSpec.ofChange Rows.bucketMoreSpec) :=
  OpenClaim.holds_of_wide 3 Try.f3 rfl rfl rfl rfl rfl rfl rfl ⟨rfl, rfl, rfl, rfl, rfl⟩ rfl rfl rfl rfl rfl (by kernel_rfl) Try.func3 (by kernel_rfl)
    (of_decide_eq_true (by kernel_rfl)) (by unfold Func.isWrapper; first | (rw [if_pos (by decide +kernel)]; kernel_rfl) | (rw [if_neg (by decide +kernel)]; exact ⟨rfl, rfl⟩))
    (fun os started H enc _ => more_lifted os started H enc)

/-- The given statement. -/
theorem more_holds : Rows.BucketMoreSaid := more_over
#print axioms more_holds

end Go.Proofs.Ytmpcpflpcfanjaa
