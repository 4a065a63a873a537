/-
  For any limit, any tick and any lists of ticks and costs BucketBound returns true and leaves its arguments as they were. Conditions: none.
-/
import Derived.Test.YtikhdfmdbpcajaaBound03
import Derived.Test.YtikhdfmdbpcajaaLawL03
import Derived.Test.YtikhdfmdbpcajaaLaw03
namespace Go.Proofs.Ytikhdfmdbpcajaa
open Go.ChangeShapes Go.WideShapes Go.ChangeAt Go.RowKit Go.Joins

theorem bound_all {bu ra pe a : Int} {at0 at1 : Option Addr} {cap cap1 : Nat} {ts cs : List Int} {w : World} (ha : isU a) (hi : Ints w .u64 at0 cap ts) (hj : Ints w .i64 at1 cap1 cs) (ht : ∀ k, k < ts.length → isU (nth ts k)) (hc : ∀ k, k < cs.length → tickI (nth cs k)) :
    Calls Try.prog 8 #[.agg #[.int .i64 bu, .int .i64 ra, .int .i64 pe], .int .u64 a, .slice at0 ts.length cap, .slice at1 cs.length cap1] w fun e w' =>
      e = .returned (.bool true) ∧ Below w.heap.size w w' := by
  rcases limE_two bu ra pe with h | h
  · rcases Nat.lt_or_ge 30 ts.length with q | q
    · exact bound_long w hi hj (Lib.hid h) q
    · rcases Nat.lt_or_ge cs.length ts.length with z | z
      · exact bound_few w hi hj (Lib.hid h) q z
      · exact bound_main w hi hj (Lib.hid h) ha ht hc q z
  · exact bound_l w hi hj (Lib.hid h)
theorem bound_walk : LawWalk Try.prog 8 Try.f8 := by
  intro H enc W base args ds ps hval hA _ _
  rw [Try.params8] at hA hval
  obtain ⟨v0, vs0, d0, ds0, p0, q0, hargs, rfl, rfl, h0, r0⟩ := trodAll_cons hA
  obtain ⟨v1, vs1, d1, ds1, p1, q1, rfl, rfl, rfl, h1, r1⟩ := trodAll_cons r0
  obtain ⟨v2, vs2, d2, ds2, p2, q2, rfl, rfl, rfl, h2, r2⟩ := trodAll_cons r1
  obtain ⟨v3, vs3, d3, ds3, p3, q3, rfl, rfl, rfl, h3, r3⟩ := trodAll_cons r2
  obtain ⟨rfl, rfl, rfl⟩ := trodAll_nil r3
  obtain rfl : args = #[v0, v1, v2, v3] := by cases args; simp_all
  obtain ⟨l0, l1, l2, rfl, _⟩ := open_limit (hval 0 _ v0 rfl rfl) h0
  obtain ⟨a, rfl, ha⟩ := open_u (hval 1 _ v1 rfl rfl) h1
  obtain ⟨axs, cxs, xs, rfl, ixs, txs⟩ := open_ticks (hval 2 _ v2 rfl rfl) h2
  obtain ⟨ays, cys, ys, rfl, iys, tys⟩ := open_costs (hval 3 _ v3 rfl rfl) h3
  exact bound_all ha ixs iys txs tys

set_option maxRecDepth 100000 in
theorem bound_lifted (os : Os) (started : os.Started) (H : Type) (enc : TypeId × Value → H) :
    ReturnsInHanded {} Try.checked os 8 .any (Rows.bucketBoundSpec.pre6 enc Try.prog Try.f8 Rows.bucketBoundRow.domain false) (Rows.bucketBoundSpec.post enc Try.prog Try.f8 false true false false) :=
  law_lifted (C := Try.checked) (s := Rows.bucketBoundSpec) (conds := Rows.bucketBoundRow.domain) (tb := 4) own laidOut started (by kernel_rfl) Try.func8
    (ChangeSpec.witness6 (enc := enc) (C := Try.checked) false ⟨#[], #[(.agg #[.int .i64 0, .int .i64 0, .int .i64 0]), (.int .u64 0), (.slice none 0 0), (.slice none 0 0)], []⟩ 8 (by kernel_rfl) (by kernel_rfl) (by kernel_rfl) (by kernel_rfl))
    (by rw [show Try.f8.params = _ from Try.params8]; decide +kernel) (by kernel_rfl) Try.underlying4 rfl
    (fun ds hl => by
      rw [show Try.f8.params = _ from Try.params8] at hl
      match ds, hl with
      | [_, _, _, _], _ => rfl) bound_walk

set_option maxRecDepth 100000 in
theorem bound_over : Rows.bucketBoundRow.holds Try.pinned (OpenSpec.ofChange Rows.bucketBoundSpec) :=
  OpenClaim.holds_of_wide 8 Try.f8 rfl rfl rfl rfl rfl rfl rfl ⟨rfl, rfl, rfl, rfl, rfl⟩ rfl rfl rfl rfl rfl (by kernel_rfl) Try.func8 (by kernel_rfl)
    (of_decide_eq_true (by kernel_rfl)) (by unfold Func.isWrapper; first | (rw [if_pos (by decide +kernel)]; kernel_rfl) | (rw [if_neg (by decide +kernel)]; exact ⟨rfl, rfl⟩))
    (fun os started H enc _ => bound_lifted os started H enc)

/-- The given statement. -/
theorem bound_holds : Rows.BucketBoundSaid := bound_over
#print axioms bound_holds

end Go.Proofs.Ytikhdfmdbpcajaa
