/-
  For any limit, any bucket and any tick BucketFills returns true and leaves its arguments as they were. Conditions: none.
-/
import Derived.Test.YtikhdfmdbpcajaaFills03
import Derived.Test.YtikhdfmdbpcajaaLaw03
namespace Go.Proofs.Ytikhdfmdbpcajaa
open Go.ChangeShapes Go.WideShapes Go.ChangeAt Go.RowKit Go.Joins

theorem fills_any {lb lr lp bu ra pe le pt a t : Int} (ha : isU a) (ht : isU t) (w : World) :
    Calls Try.prog 4 #[.agg #[.int .i64 lb, .int .i64 lr, .int .i64 lp], .agg #[.int .i64 bu, .int .i64 ra, .int .i64 pe, .int .i64 le, .int .i64 pt, .int .u64 a], .int .u64 t] w fun e w' => e = .returned (.bool true) ∧ Below w.heap.size w w' := by
  rcases limE_two lb lr lp with hl | hl
  · rcases bucE_two bu ra pe le pt with h | h
    · exact fills_yy (Lib.hid hl) (Buc.of h ha) ht w
    · exact fills_yn (Lib.hid hl) (Lib.hid h) w
  · rcases bucE_two bu ra pe le pt with h | h
    · exact fills_ny (Lib.hid hl) (Buc.of h ha) ht w
    · exact fills_nn (Lib.hid hl) (Lib.hid h) w
theorem fills_walk : LawWalk Try.prog 4 Try.f4 := by
  intro H enc W base args ds ps hval hA _ _
  rw [Try.params4] at hA hval
  obtain ⟨v0, vs0, d0, ds0, p0, q0, hargs, rfl, rfl, h0, r0⟩ := trodAll_cons hA
  obtain ⟨v1, vs1, d1, ds1, p1, q1, rfl, rfl, rfl, h1, r1⟩ := trodAll_cons r0
  obtain ⟨v2, vs2, d2, ds2, p2, q2, rfl, rfl, rfl, h2, r2⟩ := trodAll_cons r1
  obtain ⟨rfl, rfl, rfl⟩ := trodAll_nil r2
  obtain rfl : args = #[v0, v1, v2] := by cases args; simp_all
  obtain ⟨l0, l1, l2, rfl, _⟩ := open_limit (hval 0 _ v0 rfl rfl) h0
  obtain ⟨b0, b1, b2, b3, b4, b5, rfl, hb⟩ := open_bucket (hval 1 _ v1 rfl rfl) h1
  obtain ⟨t, rfl, ht⟩ := open_u (hval 2 _ v2 rfl rfl) h2
  exact fills_any hb ht W

set_option maxRecDepth 100000 in
theorem fills_lifted (os : Os) (started : os.Started) (H : Type) (enc : TypeId × Value → H) :
    ReturnsInHanded {} Try.checked os 4 .any (Rows.bucketFillsSpec.pre6 enc Try.prog Try.f4 Rows.bucketFillsRow.domain false) (Rows.bucketFillsSpec.post enc Try.prog Try.f4 false true false false) :=
  law_lifted (C := Try.checked) (s := Rows.bucketFillsSpec) (conds := Rows.bucketFillsRow.domain) (tb := 4) own laidOut started (by kernel_rfl) Try.func4
    (ChangeSpec.witness6 (enc := enc) (C := Try.checked) false ⟨#[], #[(.agg #[.int .i64 0, .int .i64 0, .int .i64 0]), (.agg #[.int .i64 0, .int .i64 0, .int .i64 0, .int .i64 0, .int .i64 0, .int .u64 0]), (.int .u64 0)], []⟩ 8 (by kernel_rfl) (by kernel_rfl) (by kernel_rfl) (by kernel_rfl))
    (by rw [show Try.f4.params = _ from Try.params4]; decide +kernel) (by kernel_rfl) Try.underlying4 rfl
    (fun ds hl => by
      rw [show Try.f4.params = _ from Try.params4] at hl
      match ds, hl with
      | [_, _, _], _ => rfl) fills_walk

set_option maxRecDepth 100000 in
theorem fills_over : Rows.bucketFillsRow.holds Try.pinned (OpenSpec.ofChange Rows.bucketFillsSpec) :=
  OpenClaim.holds_of_wide 4 Try.f4 rfl rfl rfl rfl rfl rfl rfl ⟨rfl, rfl, rfl, rfl, rfl⟩ rfl rfl rfl rfl rfl (by kernel_rfl) Try.func4 (by kernel_rfl)
    (of_decide_eq_true (by kernel_rfl)) (by unfold Func.isWrapper; first | (rw [if_pos (by decide +kernel)]; kernel_rfl) | (rw [if_neg (by decide +kernel)]; exact ⟨rfl, rfl⟩))
    (fun os started H enc _ => fills_lifted os started H enc)

/-- The given statement. -/
theorem fills_holds : Rows.BucketFillsSaid := fills_over
#print axioms fills_holds

end Go.Proofs.Ytikhdfmdbpcajaa
