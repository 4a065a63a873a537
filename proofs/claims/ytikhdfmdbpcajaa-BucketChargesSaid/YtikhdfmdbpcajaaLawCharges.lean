/-
  For any bucket, any cost, any limit and any tick BucketCharges returns true and leaves its arguments as they were. Conditions: none.
-/
import Derived.Test.YtikhdfmdbpcajaaCharges03
import Derived.Test.YtikhdfmdbpcajaaLaw03
namespace Go.Proofs.Ytikhdfmdbpcajaa
open Go.ChangeShapes Go.WideShapes Go.ChangeAt Go.RowKit Go.Joins

theorem charges_any {lb lr lp bu ra pe le pt a c t : Int} (ha : isU a) (ht : isU t) (w : World) :
    Calls Try.prog 5 #[.agg #[.int .i64 bu, .int .i64 ra, .int .i64 pe, .int .i64 le, .int .i64 pt, .int .u64 a], .int .i64 c, .agg #[.int .i64 lb, .int .i64 lr, .int .i64 lp], .int .u64 t] w fun e w' => e = .returned (.bool true) ∧ Below w.heap.size w w' := by
  rcases bucE_two bu ra pe le pt with h | h
  · have hb := Buc.of h ha
    rcases limE_two lb lr lp with hl | hl
    · rcases Int.lt_or_le c 0 with q | q
      · exact charges_arg_y hb ht (Lib.hid hl) q w
      · obtain ⟨n, hn⟩ := wait_is hb c
        rcases Int.lt_or_le le c with z | z
        · exact charges_low_y hb ht (Lib.hid hl) q z (Lib.hid hn) w
        · exact charges_ok_y hb ht (Lib.hid hl) q z (Lib.hid hn) w
    · rcases Int.lt_or_le c 0 with q | q
      · exact charges_arg_n hb ht (Lib.hid hl) q w
      · obtain ⟨n, hn⟩ := wait_is hb c
        rcases Int.lt_or_le le c with z | z
        · exact charges_low_n hb ht (Lib.hid hl) q z (Lib.hid hn) w
        · exact charges_ok_n hb ht (Lib.hid hl) q z (Lib.hid hn) w
  · exact charges_bad (Lib.hid h) w
theorem charges_walk : LawWalk Try.prog 5 Try.f5 := by
  intro H enc W base args ds ps hval hA _ _
  rw [Try.params5] at hA hval
  obtain ⟨v0, vs0, d0, ds0, p0, q0, hargs, rfl, rfl, h0, r0⟩ := trodAll_cons hA
  obtain ⟨v1, vs1, d1, ds1, p1, q1, rfl, rfl, rfl, h1, r1⟩ := trodAll_cons r0
  obtain ⟨v2, vs2, d2, ds2, p2, q2, rfl, rfl, rfl, h2, r2⟩ := trodAll_cons r1
  obtain ⟨v3, vs3, d3, ds3, p3, q3, rfl, rfl, rfl, h3, r3⟩ := trodAll_cons r2
  obtain ⟨rfl, rfl, rfl⟩ := trodAll_nil r3
  obtain rfl : args = #[v0, v1, v2, v3] := by cases args; simp_all
  obtain ⟨b0, b1, b2, b3, b4, b5, rfl, hb⟩ := open_bucket (hval 0 _ v0 rfl rfl) h0
  obtain ⟨c, rfl, hc⟩ := open_cost (hval 1 _ v1 rfl rfl) h1
  obtain ⟨l0, l1, l2, rfl, _⟩ := open_limit (hval 2 _ v2 rfl rfl) h2
  obtain ⟨t, rfl, ht⟩ := open_u (hval 3 _ v3 rfl rfl) h3
  exact charges_any hb ht W

set_option maxRecDepth 100000 in
theorem charges_lifted (os : Os) (started : os.Started) (H : Type) (enc : TypeId × Value → H) :
    ReturnsInHanded {} Try.checked os 5 .any (Rows.bucketChargesSpec.pre6 enc Try.prog Try.f5 Rows.bucketChargesRow.domain false) (Rows.bucketChargesSpec.post enc Try.prog Try.f5 false true false false) :=
  law_lifted (C := Try.checked) (s := Rows.bucketChargesSpec) (conds := Rows.bucketChargesRow.domain) (tb := 4) own laidOut started (by kernel_rfl) Try.func5
    (ChangeSpec.witness6 (enc := enc) (C := Try.checked) false ⟨#[], #[(.agg #[.int .i64 0, .int .i64 0, .int .i64 0, .int .i64 0, .int .i64 0, .int .u64 0]), (.int .i64 0), (.agg #[.int .i64 0, .int .i64 0, .int .i64 0]), (.int .u64 0)], []⟩ 8 (by kernel_rfl) (by kernel_rfl) (by kernel_rfl) (by kernel_rfl))
    (by rw [show Try.f5.params = _ from Try.params5]; decide +kernel) (by kernel_rfl) Try.underlying4 rfl
    (fun ds hl => by
      rw [show Try.f5.params = _ from Try.params5] at hl
      match ds, hl with
      | [_, _, _, _], _ => rfl) charges_walk

set_option maxRecDepth 100000 in
theorem charges_over : Rows.bucketChargesRow.holds Try.pinned (OpenSpec.ofChange Rows.bucketChargesSpec) :=
  OpenClaim.holds_of_wide 5 Try.f5 rfl rfl rfl rfl rfl rfl rfl ⟨rfl, rfl, rfl, rfl, rfl⟩ rfl rfl rfl rfl rfl (by kernel_rfl) Try.func5 (by kernel_rfl)
    (of_decide_eq_true (by kernel_rfl)) (by unfold Func.isWrapper; first | (rw [if_pos (by decide +kernel)]; kernel_rfl) | (rw [if_neg (by decide +kernel)]; exact ⟨rfl, rfl⟩))
    (fun os started H enc _ => charges_lifted os started H enc)

/-- The given statement. -/
theorem charges_holds : Rows.BucketChargesSaid := charges_over
#print axioms charges_holds

end Go.Proofs.Ytikhdfmdbpcajaa
