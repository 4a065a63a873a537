/-
  For any bucket and any cost BucketWaits returns true and leaves its arguments as they were. Conditions: none.
-/
import Derived.Test.YtikhdfmdbpcajaaWaits03
import Derived.Test.YtikhdfmdbpcajaaLaw03
namespace Go.Proofs.Ytikhdfmdbpcajaa
open Go.ChangeShapes Go.WideShapes Go.ChangeAt Go.RowKit Go.Joins

theorem waitsl_any {bu ra pe le pt a c : Int} (ha : isU a) (w : World) :
    Calls Try.prog 7 #[.agg #[.int .i64 bu, .int .i64 ra, .int .i64 pe, .int .i64 le, .int .i64 pt, .int .u64 a], .int .i64 c] w fun e w' => e = .returned (.bool true) ∧ Below w.heap.size w w' := by
  rcases bucE_two bu ra pe le pt with h | h
  · have hb := Buc.of h ha
    rcases Int.lt_or_le c 0 with q | q
    · exact waitsl_arg (Lib.hid h) q w
    · by_cases f : filL bu ra pe le pt a 18446744073709551615 < c
      · exact waitsl_never hb q ⟨uMax, .inl ⟨rfl, f⟩⟩ f w
      · obtain ⟨n, hn⟩ := wait_is hb c
        by_cases z : n = 0
        · exact waitsl_zero hb q hn (fun g => f g.2) z w
        · exact waitsl_some hb q hn (fun g => f g.2) (by have := hn.num.1; omega) w
  · exact waitsl_bad (Lib.hid h) w
theorem waitsl_walk : LawWalk Try.prog 7 Try.f7 := by
  intro H enc W base args ds ps hval hA _ _
  rw [Try.params7] at hA hval
  obtain ⟨v0, vs0, d0, ds0, p0, q0, hargs, rfl, rfl, h0, r0⟩ := trodAll_cons hA
  obtain ⟨v1, vs1, d1, ds1, p1, q1, rfl, rfl, rfl, h1, r1⟩ := trodAll_cons r0
  obtain ⟨rfl, rfl, rfl⟩ := trodAll_nil r1
  obtain rfl : args = #[v0, v1] := by cases args; simp_all
  obtain ⟨b0, b1, b2, b3, b4, b5, rfl, hb⟩ := open_bucket (hval 0 _ v0 rfl rfl) h0
  obtain ⟨c, rfl, hc⟩ := open_cost (hval 1 _ v1 rfl rfl) h1
  exact waitsl_any hb W

set_option maxRecDepth 100000 in
theorem waitsl_lifted (os : Os) (started : os.Started) (H : Type) (enc : TypeId × Value → H) :
    ReturnsInHanded {} Try.checked os 7 .any (Rows.bucketWaitsSpec.pre6 enc Try.prog Try.f7 Rows.bucketWaitsRow.domain false) (Rows.bucketWaitsSpec.post enc Try.prog Try.f7 false true false false) :=
  law_lifted (C := Try.checked) (s := Rows.bucketWaitsSpec) (conds := Rows.bucketWaitsRow.domain) (tb := 4) own laidOut started (by kernel_rfl) Try.func7
    (ChangeSpec.witness6 (enc := enc) (C := Try.checked) false ⟨#[], #[(.agg #[.int .i64 0, .int .i64 0, .int .i64 0, .int .i64 0, .int .i64 0, .int .u64 0]), (.int .i64 0)], []⟩ 8 (by kernel_rfl) (by kernel_rfl) (by kernel_rfl) (by kernel_rfl))
    (by rw [show Try.f7.params = _ from Try.params7]; decide +kernel) (by kernel_rfl) Try.underlying4 rfl
    (fun ds hl => by
      rw [show Try.f7.params = _ from Try.params7] at hl
      match ds, hl with
      | [_, _], _ => rfl) waitsl_walk

set_option maxRecDepth 100000 in
theorem waitsl_over : Rows.bucketWaitsRow.holds Try.pinned (OpenSpec.ofChange Rows.bucketWaitsSpec) :=
  OpenClaim.holds_of_wide 7 Try.f7 rfl rfl rfl rfl rfl rfl rfl ⟨rfl, rfl, rfl, rfl, rfl⟩ rfl rfl rfl rfl rfl (by kernel_rfl) Try.func7 (by kernel_rfl)
    (of_decide_eq_true (by kernel_rfl)) (by unfold Func.isWrapper; first | (rw [if_pos (by decide +kernel)]; kernel_rfl) | (rw [if_neg (by decide +kernel)]; exact ⟨rfl, rfl⟩))
    (fun os started H enc _ => waitsl_lifted os started H enc)

/-- The given statement. -/
theorem waitsl_holds : Rows.BucketWaitsSaid := waitsl_over
#print axioms waitsl_holds

end Go.Proofs.Ytikhdfmdbpcajaa
