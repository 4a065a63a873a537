/-
  For any bytes and digests MacCompares returns true and leaves its arguments as they were. Conditions: none.
-/
import Derived.Test.YtfobjdkpdeiidaaCompares06
import Derived.Test.YtfobjdkpdeiidaaOpenA06
namespace Go.Proofs.Ytfobjdkpdeiidaa
open Go.ChangeShapes Go.WideShapes Go.ChangeAt Go.RowKit Go.Joins

set_option maxRecDepth 100000 in
theorem compares6_walk : LawWalk Try.prog 3 Try.f3 := by
  intro H enc W base args ds ps hval hA _ _
  rw [Try.params3] at hA hval
  obtain ⟨v0, vs0, d0, ds0, p0, q0, hargs, rfl, rfl, h0, r0⟩ := trodAll_cons hA
  obtain ⟨v1, vs1, d1, ds1, p1, q1, rfl, rfl, rfl, h1, r1⟩ := trodAll_cons r0
  obtain ⟨v2, vs2, d2, ds2, p2, q2, rfl, rfl, rfl, h2, r2⟩ := trodAll_cons r1
  obtain ⟨v3, vs3, d3, ds3, p3, q3, rfl, rfl, rfl, h3, r3⟩ := trodAll_cons r2
  obtain ⟨rfl, rfl, rfl⟩ := trodAll_nil r3
  obtain rfl : args = #[v0, v1, v2, v3] := by cases args; simp_all
  obtain ⟨a0, c0, xs0, rfl, hi0⟩ := open_list8 (hval 0 _ v0 rfl rfl) h0
  obtain ⟨a1, c1, xs1, rfl, hi1⟩ := open_list8 (hval 1 _ v1 rfl rfl) h1
  obtain ⟨D2, rfl, hl2, hq2⟩ := open_digest (hval 2 _ v2 rfl rfl) h2
  obtain ⟨D3, rfl, hl3, hq3⟩ := open_digest (hval 3 _ v3 rfl rfl) h3
  exact compares6_any hi0 hi1 hl2 hl3

set_option maxRecDepth 100000 in
theorem compares6_lifted (os : Os) (started : os.Started) (H : Type) (enc : TypeId × Value → H) :
    ReturnsInHanded {} Try.checked os 3 .any (Rows.macComparesSpec.pre6 enc Try.prog Try.f3 Rows.macComparesRow.domain false) (Rows.macComparesSpec.post enc Try.prog Try.f3 false true false false) :=
  law_lifted (C := Try.checked) (s := Rows.macComparesSpec) (conds := Rows.macComparesRow.domain) (tb := 4) own laidOut started (by kernel_rfl) Try.func3
    (ChangeSpec.witness6 (enc := enc) (C := Try.checked) false ⟨#[], #[(.slice none 0 0), (.slice none 0 0), (.agg #[.int .u8 0, .int .u8 0, .int .u8 0, .int .u8 0, .int .u8 0, .int .u8 0, .int .u8 0, .int .u8 0, .int .u8 0, .int .u8 0, .int .u8 0, .int .u8 0, .int .u8 0, .int .u8 0, .int .u8 0, .int .u8 0, .int .u8 0, .int .u8 0, .int .u8 0, .int .u8 0, .int .u8 0, .int .u8 0, .int .u8 0, .int .u8 0, .int .u8 0, .int .u8 0, .int .u8 0, .int .u8 0, .int .u8 0, .int .u8 0, .int .u8 0, .int .u8 0]), (.agg #[.int .u8 0, .int .u8 0, .int .u8 0, .int .u8 0, .int .u8 0, .int .u8 0, .int .u8 0, .int .u8 0, .int .u8 0, .int .u8 0, .int .u8 0, .int .u8 0, .int .u8 0, .int .u8 0, .int .u8 0, .int .u8 0, .int .u8 0, .int .u8 0, .int .u8 0, .int .u8 0, .int .u8 0, .int .u8 0, .int .u8 0, .int .u8 0, .int .u8 0, .int .u8 0, .int .u8 0, .int .u8 0, .int .u8 0, .int .u8 0, .int .u8 0, .int .u8 0])], []⟩ 8 (by kernel_rfl) (by kernel_rfl) (by kernel_rfl) (by kernel_rfl))
    (by rw [show Try.f3.params = _ from Try.params3]; decide +kernel) (by kernel_rfl) Try.underlying4 rfl
    (fun ds hl => by
      rw [show Try.f3.params = _ from Try.params3] at hl
      match ds, hl with
      | [_, _, _, _], _ => rfl) compares6_walk

set_option maxRecDepth 100000 in
theorem compares6_over : Rows.macComparesRow.holds Try.pinned (OpenSpec.ofChange Rows.macComparesSpec) :=
  OpenClaim.holds_of_wide 3 Try.f3 rfl rfl rfl rfl rfl rfl rfl ⟨rfl, rfl, rfl, rfl, rfl⟩ rfl rfl rfl rfl rfl (by kernel_rfl) Try.func3 (by kernel_rfl)
    (of_decide_eq_true (by kernel_rfl)) (by unfold Func.isWrapper; first | (rw [if_pos (by decide +kernel)]; kernel_rfl) | (rw [if_neg (by decide +kernel)]; exact ⟨rfl, rfl⟩))
    (fun os started H enc _ => compares6_lifted os started H enc)

/-- The given statement. -/
theorem compares6_holds : Rows.MacComparesSaid := compares6_over
#print axioms compares6_holds

end Go.Proofs.Ytfobjdkpdeiidaa
