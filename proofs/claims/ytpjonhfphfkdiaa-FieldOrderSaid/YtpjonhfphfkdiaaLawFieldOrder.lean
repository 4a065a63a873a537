/-
  For any kind and two numbers FieldOrder returns true and leaves its arguments as they were. Conditions: none.
-/
import Derived.Test.YtpjonhfphfkdiaaOrder07
import Derived.Test.YtpjonhfphfkdiaaLawK07
namespace Go.Proofs.Ytpjonhfphfkdiaa
open Go.ChangeShapes Go.WideShapes Go.ChangeAt Go.RowKit Go.Joins

set_option maxRecDepth 100000 in
theorem order7_walk : LawWalk Try.prog 8 Try.f8 := by
  intro H enc W base args ds ps hval hA _ _
  rw [Try.params8] at hA hval
  obtain ⟨v0, vs0, d0, ds0, p0, q0, hargs, rfl, rfl, h0, r0⟩ := trodAll_cons hA
  obtain ⟨v1, vs1, d1, ds1, p1, q1, rfl, rfl, rfl, h1, r1⟩ := trodAll_cons r0
  obtain ⟨v2, vs2, d2, ds2, p2, q2, rfl, rfl, rfl, h2, r2⟩ := trodAll_cons r1
  obtain ⟨rfl, rfl, rfl⟩ := trodAll_nil r2
  obtain rfl : args = #[v0, v1, v2] := by cases args; simp_all
  obtain ⟨n0, rfl, hn0, hm0⟩ := open_y8 (hval 0 _ v0 rfl rfl) h0
  obtain ⟨n1, rfl, hn1, hm1⟩ := open_q64 (hval 1 _ v1 rfl rfl) h1
  obtain ⟨n2, rfl, hn2, hm2⟩ := open_q64 (hval 2 _ v2 rfl rfl) h2
  exact order_is n0 n1 n2 W ⟨hn0, hm0⟩ ⟨hn1, hm1⟩ ⟨hn2, hm2⟩

set_option maxRecDepth 100000 in
theorem order7_lifted (os : Os) (started : os.Started) (H : Type) (enc : TypeId × Value → H) :
    ReturnsInHanded {} Try.checked os 8 .any (Rows.fieldOrderSpec.pre6 enc Try.prog Try.f8 Rows.fieldOrderRow.domain false) (Rows.fieldOrderSpec.post enc Try.prog Try.f8 false true false false) :=
  law_lifted (C := Try.checked) (s := Rows.fieldOrderSpec) (conds := Rows.fieldOrderRow.domain) (tb := 4) own laidOut started (by kernel_rfl) Try.func8
    (ChangeSpec.witness6 (enc := enc) (C := Try.checked) false ⟨#[], #[(.int .u8 0), (.int .u64 0), (.int .u64 0)], []⟩ 8 (by kernel_rfl) (by kernel_rfl) (by kernel_rfl) (by kernel_rfl))
    (by rw [show Try.f8.params = _ from Try.params8]; decide +kernel) (by kernel_rfl) Try.underlying4 rfl
    (fun ds hl => by
      rw [show Try.f8.params = _ from Try.params8] at hl
      match ds, hl with
      | [_, _, _], _ => rfl) order7_walk

set_option maxRecDepth 100000 in
theorem order7_over : Rows.fieldOrderRow.holds Try.pinned (OpenSpec.ofChange Rows.fieldOrderSpec) :=
  OpenClaim.holds_of_wide 8 Try.f8 rfl rfl rfl rfl rfl rfl rfl ⟨rfl, rfl, rfl, rfl, rfl⟩ rfl rfl rfl rfl rfl (by kernel_rfl) Try.func8 (by kernel_rfl)
    (of_decide_eq_true (by kernel_rfl)) (by unfold Func.isWrapper; first | (rw [if_pos (by decide +kernel)]; kernel_rfl) | (rw [if_neg (by decide +kernel)]; exact ⟨rfl, rfl⟩))
    (fun os started H enc _ => order7_lifted os started H enc)

/-- The given statement. -/
theorem order7_holds : Rows.FieldOrderSaid := order7_over
#print axioms order7_holds

end Go.Proofs.Ytpjonhfphfkdiaa
