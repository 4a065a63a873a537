/-
  For any clock, any reading and any list of readings ClockClamps returns true and leaves its arguments as they were. Conditions: none.
-/
import Derived.Test.YtdalbngfhinadaaClampsL
import Derived.Test.YtdalbngfhinadaaLaw02
namespace Go.Proofs.Ytdalbngfhinadaa
open Go.ChangeShapes Go.WideShapes Go.ChangeAt Go.RowKit Go.Joins

theorem clampsl_any (now r : Int) (xs : List Int) (at0 : Option Addr) (cap : Nat) (w : World) (hi : IsL w .u64 (.slice at0 xs.length cap) xs) :
    Calls Try.prog 4 #[.int .u64 now, .int .u64 r, .slice at0 xs.length cap] w fun e w' => e = .returned (.bool true) ∧ Below w.heap.size w w' := by
  cases h : longB xs.length with
  | true => exact clampsl_long now r xs at0 cap w hi h
  | false => exact clampsl_short now r xs at0 cap w hi h

theorem clampsl_walk : LawWalk Try.prog 4 Try.f4 := by
  intro H enc W base args ds ps hval hA _ _
  rw [Try.params4] at hA hval
  obtain ⟨v0, vs0, d0, ds0, p0, q0, hargs, rfl, rfl, h0, r0⟩ := trodAll_cons hA
  obtain ⟨v1, vs1, d1, ds1, p1, q1, rfl, rfl, rfl, h1, r1⟩ := trodAll_cons r0
  obtain ⟨v2, vs2, d2, ds2, p2, q2, rfl, rfl, rfl, h2, r2⟩ := trodAll_cons r1
  obtain ⟨rfl, rfl, rfl⟩ := trodAll_nil r2
  obtain rfl : args = #[v0, v1, v2] := by cases args; simp_all
  obtain ⟨now, rfl, hnow⟩ := open_tick (hval 0 _ v0 rfl rfl) h0
  obtain ⟨r, rfl, hr⟩ := open_tick (hval 1 _ v1 rfl rfl) h1
  obtain ⟨axs, cxs, xs, rfl, ixs, txs⟩ := open_list (hval 2 _ v2 rfl rfl) h2
  exact clampsl_any now r xs axs cxs W ixs

set_option maxRecDepth 100000 in
theorem clampsl_lifted (os : Os) (started : os.Started) (H : Type) (enc : TypeId × Value → H) :
    ReturnsInHanded {} Try.checked os 4 .any (Rows.clockClampsSpec.pre6 enc Try.prog Try.f4 Rows.clockClampsRow.domain false) (Rows.clockClampsSpec.post enc Try.prog Try.f4 false true false false) :=
  law_lifted (C := Try.checked) (s := Rows.clockClampsSpec) (conds := Rows.clockClampsRow.domain) (tb := 4) own laidOut started (by kernel_rfl) Try.func4
    (ChangeSpec.witness6 (enc := enc) (C := Try.checked) false ⟨#[], #[(.int .u64 0), (.int .u64 0), (.slice none 0 0)], []⟩ 8 (by kernel_rfl) (by kernel_rfl) (by kernel_rfl) (by kernel_rfl))
    (by rw [show Try.f4.params = _ from Try.params4]; decide +kernel) (by kernel_rfl) Try.underlying4 rfl
    (fun ds hl => by
      rw [show Try.f4.params = _ from Try.params4] at hl
      match ds, hl with
      | [_, _, _], _ => rfl) clampsl_walk

set_option maxRecDepth 100000 in
theorem clampsl_over : Rows.clockClampsRow.holds Try.pinned (OpenSpec.ofChange Rows.clockClampsSpec) :=
  OpenClaim.holds_of_wide 4 Try.f4 rfl rfl rfl rfl rfl rfl rfl ⟨rfl, rfl, rfl, rfl, rfl⟩ rfl rfl rfl rfl rfl (by kernel_rfl) Try.func4 (by kernel_rfl)
    (of_decide_eq_true (by kernel_rfl)) (by unfold Func.isWrapper; first | (rw [if_pos (by decide +kernel)]; kernel_rfl) | (rw [if_neg (by decide +kernel)]; exact ⟨rfl, rfl⟩))
    (fun os started H enc _ => clampsl_lifted os started H enc)

/-- The given statement. -/
theorem clampsl_holds : Rows.ClockClampsSaid := clampsl_over
#print axioms clampsl_holds

end Go.Proofs.Ytdalbngfhinadaa
