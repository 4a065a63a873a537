/-
  For any two ticks and any two lists of ticks ClockTicks returns true and leaves its arguments as they were. Conditions: none.
-/
import Derived.Test.YtdalbngfhinadaaTicks
import Derived.Test.YtdalbngfhinadaaLaw02
namespace Go.Proofs.Ytdalbngfhinadaa
open Go.ChangeShapes Go.WideShapes Go.ChangeAt Go.RowKit Go.Joins

theorem ticks_walk : LawWalk Try.prog 5 Try.f5 := by
  intro H enc W base args ds ps hval hA _ _
  rw [Try.params5] at hA hval
  obtain ⟨v0, vs0, d0, ds0, p0, q0, hargs, rfl, rfl, h0, r0⟩ := trodAll_cons hA
  obtain ⟨v1, vs1, d1, ds1, p1, q1, rfl, rfl, rfl, h1, r1⟩ := trodAll_cons r0
  obtain ⟨v2, vs2, d2, ds2, p2, q2, rfl, rfl, rfl, h2, r2⟩ := trodAll_cons r1
  obtain ⟨v3, vs3, d3, ds3, p3, q3, rfl, rfl, rfl, h3, r3⟩ := trodAll_cons r2
  obtain ⟨rfl, rfl, rfl⟩ := trodAll_nil r3
  obtain rfl : args = #[v0, v1, v2, v3] := by cases args; simp_all
  obtain ⟨x, rfl, hx⟩ := open_tick (hval 0 _ v0 rfl rfl) h0
  obtain ⟨y, rfl, hy⟩ := open_tick (hval 1 _ v1 rfl rfl) h1
  obtain ⟨axs, cxs, xs, rfl, ixs, txs⟩ := open_list (hval 2 _ v2 rfl rfl) h2
  obtain ⟨ays, cys, ys, rfl, iys, tys⟩ := open_list (hval 3 _ v3 rfl rfl) h3
  exact ticks_all x y xs ys axs ays cxs cys W hx hy ixs iys

set_option maxRecDepth 100000 in
theorem ticks_lifted (os : Os) (started : os.Started) (H : Type) (enc : TypeId × Value → H) :
    ReturnsInHanded {} Try.checked os 5 .any (Rows.clockTicksSpec.pre6 enc Try.prog Try.f5 Rows.clockTicksRow.domain false) (Rows.clockTicksSpec.post enc Try.prog Try.f5 false true false false) :=
  law_lifted (C := Try.checked) (s := Rows.clockTicksSpec) (conds := Rows.clockTicksRow.domain) (tb := 4) own laidOut started (by kernel_rfl) Try.func5
    (ChangeSpec.witness6 (enc := enc) (C := Try.checked) false ⟨#[], #[(.int .u64 0), (.int .u64 0), (.slice none 0 0), (.slice none 0 0)], []⟩ 8 (by kernel_rfl) (by kernel_rfl) (by kernel_rfl) (by kernel_rfl))
    (by rw [show Try.f5.params = _ from Try.params5]; decide +kernel) (by kernel_rfl) Try.underlying4 rfl
    (fun ds hl => by
      rw [show Try.f5.params = _ from Try.params5] at hl
      match ds, hl with
      | [_, _, _, _], _ => rfl) ticks_walk

set_option maxRecDepth 100000 in
theorem ticks_over : Rows.clockTicksRow.holds Try.pinned (OpenSpec.ofChange Rows.clockTicksSpec) :=
  OpenClaim.holds_of_wide 5 Try.f5 rfl rfl rfl rfl rfl rfl rfl ⟨rfl, rfl, rfl, rfl, rfl⟩ rfl rfl rfl rfl rfl (by kernel_rfl) Try.func5 (by kernel_rfl)
    (of_decide_eq_true (by kernel_rfl)) (by unfold Func.isWrapper; first | (rw [if_pos (by decide +kernel)]; kernel_rfl) | (rw [if_neg (by decide +kernel)]; exact ⟨rfl, rfl⟩))
    (fun os started H enc _ => ticks_lifted os started H enc)

/-- The given statement. -/
theorem ticks_holds : Rows.ClockTicksSaid := ticks_over
#print axioms ticks_holds

end Go.Proofs.Ytdalbngfhinadaa
