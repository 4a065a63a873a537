/-
  For any clock and any list of readings ClockNever returns true and leaves its arguments as they were. Conditions: none.
-/
import Derived.Test.YtdalbngfhinadaaNever
import Derived.Test.YtdalbngfhinadaaLaw02
namespace Go.Proofs.Ytdalbngfhinadaa
open Go.ChangeShapes Go.WideShapes Go.ChangeAt Go.RowKit Go.Joins

theorem never_any (now : Int) (xs : List Int) (at0 : Option Addr) (cap : Nat) (w : World) (hi : IsL w .u64 (.slice at0 xs.length cap) xs) :
    Calls Try.prog 6 #[.int .u64 now, .slice at0 xs.length cap] w fun e w' => e = .returned (.bool true) ∧ Below w.heap.size w w' := by
  rcases Nat.lt_or_ge 40 xs.length with q | q
  · exact never_long now xs at0 cap w q
  · exact never_short now xs at0 cap w hi q

theorem never_walk : LawWalk Try.prog 6 Try.f6 := by
  intro H enc W base args ds ps hval hA _ _
  rw [Try.params6] at hA hval
  obtain ⟨v0, vs0, d0, ds0, p0, q0, hargs, rfl, rfl, h0, r0⟩ := trodAll_cons hA
  obtain ⟨v1, vs1, d1, ds1, p1, q1, rfl, rfl, rfl, h1, r1⟩ := trodAll_cons r0
  obtain ⟨rfl, rfl, rfl⟩ := trodAll_nil r1
  obtain rfl : args = #[v0, v1] := by cases args; simp_all
  obtain ⟨now, rfl, hnow⟩ := open_tick (hval 0 _ v0 rfl rfl) h0
  obtain ⟨axs, cxs, xs, rfl, ixs, txs⟩ := open_list (hval 1 _ v1 rfl rfl) h1
  exact never_any now xs axs cxs W ixs

set_option maxRecDepth 100000 in
theorem never_lifted (os : Os) (started : os.Started) (H : Type) (enc : TypeId × Value → H) :
    ReturnsInHanded {} Try.checked os 6 .any (Rows.clockNeverSpec.pre6 enc Try.prog Try.f6 Rows.clockNeverRow.domain false) (Rows.clockNeverSpec.post enc Try.prog Try.f6 false true false false) :=
  law_lifted (C := Try.checked) (s := Rows.clockNeverSpec) (conds := Rows.clockNeverRow.domain) (tb := 4) own laidOut started (by kernel_rfl) Try.func6
    (ChangeSpec.witness6 (enc := enc) (C := Try.checked) false ⟨#[], #[(.int .u64 0), (.slice none 0 0)], []⟩ 8 (by kernel_rfl) (by kernel_rfl) (by kernel_rfl) (by kernel_rfl))
    (by rw [show Try.f6.params = _ from Try.params6]; decide +kernel) (by kernel_rfl) Try.underlying4 rfl
    (fun ds hl => by
      rw [show Try.f6.params = _ from Try.params6] at hl
      match ds, hl with
      | [_, _], _ => rfl) never_walk

set_option maxRecDepth 100000 in
theorem never_over : Rows.clockNeverRow.holds Try.pinned (OpenSpec.ofChange Rows.clockNeverSpec) :=
  OpenClaim.holds_of_wide 6 Try.f6 rfl rfl rfl rfl rfl rfl rfl ⟨rfl, rfl, rfl, rfl, rfl⟩ rfl rfl rfl rfl rfl (by kernel_rfl) Try.func6 (by kernel_rfl)
    (of_decide_eq_true (by kernel_rfl)) (by unfold Func.isWrapper; first | (rw [if_pos (by decide +kernel)]; kernel_rfl) | (rw [if_neg (by decide +kernel)]; exact ⟨rfl, rfl⟩))
    (fun os started H enc _ => never_lifted os started H enc)

/-- The given statement. -/
theorem never_holds : Rows.ClockNeverSaid := never_over
#print axioms never_holds

end Go.Proofs.Ytdalbngfhinadaa
