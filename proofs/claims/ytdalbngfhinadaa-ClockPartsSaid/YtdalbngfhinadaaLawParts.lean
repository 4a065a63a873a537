/-
  For any clock, any list of readings and any index ClockParts returns true and leaves its arguments as they were. Conditions: none.
-/
import Derived.Test.YtdalbngfhinadaaParts
import Derived.Test.YtdalbngfhinadaaLaw02
namespace Go.Proofs.Ytdalbngfhinadaa
open Go.ChangeShapes Go.WideShapes Go.ChangeAt Go.RowKit Go.Joins

theorem parts_any (now : Int) (xs : List Int) (at0 : Option Addr) (cap : Nat) (at1 : Int) (w : World) (hi : IsL w .u64 (.slice at0 xs.length cap) xs) :
    Calls Try.prog 7 #[.int .u64 now, .slice at0 xs.length cap, .int .i64 at1] w fun e w' => e = .returned (.bool true) ∧ Below w.heap.size w w' := by
  rcases Nat.lt_or_ge 40 xs.length with q | q
  · exact parts_long now xs at0 cap at1 w hi q
  · rcases Int.lt_or_le at1 0 with a | a
    · exact parts_neg now xs at0 cap at1 w hi q a
    · rcases Int.lt_or_le (xs.length : Int) at1 with b | b
      · exact parts_far now xs at0 cap at1 w hi q a b
      · obtain ⟨m, rfl⟩ : ∃ m : Nat, at1 = (m : Int) := ⟨at1.toNat, by omega⟩
        cases m with
        | zero =>
          cases hr : risB ([now] ++ xs) with
          | true => exact parts_zr now xs at0 cap w hi q hr
          | false => exact parts_zf now xs at0 cap w hi q hr
        | succ m =>
          by_cases hc : cap = m + 1
          · cases hr : risB ([now] ++ xs) with
            | true => exact parts_qr now xs at0 cap w hi m (by omega) hc q hr
            | false => exact parts_qf now xs at0 cap w hi m (by omega) hc q hr
          · cases hr : risB ([now] ++ xs) with
            | true => exact parts_pr now xs at0 cap w hi m (by omega) hc q hr
            | false => exact parts_pf now xs at0 cap w hi m (by omega) hc q hr

theorem parts_walk : LawWalk Try.prog 7 Try.f7 := by
  intro H enc W base args ds ps hval hA _ _
  rw [Try.params7] at hA hval
  obtain ⟨v0, vs0, d0, ds0, p0, q0, hargs, rfl, rfl, h0, r0⟩ := trodAll_cons hA
  obtain ⟨v1, vs1, d1, ds1, p1, q1, rfl, rfl, rfl, h1, r1⟩ := trodAll_cons r0
  obtain ⟨v2, vs2, d2, ds2, p2, q2, rfl, rfl, rfl, h2, r2⟩ := trodAll_cons r1
  obtain ⟨rfl, rfl, rfl⟩ := trodAll_nil r2
  obtain rfl : args = #[v0, v1, v2] := by cases args; simp_all
  obtain ⟨now, rfl, hnow⟩ := open_tick (hval 0 _ v0 rfl rfl) h0
  obtain ⟨axs, cxs, xs, rfl, ixs, txs⟩ := open_list (hval 1 _ v1 rfl rfl) h1
  obtain ⟨k, rfl, hk, gk⟩ := open_idx (hval 2 _ v2 rfl rfl) h2
  exact parts_any now xs axs cxs k W ixs

set_option maxRecDepth 100000 in
theorem parts_lifted (os : Os) (started : os.Started) (H : Type) (enc : TypeId × Value → H) :
    ReturnsInHanded {} Try.checked os 7 .any (Rows.clockPartsSpec.pre6 enc Try.prog Try.f7 Rows.clockPartsRow.domain false) (Rows.clockPartsSpec.post enc Try.prog Try.f7 false true false false) :=
  law_lifted (C := Try.checked) (s := Rows.clockPartsSpec) (conds := Rows.clockPartsRow.domain) (tb := 4) own laidOut started (by kernel_rfl) Try.func7
    (ChangeSpec.witness6 (enc := enc) (C := Try.checked) false ⟨#[], #[(.int .u64 0), (.slice none 0 0), (.int .i64 0)], []⟩ 8 (by kernel_rfl) (by kernel_rfl) (by kernel_rfl) (by kernel_rfl))
    (by rw [show Try.f7.params = _ from Try.params7]; decide +kernel) (by kernel_rfl) Try.underlying4 rfl
    (fun ds hl => by
      rw [show Try.f7.params = _ from Try.params7] at hl
      match ds, hl with
      | [_, _, _], _ => rfl) parts_walk

set_option maxRecDepth 100000 in
theorem parts_over : Rows.clockPartsRow.holds Try.pinned (OpenSpec.ofChange Rows.clockPartsSpec) :=
  OpenClaim.holds_of_wide 7 Try.f7 rfl rfl rfl rfl rfl rfl rfl ⟨rfl, rfl, rfl, rfl, rfl⟩ rfl rfl rfl rfl rfl (by kernel_rfl) Try.func7 (by kernel_rfl)
    (of_decide_eq_true (by kernel_rfl)) (by unfold Func.isWrapper; first | (rw [if_pos (by decide +kernel)]; kernel_rfl) | (rw [if_neg (by decide +kernel)]; exact ⟨rfl, rfl⟩))
    (fun os started H enc _ => parts_lifted os started H enc)

/-- The given statement. -/
theorem parts_holds : Rows.ClockPartsSaid := parts_over
#print axioms parts_holds

end Go.Proofs.Ytdalbngfhinadaa
