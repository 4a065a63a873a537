/-
  The arguments of the statements of layer 2, opened: ticks, lists of ticks, an index.
-/
import Derived.Test.YtdalbngfhinadaaList02
import Derived.Test.YtdalbngfhinadaaKit
namespace Go.Proofs.Ytdalbngfhinadaa
open Go.ChangeShapes Go.WideShapes Go.ChangeAt Go.RowKit Go.Joins

theorem open_tick {H : Type} {enc : TypeId × Value → H} {W : World} {r : Reach} {b0 base : Nat} {sp : Nat → Bool} {held : Bool} {v : Value} {d : DataW H} {p : List MemPlace}
    (hv : Value.okWide Try.prog W r b0 26 v) (h : DataW.Trod enc Try.prog W base sp held 26 v d p) :
    ∃ x : Int, v = .int .u64 x ∧ tick x := by
  obtain ⟨a, rfl, _, _, wa⟩ := open_int Try.underlying26 hv h
  refine ⟨a, rfl, ?_⟩
  have := bounds_u64 wa
  unfold tick
  omega
theorem open_idx {H : Type} {enc : TypeId × Value → H} {W : World} {r : Reach} {b0 base : Nat} {sp : Nat → Bool} {held : Bool} {v : Value} {d : DataW H} {p : List MemPlace}
    (hv : Value.okWide Try.prog W r b0 3 v) (h : DataW.Trod enc Try.prog W base sp held 3 v d p) :
    ∃ x : Int, v = .int .i64 x ∧ -9223372036854775808 ≤ x ∧ x ≤ 9223372036854775807 := by
  obtain ⟨a, rfl, _, _, wa⟩ := open_int Try.underlying3 hv h
  exact ⟨a, rfl, by have := bounds_i64 wa; omega, by have := bounds_i64 wa; omega⟩
theorem open_list {H : Type} {enc : TypeId × Value → H} {W : World} {r : Reach} {b0 : Nat} {v : Value} {d : DataW H} {p : List MemPlace}
    (hv : Value.okWide Try.prog W r b0 22 v) (h : DataW.Trod enc Try.prog W 0 (fun _ => true) true 22 v d p) :
    ∃ (at0 : Option Addr) (cap : Nat) (xs : List Int), v = .slice at0 xs.length cap ∧ IsL W .u64 (.slice at0 xs.length cap) xs ∧ (∀ x ∈ xs, tick x) := by
  obtain ⟨a, len, cap, rfl⟩ := okWide_slice Try.underlying22 hv
  obtain ⟨at0, cap', xs, e, hi, hw⟩ := open_ints_any Try.underlying22 Try.underlying26 (by kernel_rfl) hv h
  injection e with e1 e2 e3
  subst e1 e2 e3
  refine ⟨a, cap, xs, rfl, ⟨a, cap, rfl, hi, fun q => ?_⟩, fun x hx => ?_⟩
  · obtain ⟨fuel, hf⟩ := h
    subst q
    rcases open_ints Try.underlying22 Try.underlying26 (by kernel_rfl) (cs := [.slice none xs.length cap]) hf with ⟨hcs, _⟩ | ⟨ad, len', cap', zs, hcs, _⟩
    · simp at hcs
      exact hcs.2
    · simp at hcs
  · have := bounds_u64 (hw x hx)
    unfold tick
    omega

end Go.Proofs.Ytdalbngfhinadaa
