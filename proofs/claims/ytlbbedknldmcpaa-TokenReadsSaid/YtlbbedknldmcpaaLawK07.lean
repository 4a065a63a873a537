/-
  Numbers that came in, opened.
-/
import Derived.Test.YtlbbedknldmcpaaFldRow
namespace Go.Proofs.Ytlbbedknldmcpaa
open Go.ChangeShapes Go.WideShapes Go.ChangeAt Go.RowKit Go.Joins

section
variable {H : Type} {enc : TypeId × Value → H} {W : World} {r : Reach} {b0 base : Nat} {sp : Nat → Bool} {held : Bool} {v : Value} {d : DataW H} {p : List MemPlace}
theorem open_y8 (hw : Value.okWide Try.prog W r b0 5 v) (h : DataW.Trod enc Try.prog W base sp held 5 v d p) : ∃ x : Int, v = .int .u8 x ∧ 0 ≤ x ∧ x ≤ 255 := by
  obtain ⟨a, rfl, _, _, wa⟩ := open_int Try.underlying5 hw h
  exact ⟨a, rfl, bounds_u8 wa⟩
theorem open_q64 (hw : Value.okWide Try.prog W r b0 23 v) (h : DataW.Trod enc Try.prog W base sp held 23 v d p) : ∃ x : Int, v = .int .u64 x ∧ 0 ≤ x ∧ x ≤ 18446744073709551615 := by
  obtain ⟨a, rfl, _, _, wa⟩ := open_int Try.underlying23 hw h
  exact ⟨a, rfl, bounds_u64 wa⟩
end

end Go.Proofs.Ytlbbedknldmcpaa
