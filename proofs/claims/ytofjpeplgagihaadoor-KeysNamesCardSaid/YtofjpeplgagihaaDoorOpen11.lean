/-
  The arguments of the statements of layer 11, opened: numbers of 16 and 32 bits, commands and frames.
-/
import Derived.Test.YtofjpeplgagihaaDoorGO1
import Derived.Test.YtofjpeplgagihaaDoorGX1
import Derived.Test.YtofjpeplgagihaaDoorKyMath
namespace Go.Proofs.YtofjpeplgagihaaDoor
open Go.ChangeShapes Go.WideShapes Go.ChangeAt Go.RowKit Go.Joins

set_option maxRecDepth 100000 in
theorem open_u11 {H : Type} {enc : TypeId × Value → H} {W : World} {r : Reach} {b0 base : Nat} {sp : Nat → Bool} {held : Bool} {v : Value} {d : DataW H} {p : List MemPlace} (hw : Value.okWide Tryd.prog W r b0 27 v) (h : DataW.Trod enc Tryd.prog W base sp held 27 v d p) : ∃ x : Int, v = .int .u32 x ∧ 0 ≤ x ∧ x ≤ 4294967295 := by
  obtain ⟨a, rfl, _, _, wa⟩ := open_int Tryd.underlying27 hw h
  exact ⟨a, rfl, b32 wa⟩
set_option maxRecDepth 100000 in
theorem open_s11 {H : Type} {enc : TypeId × Value → H} {W : World} {r : Reach} {b0 base : Nat} {sp : Nat → Bool} {held : Bool} {v : Value} {d : DataW H} {p : List MemPlace} (hw : Value.okWide Tryd.prog W r b0 42 v) (h : DataW.Trod enc Tryd.prog W base sp held 42 v d p) : ∃ x : Int, v = .int .u16 x ∧ 0 ≤ x ∧ x ≤ 65535 := by
  obtain ⟨a, rfl, _, _, wa⟩ := open_int Tryd.underlying42 hw h
  exact ⟨a, rfl, b16 wa⟩

end Go.Proofs.YtofjpeplgagihaaDoor
