/-
  KeysNames returns true, when the package's tables hold what the program's text lays. Conditions: none.
-/
import Derived.Test.YtofjpeplgagihaaDoorNames11
import Derived.Test.YtofjpeplgagihaaDoorOpen11
import Derived.Test.YtofjpeplgagihaaDoorGO1
import Derived.SevenTiedAt
namespace Go.Proofs.YtofjpeplgagihaaDoor
open Go.ChangeShapes Go.WideShapes Go.ChangeAt Go.RowKit Go.Joins

set_option maxRecDepth 100000 in
theorem names11_walk : LawWalkT 3 Tryd.f3 := by
  intro H enc W base args ds ps hval hA hL
  rw [Tryd.params3] at hA hval
  obtain rfl : args = #[] := by
    obtain ⟨e, _, _⟩ := trodAll_nil hA
    cases args; simp_all
  exact names11_is W (Lib.hid hL)
theorem names11_lifted (os : Os) (started : os.Started) (H : Type) (enc : TypeId × Value → H) :
    ReturnsInHanded {} Tryd.checked os 3 .any (fun w args => (Rows.keysNamesSpec.pre enc Tryd.prog Tryd.f3 [] false w args ∧ laidMetH Tryd.prog laidL w) ∧ sizedMet enc Tryd.prog Tryd.f3 (OpenSpec.ofChange Rows.keysNamesSpec) false w args)
      (Rows.keysNamesSpec.post enc Tryd.prog Tryd.f3 false true false false) :=
  lawT_lifted (tb := 4) started (by kernel_rfl) Tryd.func3
    (ChangeSpec.witness_shaped (enc := enc) (C := Tryd.checked) (os := os) (X := fun w _ => laidMetH Tryd.prog laidL w) false (World.doorLaid Tryd.prog 400 os) #[] 8 rfl (World.shaped_of_RefB (by kernel_rfl) (by kernel_rfl)) (by kernel_rfl) (by kernel_rfl) (by kernel_rfl) (door_met os _))
    (by rw [show Tryd.f3.params = _ from Tryd.params3]; decide +kernel) (by kernel_rfl) Tryd.underlying4 rfl
    (fun ds hl => by
      rw [show Tryd.f3.params = _ from Tryd.params3] at hl
      match ds, hl with
      | [], _ => rfl) names11_walk
theorem names11_over : Rows.KeysNamesSaid :=
  OpenClaim.holds_of_wide 3 Tryd.f3 rfl rfl rfl rfl rfl rfl rfl ⟨rfl, rfl, rfl, rfl, rfl⟩ rfl rfl rfl rfl rfl (by kernel_rfl) Tryd.func3 (by kernel_rfl)
    (of_decide_eq_true (by kernel_rfl)) (by unfold Func.isWrapper; first | (rw [if_pos (by decide +kernel)]; kernel_rfl) | (rw [if_neg (by decide +kernel)]; exact ⟨rfl, rfl⟩))
    (fun os started H enc _ => names11_lifted os started H enc)

/-- The given statement. -/
theorem names11_holds : Rows.KeysNamesCardSaid :=
  Claim7.holds_tied_plain_at .later [] [.data, .data] true _ false
    names11_over (fun _ h => by cases h) (by kernel_rfl) (fun _ h => by cases h) keysNames_row_tie rfl ⟨rfl, rfl⟩ (by kernel_rfl) rfl
    (fun f fn hf hfn => by
      obtain rfl : f = 3 := Option.some.inj ((show Tryd.prog.funcNamed "spigot/spigotlaw11.KeysNames" = some 3 by kernel_rfl).symm.trans hf) |>.symm
      obtain rfl : fn = Tryd.f3 := (Option.some.inj (Tryd.func3.symm.trans hfn)).symm
      exact ⟨by kernel_rfl, fun j t ht => by
        rw [Tryd.params3] at ht
        simp at ht⟩)
    (by kernel_rfl)
#print axioms names11_holds

end Go.Proofs.YtofjpeplgagihaaDoor
