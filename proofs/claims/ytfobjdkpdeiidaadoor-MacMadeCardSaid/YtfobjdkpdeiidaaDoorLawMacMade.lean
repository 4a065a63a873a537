/-
  For any key and bytes MacMade returns true and leaves its arguments as they were, when the package's tables hold what the program's text lays. Conditions: none.
-/
import Derived.Test.YtfobjdkpdeiidaaDoorMade06
import Derived.Test.YtfobjdkpdeiidaaDoorOpen05
import Derived.SevenTiedAt
namespace Go.Proofs.YtfobjdkpdeiidaaDoor
open Go.ChangeShapes Go.WideShapes Go.ChangeAt Go.RowKit Go.Joins

set_option maxRecDepth 100000 in
theorem made6_walk : LawWalkT 5 Tryd.f5 := by
  intro H enc W base args ds ps hval hA hL
  rw [Tryd.params5] at hA hval
  obtain ⟨v0, vs0, d0, ds0, p0, q0, hargs, rfl, rfl, h0, r0⟩ := trodAll_cons hA
  obtain ⟨v1, vs1, d1, ds1, p1, q1, rfl, rfl, rfl, h1, r1⟩ := trodAll_cons r0
  obtain ⟨rfl, rfl, rfl⟩ := trodAll_nil r1
  obtain rfl : args = #[v0, v1] := by cases args; simp_all
  obtain ⟨a0, c0, xs0, rfl, hi0, hb0⟩ := open_bytes (hval 0 _ v0 rfl rfl) h0
  obtain ⟨a1, c1, xs1, rfl, hi1, hb1⟩ := open_bytes (hval 1 _ v1 rfl rfl) h1
  exact made6_any hi0 hi1 hb0 hb1 hL
theorem made6_lifted (os : Os) (started : os.Started) (H : Type) (enc : TypeId × Value → H) :
    ReturnsInHanded {} Tryd.checked os 5 .any (fun w args => (Rows.macMadeSpec.pre enc Tryd.prog Tryd.f5 [] false w args ∧ laidMetH Tryd.prog laidL w) ∧ sizedMet enc Tryd.prog Tryd.f5 (OpenSpec.ofChange Rows.macMadeSpec) false w args)
      (Rows.macMadeSpec.post enc Tryd.prog Tryd.f5 false true false false) :=
  lawT_lifted (tb := 4) started (by kernel_rfl) Tryd.func5
    (ChangeSpec.witness_shaped (enc := enc) (C := Tryd.checked) (os := os) (X := fun w _ => laidMetH Tryd.prog laidL w) false (World.doorLaid Tryd.prog 400 os) #[(.slice none 0 0), (.slice none 0 0)] 8 rfl (World.shaped_of_RefB (by kernel_rfl) (by kernel_rfl)) (by kernel_rfl) (by kernel_rfl) (by kernel_rfl) (door_met os _))
    (by rw [show Tryd.f5.params = _ from Tryd.params5]; decide +kernel) (by kernel_rfl) Tryd.underlying4 rfl
    (fun ds hl => by
      rw [show Tryd.f5.params = _ from Tryd.params5] at hl
      match ds, hl with
      | [_, _], _ => rfl) made6_walk
theorem made6_over : Rows.MacMadeSaid :=
  OpenClaim.holds_of_wide 5 Tryd.f5 rfl rfl rfl rfl rfl rfl rfl ⟨rfl, rfl, rfl, rfl, rfl⟩ rfl rfl rfl rfl rfl (by kernel_rfl) Tryd.func5 (by kernel_rfl)
    (of_decide_eq_true (by kernel_rfl)) (by unfold Func.isWrapper; first | (rw [if_pos (by decide +kernel)]; kernel_rfl) | (rw [if_neg (by decide +kernel)]; exact ⟨rfl, rfl⟩))
    (fun os started H enc _ => made6_lifted os started H enc)

/-- The given statement. -/
theorem made6_holds : Rows.MacMadeCardSaid :=
  Claim7.holds_tied_plain_at .later [] [.data, .data] true _ false
    made6_over (fun _ h => by cases h) (by kernel_rfl) (fun _ h => by cases h) macMade_row_tie rfl ⟨rfl, rfl⟩ (by kernel_rfl) rfl
    (fun f fn hf hfn => by
      obtain rfl : f = 5 := Option.some.inj ((show Tryd.prog.funcNamed "spigot/spigotlaw06.MacMade" = some 5 by kernel_rfl).symm.trans hf) |>.symm
      obtain rfl : fn = Tryd.f5 := (Option.some.inj (Tryd.func5.symm.trans hfn)).symm
      exact ⟨by kernel_rfl, fun j t ht => by
        rw [Tryd.params5] at ht
        have hm : t ∈ [23, 23] := by simpa using Array.mem_of_getElem? ht
        have hall : ([23, 23].all fun u => !Tryd.prog.wantsStandIn u) = true := by kernel_rfl
        exact (show Tryd.prog.wantsStandIn t = false by simpa using List.all_eq_true.1 hall t hm)⟩)
    (by kernel_rfl)
#print axioms made6_holds

end Go.Proofs.YtfobjdkpdeiidaaDoor
