/-
  For any two lists of bytes, index and number MacLooks returns true and leaves its arguments as they were, when the package's tables hold what the program's text lays. Conditions: none.
-/
import Derived.Test.YtfobjdkpdeiidaaDoorLooks06
import Derived.Test.YtfobjdkpdeiidaaDoorOpen05
import Derived.SevenTiedAt
namespace Go.Proofs.YtfobjdkpdeiidaaDoor
open Go.ChangeShapes Go.WideShapes Go.ChangeAt Go.RowKit Go.Joins

set_option maxRecDepth 100000 in
theorem looks6_walk : LawWalkT 7 Tryd.f7 := by
  intro H enc W base args ds ps hval hA hL
  rw [Tryd.params7] at hA hval
  obtain ⟨v0, vs0, d0, ds0, p0, q0, hargs, rfl, rfl, h0, r0⟩ := trodAll_cons hA
  obtain ⟨v1, vs1, d1, ds1, p1, q1, rfl, rfl, rfl, h1, r1⟩ := trodAll_cons r0
  obtain ⟨v2, vs2, d2, ds2, p2, q2, rfl, rfl, rfl, h2, r2⟩ := trodAll_cons r1
  obtain ⟨v3, vs3, d3, ds3, p3, q3, rfl, rfl, rfl, h3, r3⟩ := trodAll_cons r2
  obtain ⟨rfl, rfl, rfl⟩ := trodAll_nil r3
  obtain rfl : args = #[v0, v1, v2, v3] := by cases args; simp_all
  obtain ⟨a0, c0, xs0, rfl, hi0, hb0⟩ := open_bytes (hval 0 _ v0 rfl rfl) h0
  obtain ⟨a1, c1, xs1, rfl, hi1, hb1⟩ := open_bytes (hval 1 _ v1 rfl rfl) h1
  obtain ⟨n2, rfl, hn2, hm2⟩ := open_n (hval 2 _ v2 rfl rfl) h2
  obtain ⟨n3, rfl, hn3, hm3⟩ := open_byte (hval 3 _ v3 rfl rfl) h3
  exact looks6_any hi0 hi1 hb0 hn3 hm3 hL
theorem looks6_lifted (os : Os) (started : os.Started) (H : Type) (enc : TypeId × Value → H) :
    ReturnsInHanded {} Tryd.checked os 7 .any (fun w args => (Rows.macLooksSpec.pre enc Tryd.prog Tryd.f7 [] false w args ∧ laidMetH Tryd.prog laidL w) ∧ sizedMet enc Tryd.prog Tryd.f7 (OpenSpec.ofChange Rows.macLooksSpec) false w args)
      (Rows.macLooksSpec.post enc Tryd.prog Tryd.f7 false true false false) :=
  lawT_lifted (tb := 4) started (by kernel_rfl) Tryd.func7
    (ChangeSpec.witness_shaped (enc := enc) (C := Tryd.checked) (os := os) (X := fun w _ => laidMetH Tryd.prog laidL w) false (World.doorLaid Tryd.prog 400 os) #[(.slice none 0 0), (.slice none 0 0), (.int .i64 0), (.int .u8 0)] 8 rfl (World.shaped_of_RefB (by kernel_rfl) (by kernel_rfl)) (by kernel_rfl) (by kernel_rfl) (by kernel_rfl) (door_met os _))
    (by rw [show Tryd.f7.params = _ from Tryd.params7]; decide +kernel) (by kernel_rfl) Tryd.underlying4 rfl
    (fun ds hl => by
      rw [show Tryd.f7.params = _ from Tryd.params7] at hl
      match ds, hl with
      | [_, _, _, _], _ => rfl) looks6_walk
theorem looks6_over : Rows.MacLooksSaid :=
  OpenClaim.holds_of_wide 7 Tryd.f7 rfl rfl rfl rfl rfl rfl rfl ⟨rfl, rfl, rfl, rfl, rfl⟩ rfl rfl rfl rfl rfl (by kernel_rfl) Tryd.func7 (by kernel_rfl)
    (of_decide_eq_true (by kernel_rfl)) (by unfold Func.isWrapper; first | (rw [if_pos (by decide +kernel)]; kernel_rfl) | (rw [if_neg (by decide +kernel)]; exact ⟨rfl, rfl⟩))
    (fun os started H enc _ => looks6_lifted os started H enc)

/-- The given statement. -/
theorem looks6_holds : Rows.MacLooksCardSaid :=
  Claim7.holds_tied_plain_at .later [] [.data, .data] true _ false
    looks6_over (fun _ h => by cases h) (by kernel_rfl) (fun _ h => by cases h) macLooks_row_tie rfl ⟨rfl, rfl⟩ (by kernel_rfl) rfl
    (fun f fn hf hfn => by
      obtain rfl : f = 7 := Option.some.inj ((show Tryd.prog.funcNamed "spigot/spigotlaw06.MacLooks" = some 7 by kernel_rfl).symm.trans hf) |>.symm
      obtain rfl : fn = Tryd.f7 := (Option.some.inj (Tryd.func7.symm.trans hfn)).symm
      exact ⟨by kernel_rfl, fun j t ht => by
        rw [Tryd.params7] at ht
        have hm : t ∈ [23, 23, 3, 5] := by simpa using Array.mem_of_getElem? ht
        have hall : ([23, 23, 3, 5].all fun u => !Tryd.prog.wantsStandIn u) = true := by kernel_rfl
        exact (show Tryd.prog.wantsStandIn t = false by simpa using List.all_eq_true.1 hall t hm)⟩)
    (by kernel_rfl)
#print axioms looks6_holds

end Go.Proofs.YtfobjdkpdeiidaaDoor
