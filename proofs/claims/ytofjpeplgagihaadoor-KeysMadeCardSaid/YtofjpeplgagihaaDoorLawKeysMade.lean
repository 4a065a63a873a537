/-
  For any seed, tenant, user, epoch, expiry and command KeysMade returns true and leaves its arguments as they were, when the package's tables hold what the program's text lays. Conditions: none.
-/
import Derived.Test.YtofjpeplgagihaaDoorMade11
import Derived.Test.YtofjpeplgagihaaDoorOpen11
import Derived.Test.YtofjpeplgagihaaDoorGO1
import Derived.SevenTiedAt
namespace Go.Proofs.YtofjpeplgagihaaDoor
open Go.ChangeShapes Go.WideShapes Go.ChangeAt Go.RowKit Go.Joins

set_option maxRecDepth 100000 in
theorem made11_walk : LawWalkT 6 Tryd.f6 := by
  intro H enc W base args ds ps hval hA hL
  rw [Tryd.params6] at hA hval
  obtain ⟨v0, vs0, d0, ds0, p0, q0, hargs, rfl, rfl, h0, r0⟩ := trodAll_cons hA
  obtain ⟨v1, vs1, d1, ds1, p1, q1, rfl, rfl, rfl, h1, r1⟩ := trodAll_cons r0
  obtain ⟨v2, vs2, d2, ds2, p2, q2, rfl, rfl, rfl, h2, r2⟩ := trodAll_cons r1
  obtain ⟨v3, vs3, d3, ds3, p3, q3, rfl, rfl, rfl, h3, r3⟩ := trodAll_cons r2
  obtain ⟨v4, vs4, d4, ds4, p4, q4, rfl, rfl, rfl, h4, r4⟩ := trodAll_cons r3
  obtain ⟨v5, vs5, d5, ds5, p5, q5, rfl, rfl, rfl, h5, r5⟩ := trodAll_cons r4
  obtain ⟨rfl, rfl, rfl⟩ := trodAll_nil r5
  obtain rfl : args = #[v0, v1, v2, v3, v4, v5] := by cases args; simp_all
  obtain ⟨D0, rfl, hl0, hq0⟩ := open_digest (hval 0 _ v0 rfl rfl) h0
  obtain ⟨n1, rfl, hn1⟩ := open_u11 (hval 1 _ v1 rfl rfl) h1
  obtain ⟨n2, rfl, hn2⟩ := open_u11 (hval 2 _ v2 rfl rfl) h2
  obtain ⟨n3, rfl, hn3⟩ := open_u11 (hval 3 _ v3 rfl rfl) h3
  obtain ⟨n4, rfl, hn4⟩ := open_q8 (hval 4 _ v4 rfl rfl) h4
  obtain ⟨c5, rfl⟩ := open_cmd (hval 5 _ v5 rfl rfl) h5
  exact made11_is ⟨n1, n2, n3, n4, hn1, hn2, hn3, hn4⟩ c5 hl0 (byts_of hq0) W (Lib.hid hL)
theorem made11_lifted (os : Os) (started : os.Started) (H : Type) (enc : TypeId × Value → H) :
    ReturnsInHanded {} Tryd.checked os 6 .any (fun w args => (Rows.keysMadeSpec.pre enc Tryd.prog Tryd.f6 [] false w args ∧ laidMetH Tryd.prog laidL w) ∧ sizedMet enc Tryd.prog Tryd.f6 (OpenSpec.ofChange Rows.keysMadeSpec) false w args)
      (Rows.keysMadeSpec.post enc Tryd.prog Tryd.f6 false true false false) :=
  lawT_lifted (tb := 4) started (by kernel_rfl) Tryd.func6
    (ChangeSpec.witness_shaped (enc := enc) (C := Tryd.checked) (os := os) (X := fun w _ => laidMetH Tryd.prog laidL w) false (World.doorLaid Tryd.prog 400 os) #[(.agg #[.int .u8 0, .int .u8 0, .int .u8 0, .int .u8 0, .int .u8 0, .int .u8 0, .int .u8 0, .int .u8 0, .int .u8 0, .int .u8 0, .int .u8 0, .int .u8 0, .int .u8 0, .int .u8 0, .int .u8 0, .int .u8 0, .int .u8 0, .int .u8 0, .int .u8 0, .int .u8 0, .int .u8 0, .int .u8 0, .int .u8 0, .int .u8 0, .int .u8 0, .int .u8 0, .int .u8 0, .int .u8 0, .int .u8 0, .int .u8 0, .int .u8 0, .int .u8 0]), (.int .u32 0), (.int .u32 0), (.int .u32 0), (.int .u64 0), (.agg (ccell Cmd.zero).toArray)] 8 rfl (World.shaped_of_RefB (by kernel_rfl) (by kernel_rfl)) (by kernel_rfl) (by kernel_rfl) (by kernel_rfl) (door_met os _))
    (by rw [show Tryd.f6.params = _ from Tryd.params6]; decide +kernel) (by kernel_rfl) Tryd.underlying4 rfl
    (fun ds hl => by
      rw [show Tryd.f6.params = _ from Tryd.params6] at hl
      match ds, hl with
      | [_, _, _, _, _, _], _ => rfl) made11_walk
theorem made11_over : Rows.KeysMadeSaid :=
  OpenClaim.holds_of_wide 6 Tryd.f6 rfl rfl rfl rfl rfl rfl rfl ⟨rfl, rfl, rfl, rfl, rfl⟩ rfl rfl rfl rfl rfl (by kernel_rfl) Tryd.func6 (by kernel_rfl)
    (of_decide_eq_true (by kernel_rfl)) (by unfold Func.isWrapper; first | (rw [if_pos (by decide +kernel)]; kernel_rfl) | (rw [if_neg (by decide +kernel)]; exact ⟨rfl, rfl⟩))
    (fun os started H enc _ => made11_lifted os started H enc)

/-- The given statement. -/
theorem made11_holds : Rows.KeysMadeCardSaid :=
  Claim7.holds_tied_plain_at .later [] [.data, .data] true _ false
    made11_over (fun _ h => by cases h) (by kernel_rfl) (fun _ h => by cases h) keysMade_row_tie rfl ⟨rfl, rfl⟩ (by kernel_rfl) rfl
    (fun f fn hf hfn => by
      obtain rfl : f = 6 := Option.some.inj ((show Tryd.prog.funcNamed "spigot/spigotlaw11.KeysMade" = some 6 by kernel_rfl).symm.trans hf) |>.symm
      obtain rfl : fn = Tryd.f6 := (Option.some.inj (Tryd.func6.symm.trans hfn)).symm
      exact ⟨by kernel_rfl, fun j t ht => by
        rw [Tryd.params6] at ht
        have hm : t ∈ [23, 27, 27, 27, 28, 37] := by simpa using Array.mem_of_getElem? ht
        have hall : ([23, 27, 27, 27, 28, 37].all fun u => !Tryd.prog.wantsStandIn u) = true := by kernel_rfl
        exact (show Tryd.prog.wantsStandIn t = false by simpa using List.all_eq_true.1 hall t hm)⟩)
    (by kernel_rfl)
#print axioms made11_holds

end Go.Proofs.YtofjpeplgagihaaDoor
