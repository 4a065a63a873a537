/-
  For any table, frame and seed IdealReal returns true and leaves its arguments as they were, when the package's tables hold what the program's text lays. Conditions: none.
-/
import Derived.Test.YtpccahdbienjeaaDoorReal12
import Derived.Test.YtpccahdbienjeaaDoorOpen11
import Derived.Test.YtpccahdbienjeaaDoorOpen12
import Derived.Test.YtpccahdbienjeaaDoorLaid12
import Derived.Test.YtpccahdbienjeaaDoorGO1
import Derived.SevenTiedAt
namespace Go.Proofs.YtpccahdbienjeaaDoor
open Go.ChangeShapes Go.WideShapes Go.ChangeAt Go.RowKit Go.Joins

set_option maxRecDepth 100000 in
theorem real12_walk : LawWalkTS 3 Tryd.f3 := by
  intro H enc W base args ds ps hval hA hL hz
  rw [Tryd.params3] at hA hval hz
  obtain ⟨v0, vs0, d0, ds0, p0, q0, hargs, rfl, rfl, h0, r0⟩ := trodAll_cons hA
  obtain ⟨v1, vs1, d1, ds1, p1, q1, rfl, rfl, rfl, h1, r1⟩ := trodAll_cons r0
  obtain ⟨v2, vs2, d2, ds2, p2, q2, rfl, rfl, rfl, h2, r2⟩ := trodAll_cons r1
  obtain ⟨rfl, rfl, rfl⟩ := trodAll_nil r2
  obtain rfl : args = #[v0, v1, v2] := by cases args; simp_all
  obtain ⟨ts0, cs0, hi0, hl0⟩ := open_ideal (hval 0 _ v0 rfl rfl) h0 (hz 0 _ d0 rfl rfl)
  obtain ⟨f1, rfl⟩ := open_frm (hval 1 _ v1 rfl rfl) h1
  obtain ⟨D2, rfl, hl2, hq2⟩ := open_digest (hval 2 _ v2 rfl rfl) h2
  exact real12_is f1 hl2 (byts_of hq2) hl0 W hi0 (Lib.hid hL)
theorem real12_lifted (os : Os) (started : os.Started) (H : Type) (enc : TypeId × Value → H) :
    ReturnsInHanded {} Tryd.checked os 3 .any (fun w args => (Rows.idealRealSpec.pre enc Tryd.prog Tryd.f3 [] false w args ∧ laidMetH Tryd.prog laidL w) ∧ sizedMet enc Tryd.prog Tryd.f3 (OpenSpec.ofChange Rows.idealRealSpec) false w args)
      (Rows.idealRealSpec.post enc Tryd.prog Tryd.f3 false true false false) :=
  lawT_liftedS (tb := 4) started (by kernel_rfl) Tryd.func3
    (ChangeSpec.witness_shaped (enc := enc) (C := Tryd.checked) (os := os) (X := fun w _ => laidMetH Tryd.prog laidL w) false (World.doorLaid Tryd.prog 400 os) #[(.agg #[.slice none 0 0, .slice none 0 0]), (.agg (mcell Frm.zero).toArray), (.agg #[.int .u8 0, .int .u8 0, .int .u8 0, .int .u8 0, .int .u8 0, .int .u8 0, .int .u8 0, .int .u8 0, .int .u8 0, .int .u8 0, .int .u8 0, .int .u8 0, .int .u8 0, .int .u8 0, .int .u8 0, .int .u8 0, .int .u8 0, .int .u8 0, .int .u8 0, .int .u8 0, .int .u8 0, .int .u8 0, .int .u8 0, .int .u8 0, .int .u8 0, .int .u8 0, .int .u8 0, .int .u8 0, .int .u8 0, .int .u8 0, .int .u8 0, .int .u8 0])] 8 rfl (World.shaped_of_RefB (by kernel_rfl) (by kernel_rfl)) (by kernel_rfl) (by kernel_rfl) (by kernel_rfl) (door_met os _))
    (by rw [show Tryd.f3.params = _ from Tryd.params3]; decide +kernel) (by kernel_rfl) Tryd.underlying4 rfl
    (fun ds hl => by
      rw [show Tryd.f3.params = _ from Tryd.params3] at hl
      match ds, hl with
      | [_, _, _], _ => rfl) real12_walk
theorem real12_over : Rows.IdealRealSaid :=
  OpenClaim.holds_of_wide 3 Tryd.f3 rfl rfl rfl rfl rfl rfl rfl ⟨rfl, rfl, rfl, rfl, rfl⟩ rfl rfl rfl rfl rfl (by kernel_rfl) Tryd.func3 (by kernel_rfl)
    (of_decide_eq_true (by kernel_rfl)) (by unfold Func.isWrapper; first | (rw [if_pos (by decide +kernel)]; kernel_rfl) | (rw [if_neg (by decide +kernel)]; exact ⟨rfl, rfl⟩))
    (fun os started H enc _ => real12_lifted os started H enc)

/-- The given statement. -/
theorem real12_holds : Rows.IdealRealCardSaid :=
  Claim7.holds_tied_plain_at .later [] [.data, .data] true _ false
    real12_over (fun _ h => by cases h) (by kernel_rfl) (fun _ h => by cases h) idealReal_row_tie rfl ⟨rfl, rfl⟩ (by kernel_rfl) rfl
    (fun f fn hf hfn => by
      obtain rfl : f = 3 := Option.some.inj ((show Tryd.prog.funcNamed "spigot/spigotlaw12.IdealReal" = some 3 by kernel_rfl).symm.trans hf) |>.symm
      obtain rfl : fn = Tryd.f3 := (Option.some.inj (Tryd.func3.symm.trans hfn)).symm
      exact ⟨by kernel_rfl, fun j t ht => by
        rw [Tryd.params3] at ht
        have hm : t ∈ [25, 41, 29] := by simpa using Array.mem_of_getElem? ht
        have hall : ([25, 41, 29].all fun u => !Tryd.prog.wantsStandIn u) = true := by kernel_rfl
        exact (show Tryd.prog.wantsStandIn t = false by simpa using List.all_eq_true.1 hall t hm)⟩)
    (by kernel_rfl)
#print axioms real12_holds

end Go.Proofs.YtpccahdbienjeaaDoor
