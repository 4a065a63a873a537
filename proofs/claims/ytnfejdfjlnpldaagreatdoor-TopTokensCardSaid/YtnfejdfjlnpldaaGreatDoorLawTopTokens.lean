/-
  For any seed and frame TopTokens returns true and leaves its arguments as they were, when the package's tables hold what the program's text lays. Conditions: none.
-/
import Derived.Test.YtnfejdfjlnpldaaGreatDoorTp12Z
import Derived.Test.YtnfejdfjlnpldaaGreatDoorGO1
import Derived.Test.YtnfejdfjlnpldaaGreatDoorGX1
import Derived.Test.YtnfejdfjlnpldaaGreatDoorKyMath
import Derived.SizedLaws
import Derived.SevenTiedAt
set_option maxRecDepth 100000
namespace Go.Proofs.YtnfejdfjlnpldaaGreatDoor
open Go.ChangeShapes Go.WideShapes Go.ChangeAt Go.RowKit Go.Joins
set_option maxRecDepth 100000 in
theorem tp12_walk:LawWalkT 3 Tryz.f3:=by
 intro H enc W base args ds ps hval hA hL
 rw [Tryz.params3] at hA hval
 obtain ⟨v0,vs0,d0,ds0,p0,q0,hargs,rfl,rfl,h0,r0⟩:=trodAll_cons hA
 obtain ⟨v1,vs1,d1,ds1,p1,q1,rfl,rfl,rfl,h1,r1⟩:=trodAll_cons r0
 obtain ⟨rfl,rfl,rfl⟩:=trodAll_nil r1
 obtain rfl:args = #[v0,v1]:=by cases args;simp_all
 obtain ⟨D0,rfl,hl0,hq0⟩:=open_digest (hval 0 _ v0 rfl rfl) h0
 obtain ⟨f1,rfl⟩:=open_frm (hval 1 _ v1 rfl rfl) h1
 exact tp12_is f1 hl0 (byts_of hq0) W (Lib.hid hL)
theorem tp12_lifted (os:Os) (started:os.Started) (H:Type) (enc:TypeId × Value→H) :
   ReturnsInHanded {} Tryz.checked os 3 .any (fun w args=>(Rows.topTokensSpec.pre enc Tryz.prog Tryz.f3 [] false w args∧laidMetH Tryz.prog laidL w)∧sizedMet enc Tryz.prog Tryz.f3 (OpenSpec.ofChange Rows.topTokensSpec) false w args)
     (Rows.topTokensSpec.post enc Tryz.prog Tryz.f3 false true false false) :=
 lawT_lifted (tb:=4) started (by kernel_rfl) Tryz.func3
   (ChangeSpec.witness_shaped (enc:=enc) (C:=Tryz.checked) (os:=os) (X:=fun w _=>laidMetH Tryz.prog laidL w) false (World.doorLaid Tryz.prog 400 os) #[(.agg #[.int .u8 0,.int .u8 0,.int .u8 0,.int .u8 0,.int .u8 0,.int .u8 0,.int .u8 0,.int .u8 0,.int .u8 0,.int .u8 0,.int .u8 0,.int .u8 0,.int .u8 0,.int .u8 0,.int .u8 0,.int .u8 0,.int .u8 0,.int .u8 0,.int .u8 0,.int .u8 0,.int .u8 0,.int .u8 0,.int .u8 0,.int .u8 0,.int .u8 0,.int .u8 0,.int .u8 0,.int .u8 0,.int .u8 0,.int .u8 0,.int .u8 0,.int .u8 0]),(.agg (mcell Frm.zero).toArray)] 8 rfl (World.shaped_of_RefB (by kernel_rfl) (by kernel_rfl)) (by kernel_rfl) (by kernel_rfl) (by kernel_rfl) (door_met os _))
   (by rw [show Tryz.f3.params=_ from Tryz.params3];decide +kernel) (by kernel_rfl) Tryz.underlying4 rfl
   (fun ds hl=>by
     rw [show Tryz.f3.params=_ from Tryz.params3] at hl
     match ds,hl with
     | [_,_],_=>rfl) tp12_walk
theorem tp12_over:Rows.TopTokensSaid :=
 OpenClaim.holds_of_wide 3 Tryz.f3 rfl rfl rfl rfl rfl rfl rfl ⟨rfl,rfl,rfl,rfl,rfl⟩ rfl rfl rfl rfl rfl (by kernel_rfl) Tryz.func3 (by kernel_rfl)
   (of_decide_eq_true (by kernel_rfl)) (by unfold Func.isWrapper;first | (rw [if_pos (by decide +kernel)];kernel_rfl) | (rw [if_neg (by decide +kernel)];exact ⟨rfl,rfl⟩))
   (fun os started H enc _=>tp12_lifted os started H enc)
theorem tp12_holds:Rows.TopTokensCardSaid :=
 Claim7.holds_tied_plain_at .later [] [.data,.data] true _ false
   tp12_over (fun _ h=>by cases h) (by kernel_rfl) (fun _ h=>by cases h) topTokens_row_tie rfl ⟨rfl,rfl⟩ (by kernel_rfl) rfl
   (fun f fn hf hfn=>by
     obtain rfl:f=3:=Option.some.inj ((show Tryz.prog.funcNamed "spigot/spigottop.TopTokens" = some 3 by kernel_rfl).symm.trans hf) |>.symm
     obtain rfl:fn=Tryz.f3:=(Option.some.inj (Tryz.func3.symm.trans hfn)).symm
     exact ⟨by kernel_rfl,fun j t ht=>by
       rw [Tryz.params3] at ht
       have hm:t ∈ [23,37]:=by simpa using Array.mem_of_getElem? ht
       have hall:([23,37].all fun u=>!Tryz.prog.wantsStandIn u)=true:=by kernel_rfl
       exact (show Tryz.prog.wantsStandIn t=false by simpa using List.all_eq_true.1 hall t hm)⟩)
   (by kernel_rfl)
#print axioms tp12_holds
end Go.Proofs.YtnfejdfjlnpldaaGreatDoor
