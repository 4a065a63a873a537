import Derived.Test.YtnfejdfjlnpldaaGreatDoorRIdC
import Derived.Test.YtnfejdfjlnpldaaGreatDoorRIdA
import Derived.Test.YtnfejdfjlnpldaaGreatDoorGXR
import Derived.Test.YtnfejdfjlnpldaaGreatDoorGX2
namespace Go.Proofs.YtnfejdfjlnpldaaGreatDoor
open Go.RowKit
def AccD (ts:List Tk) (cs:List Cmd) (f:Frm):Prop:=(f.kd=2→f.c ∈ cs)∧(f.kd ≠ 2→f.r.tk ∈ ts)
theorem AccD.of2 {ts:List Tk} {cs:List Cmd} {f:Frm} (h:f.kd=2):AccD ts cs f↔f.c ∈ cs:=⟨fun g=>g.1 h,fun g=>⟨fun _=>g,fun n=>absurd h n⟩⟩
theorem AccD.of1 {ts:List Tk} {cs:List Cmd} {f:Frm} (h:f.kd ≠ 2):AccD ts cs f↔f.r.tk ∈ ts:=⟨fun g=>g.2 h,fun g=>⟨fun n=>absurd n h,fun _=>g⟩⟩
def AcpD (ts:List Tk) (cs:List Cmd) (f:Frm) (b:Bool) (q:Int):Prop:=(q ≠ 0∧ChkD ts cs q∧b=false)∨(q=8∧ChkD ts cs 0∧¬ f.Ok∧b=false)∨(q=0∧ChkD ts cs 0∧f.Ok∧(b=true↔AccD ts cs f))
theorem AcpD.ex (ts:List Tk) (cs:List Cmd) (f:Frm):∃ b q,AcpD ts cs f b q:=by
 obtain ⟨q,hq⟩:=ChkD.ex ts cs
 by_cases h:q=0
 · subst h
   by_cases hf:f.Ok
   · obtain ⟨b,hb⟩:=bool_of (AccD ts cs f)
     exact ⟨b,_,Or.inr (Or.inr ⟨rfl,hq,hf,hb⟩)⟩
   · exact ⟨_,_,Or.inr (Or.inl ⟨rfl,hq,hf,rfl⟩)⟩
 · exact ⟨_,_,Or.inl ⟨h,hq,rfl⟩⟩
theorem ChkD.dst {ts:List Tk} {cs:List Cmd} (h:ChkD ts cs 0):DstT ts∧DstC cs:=by
 rcases h with ⟨h,_⟩ | ⟨h,_⟩ | ⟨h,_⟩ | ⟨_,_,_,_,h1,h2⟩
 · cases h
 · cases h
 · cases h
 · exact ⟨h1,h2⟩
end Go.Proofs.YtnfejdfjlnpldaaGreatDoor
