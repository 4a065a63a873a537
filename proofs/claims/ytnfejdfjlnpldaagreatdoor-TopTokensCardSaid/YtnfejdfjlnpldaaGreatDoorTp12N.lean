import Derived.Test.YtnfejdfjlnpldaaGreatDoorKyB
import Derived.Test.YtnfejdfjlnpldaaGreatDoorIdPkG
import Derived.Test.YtnfejdfjlnpldaaGreatDoorIdPkF
import Derived.Test.YtnfejdfjlnpldaaGreatDoorIdPkE
import Derived.Test.YtnfejdfjlnpldaaGreatDoorGXP
import Derived.Test.YtnfejdfjlnpldaaGreatDoorGXP
import Derived.Test.YtnfejdfjlnpldaaGreatDoorGX3
import Derived.Test.YtnfejdfjlnpldaaGreatDoorGRP
import Derived.Test.YtnfejdfjlnpldaaGreatDoorTokF
import Derived.Test.YtnfejdfjlnpldaaGreatDoorGXR
set_option maxHeartbeats 6400000
set_option maxRecDepth 100000
namespace Go.Proofs.YtnfejdfjlnpldaaGreatDoor
open Go.RowKit
theorem parse12 {f:Frm} (h:f.Ok):Parses 8 f.bs f 0:=by
 obtain ⟨G,q,h1,P1⟩:=parse_is f.bs f.bs_byts
 obtain ⟨rfl,rfl⟩:=h1.uniq (Or.inl ⟨rfl,h,rfl⟩)
 exact P1
set_option maxRecDepth 100000 in
set_option maxHeartbeats 6400000 in
theorem ris_t {t p:Int} (d1:decide (t < 16)=true) (d4:decide (p≤1000000)=true) (w:World):Calls Tryz.prog 35 #[.int .u32 t,.int .u32 p] w fun e w'=>e=.returned (.bool true)∧Below w.heap.size w w':=by
 go_enter Tryz.func35,Tryz.ntmps35
 have hB0:=Below.refl w.heap.size w
 have hs0:=hB0.size
 go_wp2_with fail
 go_returns
 exact ⟨rfl,hB0⟩
set_option maxRecDepth 100000 in
set_option maxHeartbeats 6400000 in
theorem ris_a {t p:Int} (d1:decide (t < 16)=false) (w:World):Calls Tryz.prog 35 #[.int .u32 t,.int .u32 p] w fun e w'=>e=.returned (.bool false)∧Below w.heap.size w w':=by
 go_enter Tryz.func35,Tryz.ntmps35
 have hB0:=Below.refl w.heap.size w
 have hs0:=hB0.size
 go_wp2_with fail
 go_returns
 exact ⟨rfl,hB0⟩
set_option maxRecDepth 100000 in
set_option maxHeartbeats 6400000 in
theorem ris_b {t p:Int} (d1:decide (t < 16)=true) (d4:decide (p≤1000000)=false) (w:World):Calls Tryz.prog 35 #[.int .u32 t,.int .u32 p] w fun e w'=>e=.returned (.bool false)∧Below w.heap.size w w':=by
 go_enter Tryz.func35,Tryz.ntmps35
 have hB0:=Below.refl w.heap.size w
 have hs0:=hB0.size
 go_wp2_with fail
 go_returns
 exact ⟨rfl,hB0⟩
theorem ris_is {t p:Int} {b:Bool} (h:b=true↔HasKey t p) (w:World):Calls Tryz.prog 35 #[.int .u32 t,.int .u32 p] w fun e w'=>e=.returned (.bool b)∧Below w.heap.size w w':=by
 by_cases g:HasKey t p
 · rw [h.2 g]
   exact ris_t (has_tt g).1 (has_tt g).2 w
 · rw [show b=false by cases b;rfl;exact absurd (h.1 rfl) g]
   rcases has_no g with h1 | ⟨h1,h2⟩
   · exact ris_a h1 w
   · exact ris_b h1 h2 w
theorem rep_no {f:Frm} (h:f.Ok):reaE kinP f.bs=12∧reaF kinP f.bs=[]:=by
 rcases rea_two f.bs f.bs_byts with ⟨r,e,_⟩ | ⟨h1,h2,_⟩
 · exfalso
   have:=r.bs_len
   rw [e] at this
   rcases Frm.ok_two h with ⟨_,_,_,_,l⟩ | ⟨_,_,_,_,l⟩ <;> omega
 · exact ⟨h1,h2⟩
