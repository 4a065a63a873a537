import Derived.Test.YtnfejdfjlnpldaaGreatDoorRIdA
import Derived.Test.YtnfejdfjlnpldaaGreatDoorGXR
import Derived.Test.YtnfejdfjlnpldaaGreatDoorGS1
import Derived.Test.YtnfejdfjlnpldaaGreatDoorGX1
namespace Go.Proofs.YtnfejdfjlnpldaaGreatDoor
open Go.RowKit
theorem info_tk12:(Tryz.prog.info? 27).map (fun i=>(i.zero,i.size,i.bytes))=some (some (.agg zT12.toArray),36,56):=by kernel_rfl
theorem info_cm12:(Tryz.prog.info? 35).map (fun i=>(i.zero,i.size,i.bytes))=some (some (.agg (ccell Cmd.zero).toArray),47,136):=by kernel_rfl
theorem size_id12 (a b:Value):(Tryz.prog.info? 62).map (·.size)=some [a,b].length:=by show _=some 2;kernel_rfl
theorem one_id12 (a b:Option Addr) (n m c d:Nat):([Value.slice a n c,Value.slice b m d]:List Value).toArray.all (·.oneCell')=true:=all_oneCell_toArray (fun u hu=>by
 simp at hu
 rcases hu with rfl | rfl <;> rfl)
theorem Box.keep12 {w w':World} {b B:Nat} {vs:List Value} (h:Box w b vs) (hb:Below B w w') (hB:b < B):Box w' b vs:=by
 have hh:=hb.block b hB
 exact ⟨fun i v e=>by have:=h.c i v e;simpa [World.cell?,hh] using this,fun i v e=>by have:=h.f i v e;simpa [World.frozen?,hh] using this,Nat.lt_of_lt_of_le h.lt hb.size⟩
theorem own_slR {w:World} {B e s:Nat} {v:Value} {n:Nat} {l:List Value} (h:w.ownsRow B e s v n l):∃ a c,v=.slice a n c:=by
 rcases h.2 with ⟨rfl,rfl⟩ | ⟨g,cap,cur,rfl,_⟩
 · exact ⟨none,0,rfl⟩
 · exact ⟨_,_,rfl⟩
theorem ownR_stored {w W:World} {b:Nat} {vs:List Value} (hs:Stored w b vs W) {B e s n:Nat} {v:Value} {l:List Value} (h:w.ownsRow B e s v n l) (hb:b < B):W.ownsRow B e s v n l:=by
 refine ⟨h.1,?_⟩
 rcases h.2 with q | ⟨g,cap,cur,e1,hB,hg,r⟩
 · exact Or.inl q
 · exact Or.inr ⟨g,cap,cur,e1,hB,by rw [hs.block g (by omega)];exact hg,r⟩
theorem ownR_apart {w w':World} {B B' e e' s s' n n':Nat} {v v':Value} {l l':List Value} (h:w.ownsRow B e s v n l) (h':w.ownsRow B' e' s' v' n' l') (hne:e ≠ e') (hg:w.grownBy w' v'.ownBlock):w'.ownsRow B e s v n l:=by
 refine World.ownsRow.kept h hg ?_
 rcases h.2 with ⟨rfl,_⟩ | ⟨g,cap,cur,rfl,_,hb,_⟩
 · exact Or.inl rfl
 · rcases h'.2 with ⟨rfl,_⟩ | ⟨g',cap',cur',rfl,_,hb',_⟩
   · exact Or.inr (fun q=>by cases q)
   · refine Or.inr (fun q=>hne ?_)
     obtain rfl:g=g':=by simpa [Value.ownBlock] using q
     rw [hb] at hb'
     cases hb'
     rfl
def GivesD (ts:List Tk) (cs:List Cmd) (w:World) (e:Ending) (w':World):Prop:=∃ a b,e=.returned (.agg #[a,b])∧w'.ownsRow w.heap.size 27 36 a ts.length (flatR LT ts)∧w'.ownsRow w.heap.size 35 47 b cs.length (flatR LC cs)∧Below w.heap.size w w'
def id0:List Value:=[.slice none 0 0,.slice none 0 0]
end Go.Proofs.YtnfejdfjlnpldaaGreatDoor
