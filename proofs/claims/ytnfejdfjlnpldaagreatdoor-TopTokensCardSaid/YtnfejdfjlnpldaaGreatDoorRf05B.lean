import Derived.Test.YtnfejdfjlnpldaaGreatDoorGS2
import Derived.Deep.AppendLies
set_option maxRecDepth 100000
namespace Go.Proofs.YtnfejdfjlnpldaaGreatDoor
open Go.RowKit
set_option maxRecDepth 100000 in
theorem own_below {w w':World} {B e n:Nat} {v:Value} {l:List Value} (h:w.ownsRow B e 1 v n l) (hb:Below w.heap.size w w'):w'.ownsRow B e 1 v n l:=by
 obtain ⟨h1,h2 | ⟨g,cap,cur,h3,hg,h4,h5⟩⟩:=h
 · exact ⟨h1,Or.inl h2⟩
 · exact ⟨h1,Or.inr ⟨g,cap,cur,h3,hg,by rw [hb.block g (Array.getElem?_eq_some_iff.1 h4).1];exact h4,h5⟩⟩
end Go.Proofs.YtnfejdfjlnpldaaGreatDoor
