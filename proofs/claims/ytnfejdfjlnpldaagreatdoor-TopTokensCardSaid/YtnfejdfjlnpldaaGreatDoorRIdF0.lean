import Derived.Test.YtnfejdfjlnpldaaGreatDoorRIdE
import Derived.Test.YtnfejdfjlnpldaaGreatDoorIdPut
import Derived.Test.YtnfejdfjlnpldaaGreatDoorGB1
import Derived.Test.YtnfejdfjlnpldaaGreatDoorGF2
import Derived.Test.YtnfejdfjlnpldaaGreatDoorGXR
namespace Go.Proofs.YtnfejdfjlnpldaaGreatDoor
open Go.RowKit
theorem size_i0:(Tryz.prog.info? 62).map (·.size)=some id0.length:=size_id12 _ _
theorem one_i0:id0.toArray.all (·.oneCell')=true:=one_id12 _ _ _ _ _ _
theorem build_i0 (W:World):(Instr.build 62 #[]).run Tryz.prog W=.ok (.agg id0.toArray) W:=by kernel_rfl
theorem size_sT:(Tryz.prog.info? 59).map (·.size)=some 1:=by kernel_rfl
theorem size_sC:(Tryz.prog.info? 60).map (·.size)=some 1:=by kernel_rfl
theorem ownR_len {w:World} {B e s n m:Nat} {v:Value} {l:List Value} (h:w.ownsRow B e s v n l) (hn:n=m):w.ownsRow B e s v m l:=hn ▸ h
def GivesDE (ts:List Tk) (cs:List Cmd) (q:Int) (w:World) (e:Ending) (w':World):Prop:=∃ a b,e=.returned (.tuple #[.agg #[a,b],.int .i64 q])∧w'.ownsRow w.heap.size 27 36 a ts.length (flatR LT ts)∧w'.ownsRow w.heap.size 35 47 b cs.length (flatR LC cs)∧Below w.heap.size w w'
theorem Dst.one {α β:Type} {f:α→β} {l:List α} (h:Dst f l l.length) {x y:α} (hx:x ∈ l) (hy:y ∈ l) (e:f x=f y):x=y:=by
 obtain ⟨i,hi⟩:=List.getElem?_of_mem hx
 obtain ⟨j,hj⟩:=List.getElem?_of_mem hy
 rcases Nat.lt_trichotomy i j with q | q | q
 · exact absurd e (h i j x y q (List.getElem?_eq_some_iff.1 hj).1 hi hj)
 · subst q
   rw [hi] at hj
   exact Option.some.inj hj
 · exact absurd e.symm (h j i y x q (List.getElem?_eq_some_iff.1 hi).1 hj hi)
theorem Fnd.none_of {α:Type} {p:α→Prop} {l:List α} {i:Int} (h:Fnd p l i) (hn:∀ x ∈ l,¬ p x):i = -1:=by
 rcases h with ⟨n,rfl,⟨x,hx,px⟩,_⟩ | ⟨rfl,_⟩
 · exact absurd px (hn x (List.mem_of_getElem? hx))
 · rfl
end Go.Proofs.YtnfejdfjlnpldaaGreatDoor
