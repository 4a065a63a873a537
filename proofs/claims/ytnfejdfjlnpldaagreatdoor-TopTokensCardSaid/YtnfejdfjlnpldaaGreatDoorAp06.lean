import Derived.Test.YtnfejdfjlnpldaaGreatDoorRf05B
import Derived.Test.YtnfejdfjlnpldaaGreatDoorKyB
namespace Go.Proofs.YtnfejdfjlnpldaaGreatDoor
open Go.RowKit
def Apart (A B:Option Nat):Prop:=∀ g,A=some g→B ≠ some g
theorem Apart.symm {A B:Option Nat} (h:Apart A B):Apart B A:=fun g hb ha=>h g ha hb
theorem Apart.ne {A B:Option Nat} (h:Apart A B):A=none∨A ≠ B:=by
 cases A with
 | none=>exact Or.inl rfl
 | some g=>exact Or.inr fun e=>h g rfl e.symm
theorem Apart.new {A:Option Nat} {n:Nat} (h:∀ g,A=some g→g < n):Apart A (some n):=fun g hg e=>by
 cases e
 exact Nat.lt_irrefl _ (h _ hg)
theorem Apart.app {A A' B:Option Nat} {n:Nat} (hat:A'=A∨A'=some n) (h:Apart A B) (hB:∀ g,B=some g→g < n):Apart A' B:=fun g hg e=>by
 rcases hat with q | q
 · exact h g (q ▸ hg) e
 · rw [q] at hg
   cases hg
   exact Nat.lt_irrefl _ (hB _ e)
theorem Box.lts {w:World} {b:Nat} {vs:List Value} (h:Box w b vs):∀ g,some b=some g→g < w.heap.size:=fun g hg=>by
 cases hg
 exact h.lt
theorem Box.grown {w w':World} {b:Nat} {vs:List Value} {row:Option Nat} (h:Box w b vs) (hg:w.grownBy w' row) (hne:Apart row (some b)):Box w' b vs:=by
 have hk:=hg.block b h.lt (fun e=>hne b e.symm rfl)
 refine ⟨fun i v e=>?_,fun i v e=>?_,Nat.lt_of_lt_of_le h.lt hg.size⟩
 · rw [World.cell?_of_block (a:=⟨b,i,none⟩) hk]
   exact h.c i v e
 · rw [World.frozen?_of_block (a:=⟨b,i,none⟩) hk]
   exact h.f i v e
theorem IsL.grown {w w':World} {k:IntKind} {a:Option Addr} {n c:Nat} {xs:List Int} {row:Option Nat} (h:IsL w k (.slice a n c) xs) (hg:w.grownBy w' row) (hne:Apart row (Value.slice a n c).ownBlock):IsL w' k (.slice a n c) xs:=by
 obtain ⟨a',c',e,hi,h0⟩:=h
 injection e with e1 e2 e3
 subst e1 e2 e3
 refine ⟨a,c,rfl,⟨hi.room,hi.most,fun hp=>?_⟩,h0⟩
 obtain ⟨b,off,rfl,hc⟩:=hi.cells hp
 exact ⟨b,off,rfl,fun i hj=>hg.cell (hc i hj) (fun e=>hne b e.symm rfl)⟩
theorem F_own6 {F:World→Prop} {w:World} {base:Nat} (hb:base≤w.heap.size) (h:∀ W,W.ownsRow base 5 1 (.slice (some ⟨w.heap.size,0,none⟩) 0 0) ([]:List Int).length (([]:List Int).map (Value.int .u8))→Below w.heap.size w W→F W):F (w.alloc (.cells #[] 5)) :=
 h _ (owns_mono (owns_built (w:=w) (base:=w.heap.size) (e:=5) [] (Nat.le_refl _) (by simp)) hb) ((Below.refl _ _).alloc (Nat.le_refl _) _)
theorem step_append_at {P:Program} {w:World} {ops:Array Oper} {o:Oper} {a:Act} {K:Act→World→Prop} {Q:Exit→Act→World→Prop} {E:Prop} (hgd:o.guard=none) (s x:Operand) (t:TypeId)
   (ho:o.op=.call { callee:=.builtin .append,args:=#[s,x],argTypes:=#[t,t] })
   (base:Nat) (e:TypeId) (i:TypeInfo) (z:Value) (bytes:Nat) (k:IntKind) (ht:P.underlying t=some (.slice e)) (hi:P.info? e=some i) (hz:i.zero=some z)
   (hsize:i.size=1) (hby:i.bytes=bytes) (hzs:z.cells.size=1)
   (v:Value) (ys xs:List Int) (v2:Value) (hs:a.eval s=v) (hx:a.eval x=v2) (hown:w.ownsRow base e 1 v ys.length (ys.map (Value.int k))) (hin:IsL w k v2 xs)
   (h63:ys.length + xs.length≤maxLen) (hbytes:(ys.length + xs.length) * bytes≤140737488355328) (hbase:base≤w.heap.size)
   (h:∀ v' w',w'.ownsRow base e 1 v' (ys ++ xs).length ((ys ++ xs).map (Value.int k))→w.grownBy w' v.ownBlock→(v'.ownBlock=v.ownBlock∨v'.ownBlock=some w.heap.size)→K (a.put o.dst v') w'):if Region.wanted o (yielded ops a.tmps)=true then Oper.wp P o a w K Q else E:=by
 rw [if_pos (by simp [Region.wanted,hgd])]
 obtain ⟨a2,c2,rfl,hi2,h02⟩:=hin
 cases a2 with
 | none =>
   have hc:=h02 rfl
   subst hc
   have hl:xs=[]:=List.eq_nil_of_length_eq_zero (by have:=hi2.room;omega)
   subst hl
   have hrun:=run_append_owned_none (P:=P) (w:=w) base t o.type e i 1 ht hi v ys.length _ hown
   have hk:=h v w (by simpa using hown) (World.grownBy.refl w _) (Or.inl rfl)
   unfold Oper.wp
   simp [execOp,ho,resolve,invoke,builtin,hs,hx,hrun,Result.andThen]
   exact hk
 | some ad =>
   obtain ⟨b,off,spot⟩:=ad
   obtain ⟨v',w',hr,h2,h3,_,h5⟩:=run_append_own_at (P:=P) w base t o.type e i z 1 bytes ht hi hz hsize hby hzs (by omega) v ys.length _ hown ⟨b,off,spot⟩ xs.length c2 (xs.map (Value.int k)) (by simp) (fun j u hu=>by
     have hj:j < xs.length:=by
       rcases Nat.lt_or_ge j xs.length with q | q
       · exact q
       · rw [List.getElem?_eq_none (by simpa using q)] at hu
         cases hu
     obtain ⟨b',off',e1,hc⟩:=hi2.at hj
     cases e1
     rw [nth_get j hj] at hu
     cases hu
     rw [Go.WideShapes.add_plain,hc]) (fun u hu=>by
     simp at hu
     obtain ⟨y,_,rfl⟩:=hu
     rfl) h63 hbytes hbase
   have hk:=h v' w' (by rw [List.length_append,List.map_append];exact h2) h3 h5
   unfold Oper.wp execOp
   simp only [ho,resolve,invoke,builtin,Sem.run_bind,Sem.run_pure,Result.andThen_ok,List.map_toArray,List.map_cons,List.map_nil,hs,hx,hr]
   exact hk
end Go.Proofs.YtnfejdfjlnpldaaGreatDoor
