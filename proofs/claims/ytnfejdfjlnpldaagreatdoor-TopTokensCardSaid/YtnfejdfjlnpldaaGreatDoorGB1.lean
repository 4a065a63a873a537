import Derived.Test.YtnfejdfjlnpldaaGreatDoorRows
import Derived.WalkKit
import Derived.WalkSpells
import Derived.WalkLawsBesides
import Derived.ProofKit
import Derived.OpenShut
import Derived.Handy
import Derived.Lib.SmallJoins
import Derived.Lib.Hide
import Derived.Laws.AppendOwnNone
import Derived.Laws.OwnMore
import Derived.BigFrame
import Derived.Deep.QuietTactic
import Derived.BigQuiet
import Derived.StillTailTactics
import Derived.Deep.RegionWith
import Derived.Deep.RegionHeld3
import Derived.Deep.LoopGhost
import Derived.Deep.DeepCutAuto
import Derived.Deep.CutBlock
import Derived.Deep.DeepFit
import Derived.IntWalk
import Derived.Deep.AppendLies
import Derived.Deep.RegionLaw
import Derived.Deep.MidRow
import Derived.Deep.WholeRow
import Derived.Maps.AppendAt
import Derived.Laws.MakeOwn
import Derived.Laws.StructEq
import Derived.DeepKeys
set_option maxHeartbeats 1600000
set_option maxRecDepth 100000
namespace Go.Proofs.YtnfejdfjlnpldaaGreatDoor
theorem qzA {α:Type _} (l:List α) (i:Nat) (a:α):l.toArray.setIfInBounds i a=(l.set i a).toArray:=List.setIfInBounds_toArray ..
theorem qz0 {α:Type _} {x y:α} {l:List α}:(x::l).set 0 y=y::l:=rfl
theorem qzS {α:Type _} {x y:α} {l:List α} {n:Nat}:(x::l).set (n+1) y=x::l.set n y:=rfl
open Go.ChangeShapes Go.WideShapes Go.ChangeAt Go.RowKit Go.Joins
def nth (xs:List Int) (i:Nat):Int:=xs.getD i 0
theorem nth_take {xs:List Int} {m i:Nat} (h:i < m):nth (xs.take m) i=nth xs i:=by
 unfold nth
 rw [List.getD_eq_getElem?_getD,List.getD_eq_getElem?_getD,List.getElem?_take_of_lt h]
theorem nth_drop {xs:List Int} {m i:Nat}:nth (xs.drop m) i=nth xs (m + i):=by
 unfold nth
 rw [List.getD_eq_getElem?_getD,List.getD_eq_getElem?_getD,List.getElem?_drop]
theorem nth_append_left {xs ys:List Int} {i:Nat} (h:i < xs.length):nth (xs ++ ys) i=nth xs i:=by
 unfold nth
 rw [List.getD_eq_getElem?_getD,List.getD_eq_getElem?_getD,List.getElem?_append_left h]
theorem nth_append_right {xs ys:List Int} {i:Nat} (h:xs.length≤i):nth (xs ++ ys) i=nth ys (i - xs.length):=by
 unfold nth
 rw [List.getD_eq_getElem?_getD,List.getD_eq_getElem?_getD,List.getElem?_append_right h]
theorem take_succ_nth {xs:List Int} {i:Nat} (h:i < xs.length):xs.take (i + 1)=xs.take i ++ [nth xs i]:=by
 unfold nth
 rw [List.take_succ_eq_append_getElem h,List.getD_eq_getElem?_getD,List.getElem?_eq_getElem h,Option.getD_some]
theorem ext_nth {xs ys:List Int} (hl:xs.length=ys.length) (h:∀ i,i < xs.length→nth xs i=nth ys i):xs=ys:=by
 refine List.ext_getElem hl fun i h1 h2=>?_
 have:=h i h1
 unfold nth at this
 rw [List.getD_eq_getElem?_getD,List.getD_eq_getElem?_getD,List.getElem?_eq_getElem h1,List.getElem?_eq_getElem h2] at this
 exact this
structure Ints (w:World) (k:IntKind) (at0:Option Addr) (cap:Nat) (xs:List Int):Prop where
 room:xs.length≤cap
 most:cap≤9223372036854775807
 cells:0 < xs.length→∃ b off,at0=some ⟨b,off,none⟩∧∀ i,i < xs.length→w.cell? ⟨b,off + i,none⟩=some (.int k (nth xs i))
theorem Ints.nil (w:World) (k:IntKind):Ints w k none 0 []:=⟨Nat.le_refl _,by omega,fun h=>absurd h (by simp)⟩
theorem Ints.at {w:World} {k:IntKind} {at0:Option Addr} {cap:Nat} {xs:List Int} (h:Ints w k at0 cap xs) {i:Nat} (hi:i < xs.length) :
   ∃ b off,at0=some ⟨b,off,none⟩∧w.cell? ⟨b,off + i,none⟩=some (.int k (nth xs i)):=by
 obtain ⟨b,off,e,hc⟩:=h.cells (by omega)
 exact ⟨b,off,e,hc i hi⟩
theorem Ints.take {w:World} {k:IntKind} {at0:Option Addr} {cap:Nat} {xs:List Int} (h:Ints w k at0 cap xs) (m:Nat) (hm:m≤xs.length):Ints w k at0 cap (xs.take m):=by
 have hl:(xs.take m).length=m:=by rw [List.length_take];omega
 refine ⟨by have:=h.room;omega,h.most,fun h0=>?_⟩
 obtain ⟨b,off,e,hc⟩:=h.cells (by omega)
 refine ⟨b,off,e,fun i hi=>?_⟩
 rw [nth_take (by omega)]
 exact hc i (by omega)
theorem lt_of_cell' {w:World} {b o:Nat} {v:Value} (h:w.cell? ⟨b,o,none⟩=some v):b < w.heap.size:=by
 rcases Nat.lt_or_ge b w.heap.size with hb | hb
 · exact hb
 · simp [World.cell?,Array.getElem?_eq_none hb] at h
theorem Ints.of_cells {w w':World} {k:IntKind} {at0:Option Addr} {cap:Nat} {xs:List Int} (h:Ints w k at0 cap xs)
   (hw:∀ b o v,w.cell? ⟨b,o,none⟩=some v→w'.cell? ⟨b,o,none⟩=some v):Ints w' k at0 cap xs :=
 ⟨h.room,h.most,fun h0=>let ⟨b,off,e,hc⟩:=h.cells h0;⟨b,off,e,fun i hi=>hw _ _ _ (hc i hi)⟩⟩
theorem Ints.below {w w':World} {k:IntKind} {at0:Option Addr} {cap:Nat} {xs:List Int} (h:Ints w k at0 cap xs) (hb:Below w.heap.size w w'):Ints w' k at0 cap xs :=
 h.of_cells fun b o v hc=>by rw [hb.cell (p:=⟨b,o,none⟩) (lt_of_cell' hc)];exact hc
theorem Ints.alloc {w:World} {k:IntKind} {at0:Option Addr} {cap:Nat} {xs:List Int} (h:Ints w k at0 cap xs) (x:Obj):Ints (w.alloc x) k at0 cap xs :=
 h.of_cells fun b o v hc=>by rw [World.cell?_alloc_lt _ _ _ (lt_of_cell' hc)];exact hc
theorem Ints.drew {w:World} {k:IntKind} {at0:Option Addr} {cap:Nat} {xs:List Int} (h:Ints w k at0 cap xs):Ints w.drew k at0 cap xs:=⟨h.room,h.most,h.cells⟩
theorem Ints.drewN {w:World} {k:IntKind} {at0:Option Addr} {cap:Nat} {xs:List Int} (h:Ints w k at0 cap xs) (n:Nat):Ints (w.drewN n) k at0 cap xs:=⟨h.room,h.most,h.cells⟩
theorem Ints.of_owned {w:World} {k:IntKind} {base e:Nat} {v:Value} {xs:List Int} (h:w.ownsRow base e 1 v xs.length (xs.map (Value.int k))) :
   ∃ at0 cap,v=.slice at0 xs.length cap∧Ints w k at0 cap xs:=by
 obtain ⟨_,⟨rfl,h0⟩ | ⟨g,cap,cur,rfl,_,hb,hn,hm,hs,ht⟩⟩:=h
 · have:xs=[]:=List.eq_nil_of_length_eq_zero h0
   subst this
   exact ⟨none,0,rfl,Ints.nil w k⟩
 · refine ⟨some ⟨g,0,none⟩,cap,rfl,hn,by unfold maxLen at hm;omega,fun _=>⟨g,0,rfl,fun i hi=>?_⟩⟩
   rw [World.cell?]
   simp only [hb]
   have e1:cur[i]? = (cur.toList.take (xs.length * 1))[i]?:=by
     rw [List.getElem?_take_of_lt (by omega),Array.getElem?_toList]
   rw [Nat.zero_add,e1,ht]
   unfold nth
   rw [List.getElem?_map,List.getElem?_eq_getElem hi,List.getD_eq_getElem?_getD,List.getElem?_eq_getElem hi]
   rfl
end Go.Proofs.YtnfejdfjlnpldaaGreatDoor
namespace Go.Proofs.YtnfejdfjlnpldaaGreatDoor
open Go.RowKit
theorem wp_append_ints {P:Program} {w:World} {o:Oper} {a:Act} {K:Act→World→Prop} {Q:Exit→Act→World→Prop} (s x:Operand) (t:TypeId)
   (ho:o.op=.call { callee:=.builtin .append,args:=#[s,x],argTypes:=#[t,t] })
   (base:Nat) (e:TypeId) (i:TypeInfo) (z:Value) (bytes:Nat) (k:IntKind) (ht:P.underlying t=some (.slice e)) (hi:P.info? e=some i) (hz:i.zero=some z)
   (hsize:i.size=1) (hby:i.bytes=bytes) (hzs:z.cells.size=1)
   (v:Value) (n:Nat) (l:List Value) (hs:a.eval s=v) (hown:w.ownsRow base e 1 v n l)
   (at0:Option Addr) (cap:Nat) (xs:List Int) (hx:a.eval x=.slice at0 xs.length cap) (hin:Ints w k at0 cap xs) (h0:at0=none→cap=0)
   (h63:n + xs.length≤maxLen) (hbytes:(n + xs.length) * bytes≤140737488355328) (hbase:base≤w.heap.size)
   (h:∀ v' w',w'.ownsRow base e 1 v' (n + xs.length) (l ++ xs.map (Value.int k))→w.grownBy w' v.ownBlock→K (a.put o.dst v') w'):o.wp P a w K Q:=by
 cases at0 with
 | none =>
   have hc:=h0 rfl
   subst hc
   have hl:xs=[]:=List.eq_nil_of_length_eq_zero (by have:=hin.room;omega)
   subst hl
   have hrun:=run_append_owned_none (P:=P) (w:=w) base t o.type e i 1 ht hi v n l hown
   have hk:=h v w (by simpa using hown) (World.grownBy.refl w _)
   unfold Oper.wp
   simp [execOp,ho,resolve,invoke,builtin,hs,hx,hrun,Result.andThen]
   exact hk
 | some ad =>
   obtain ⟨b,off,spot⟩:=ad
   refine wp_append_own w s x t ho base e i z 1 bytes ht hi hz hsize hby hzs (by omega) v n l hs hown ⟨b,off,spot⟩ xs.length cap (xs.map (Value.int k)) hx (by simp) (fun j u hu=>?_) (fun u hu=>?_) h63 hbytes hbase (fun v' w' h1 h2 _=>h v' w' h1 h2)
   · have hj:j < xs.length:=by
       rcases Nat.lt_or_ge j xs.length with q | q
       · exact q
       · rw [List.getElem?_eq_none (by simpa using q)] at hu
         cases hu
     obtain ⟨b',off',e1,hc⟩:=hin.at hj
     cases e1
     rw [List.getElem?_map,List.getElem?_eq_getElem hj] at hu
     simp at hu
     subst hu
     rw [Go.WideShapes.add_plain,hc]
     unfold nth
     rw [List.getD_eq_getElem?_getD,List.getElem?_eq_getElem hj]
     rfl
   · simp at hu
     obtain ⟨y,_,rfl⟩:=hu
     rfl
theorem wpList_append_ints {P:Program} {w:World} {ops:Array Oper} {rest:List Oper} {o:Oper} {a:Act} {Q:Exit→Act→World→Prop} (hw:Region.wanted o (yielded ops a.tmps)=true) (s x:Operand) (t:TypeId)
   (ho:o.op=.call { callee:=.builtin .append,args:=#[s,x],argTypes:=#[t,t] })
   (base:Nat) (e:TypeId) (i:TypeInfo) (z:Value) (bytes:Nat) (k:IntKind) (ht:P.underlying t=some (.slice e)) (hi:P.info? e=some i) (hz:i.zero=some z)
   (hsize:i.size=1) (hby:i.bytes=bytes) (hzs:z.cells.size=1)
   (v:Value) (n:Nat) (l:List Value) (hs:a.eval s=v) (hown:w.ownsRow base e 1 v n l)
   (at0:Option Addr) (cap:Nat) (xs:List Int) (hx:a.eval x=.slice at0 xs.length cap) (hin:Ints w k at0 cap xs) (h0:at0=none→cap=0)
   (h63:n + xs.length≤maxLen) (hbytes:(n + xs.length) * bytes≤140737488355328) (hbase:base≤w.heap.size)
   (h:∀ v' w',w'.ownsRow base e 1 v' (n + xs.length) (l ++ xs.map (Value.int k))→w.grownBy w' v.ownBlock→wpList P ops Q rest (a.put o.dst v') w'):wpList P ops Q (o :: rest) a w :=
 BigFrame.wpList_want hw fun _ hK=>wp_append_ints s x t ho base e i z bytes k ht hi hz hsize hby hzs v n l hs hown at0 cap xs hx hin h0 h63 hbytes hbase fun v' w' h1 h2=>hK _ _ (h v' w' h1 h2)
theorem owns_none {w:World} {base:Nat} {e:TypeId}:w.ownsRow base e 1 (.slice none 0 0) 0 []:=⟨rfl,Or.inl ⟨rfl,rfl⟩⟩
theorem owns_built {w:World} {base:Nat} {e:TypeId} (l:List Value) (hb:base≤w.heap.size) (hl:l.length≤maxLen):(w.alloc (.cells l.toArray e)).ownsRow base e 1 (.slice (some ⟨w.heap.size,0,none⟩) l.length l.length) l.length l :=
 ⟨by simp,Or.inr ⟨w.heap.size,l.length,l.toArray,rfl,hb,heap_alloc_new w _,Nat.le_refl _,hl,by simp,by simp⟩⟩
theorem own_ints {w:World} {k:IntKind} {base e:Nat} {v:Value} {xs:List Int} (h:w.ownsRow base e 1 v xs.length (xs.map (Value.int k))) :
   ∃ at0 cap,v=.slice at0 xs.length cap∧Ints w k at0 cap xs∧(at0=none→cap=0):=by
 obtain ⟨at0,cap,rfl,hi⟩:=Ints.of_owned h
 refine ⟨at0,cap,rfl,hi,fun q=>?_⟩
 subst q
 obtain ⟨_,⟨h1,_⟩ | ⟨g,cap',cur,h1,_⟩⟩:=h
 · injection h1
 · cases h1
end Go.Proofs.YtnfejdfjlnpldaaGreatDoor
namespace Go.Proofs.YtnfejdfjlnpldaaGreatDoor
open Go.ChangeShapes Go.WideShapes Go.ChangeAt Go.RowKit Go.Joins
theorem own:ownKnob Tryz.prog.godebug=none:=by kernel_rfl
theorem laidOut:laidOutB Tryz.prog=true:=by kernel_rfl
theorem trodAll_stays {H:Type} {enc:TypeId × Value→H} {P:Program} (hl:laidOutB P=true) {W W':World} {sp:Nat→Bool} :
   ∀ (ts:List TypeId) (vs:List Value) (ds:List (DataW H)) (ps:List MemPlace),
     (∀ t ∈ ts,P.readableRec t=true∧t < P.types.size) →
     DataW.TrodAll enc P W 0 (fun _=>true) true ts vs ds ps→(∀ x ∈ ps,W.sameAt W' x)→(∀ x ∈ ps,sp x.block=true) →
     DataW.TrodAll enc P W' 0 sp true ts vs ds ps:=by
 intro ts
 induction ts with
 | nil =>
   intro vs ds ps _ h _ _
   obtain ⟨rfl,rfl,rfl⟩:=trodAll_nil h
   exact rfl
 | cons t ts ih =>
   intro vs ds ps ht h hs hp
   obtain ⟨v,vs',d,ds',p,q,rfl,rfl,rfl,h0,hr⟩:=trodAll_cons h
   refine trodAll_cons_mk (WideElems.Trod_stays hl (ht t (by simp)).1 (ht t (by simp)).2 h0 (fun x hx=>hs x (by simp [hx])) (fun x hx=>hp x (by simp [hx]))) ?_
   exact ih vs' ds' q (fun t h=>ht t (by simp [h])) hr (fun x hx=>hs x (by simp [hx])) (fun x hx=>hp x (by simp [hx]))
theorem trodAll_len {H:Type} {enc:TypeId × Value→H} {P:Program} {W:World} {sp:Nat→Bool} :
   ∀ (ts:List TypeId) (vs:List Value) (ds:List (DataW H)) (ps:List MemPlace),
     DataW.TrodAll enc P W 0 sp true ts vs ds ps→vs.length=ts.length∧ds.length=ts.length:=by
 intro ts
 induction ts with
 | nil =>
   intro vs ds ps h
   obtain ⟨rfl,rfl,rfl⟩:=trodAll_nil h
   exact ⟨rfl,rfl⟩
 | cons t ts ih =>
   intro vs ds ps h
   obtain ⟨v,vs',d,ds',p,q,rfl,rfl,rfl,h0,hr⟩:=trodAll_cons h
   have:=ih vs' ds' q hr
   simp [this.1,this.2]
theorem region_still_tail {P:Program} {id:Nat} {Q:Exit→Act→World→Prop} {a:Act} {w:World} {l:List Oper} (n:Nat) (hm:P.follows .mixedOrders=true) (hB:Region.lexTailB .any l.toArray n=true)
   (h:wpStill P l.toArray w.drew (fun a'=>wpList P l.toArray Q (l.drop n) a' w.drew) (l.take n) a):(Code.region id l.toArray true).wp P Q a w :=
 wp_region_still_tail n hm hB h
theorem below_drewN {B:Nat} {a w:World} (h:Below B a w) (n:Nat):Below B a (w.drewN n):=⟨h.os,h.tape,h.output,h.size,h.block⟩
theorem below_thru {w W w1:World} (h:Below w.heap.size w W) (hb:Below W.heap.size W w1):Below w.heap.size w w1:=h.trans (hb.mono h.size)
theorem lt_of_cell {w:World} {b o:Nat} {v:Value} (h:w.cell? ⟨b,o,none⟩=some v):b < w.heap.size:=by
 rcases Nat.lt_or_ge b w.heap.size with hb | hb
 · exact hb
 · simp [World.cell?,Array.getElem?_eq_none hb] at h
theorem cell_below {w w':World} {b o:Nat} {v:Value} (hb:Below w.heap.size w w') (h:w.cell? ⟨b,o,none⟩=some v):w'.cell? ⟨b,o,none⟩=some v:=by
 rw [hb.cell (p:=⟨b,o,none⟩) (lt_of_cell h)];exact h
theorem cell_alloc {w:World} {b o:Nat} {v:Value} {x:Obj} (h:w.cell? ⟨b,o,none⟩=some v):(w.alloc x).cell? ⟨b,o,none⟩=some v:=by
 rw [World.cell?_alloc_lt _ _ _ (lt_of_cell h)];exact h
theorem frozen_below {w w':World} {b o:Nat} {v:Value} (hb:Below w.heap.size w w') (h:w.cell? ⟨b,o,none⟩=some v) (hf:w.frozen? ⟨b,o,none⟩=false):w'.frozen? ⟨b,o,none⟩=false:=by
 rw [hb.frozen (p:=⟨b,o,none⟩) (lt_of_cell h)];exact hf
structure Box (w:World) (b:Nat) (vs:List Value):Prop where
 c:∀ i v,vs[i]? = some v→w.cell? ⟨b,i,none⟩=some v
 f:∀ i v,vs[i]? = some v→w.frozen? ⟨b,i,none⟩=false
 lt:b < w.heap.size
theorem Box.below {w w':World} {b:Nat} {vs:List Value} (h:Box w b vs) (hb:Below w.heap.size w w'):Box w' b vs :=
 ⟨fun i v e=>cell_below hb (h.c i v e),fun i v e=>frozen_below hb (h.c i v e) (h.f i v e),Nat.lt_of_lt_of_le h.lt hb.size⟩
theorem Box.new {w:World} {b:Nat} {l:List Value} {t:TypeId} (hb:b=w.heap.size):Box (w.alloc (.cells l.toArray t)) b l:=by
 subst hb
 refine ⟨fun i v e=>?_,fun i v _=>?_,by simp⟩
 · rw [World.cell?_alloc_new];simpa using e
 · simp
theorem Box.drew {w:World} {b:Nat} {vs:List Value} (h:Box w b vs):Box w.drew b vs:=⟨h.c,h.f,h.lt⟩
theorem Box.drewN {w:World} {b:Nat} {vs:List Value} (h:Box w b vs) (n:Nat):Box (w.drewN n) b vs:=⟨h.c,h.f,h.lt⟩
theorem Box.alloc {w:World} {b:Nat} {vs:List Value} (h:Box w b vs) (o:Obj):Box (w.alloc o) b vs :=
 ⟨fun i v e=>cell_alloc (h.c i v e),fun i v e=>by rw [World.frozen?_alloc_old _ _ _ (Nat.ne_of_lt h.lt)];exact h.f i v e,by have:=h.lt;simp;omega⟩
theorem Box.other {w:World} {b:Nat} {vs:List Value} (h:Box w b vs) {a:Addr} (ha:a.block ≠ b) (x:Value):Box (w.setCell a x) b vs :=
 ⟨fun i v e=>by rw [World.cell?_setCell_other _ _ _ _ (by intro q;rw [q] at ha;exact ha rfl)];exact h.c i v e,fun i v e=>by rw [World.frozen?_setCell];exact h.f i v e,by have:=h.lt;simp;omega⟩
theorem Box.set {w:World} {b:Nat} {vs:List Value} (h:Box w b vs) (i:Nat) (x:Value):Box (w.setCell ⟨b,i,none⟩ x) b (vs.set i x):=by
 refine ⟨fun j v e=>?_,fun j v e=>?_,by have:=h.lt;simp;omega⟩
 · rw [List.getElem?_set] at e
   split at e
   · rename_i hij
     subst hij
     split at e
     · cases e
       exact World.cell?_setCell_same _ _ _ (h.c i vs[i] (by simp))
     · cases e
   · rename_i hij
     rw [World.cell?_setCell_other _ _ _ _ (by intro q;cases q;exact hij rfl)]
     exact h.c j v e
 · rw [World.frozen?_setCell]
   rw [List.getElem?_set] at e
   split at e
   · rename_i hij
     subst hij
     split at e
     · exact h.f i vs[i] (by simp)
     · cases e
   · exact h.f j v e
theorem Box.set2 {w:World} {b:Nat} {x y x' y':Value} (h:Box w b [x,y]):Box ((w.setCell ⟨b,0,none⟩ x').setCell ⟨b,1,none⟩ y') b [x',y']:=(h.set 0 x').set 1 y'
end Go.Proofs.YtnfejdfjlnpldaaGreatDoor
namespace Go.Proofs.YtnfejdfjlnpldaaGreatDoor
open Go.RowKit
theorem nth_all {P:Int→Prop} {xs:List Int} (h:∀ x ∈ xs,P x) (k:Nat) (hk:k < xs.length):P (nth xs k):=by
 unfold nth
 rw [List.getD_eq_getElem?_getD,List.getElem?_eq_getElem hk,Option.getD_some]
 exact h _ (List.getElem_mem hk)
theorem own_block {w':World} {B e n:Nat} {v:Value} {l:List Value} (h:w'.ownsRow B e 1 v n l):∀ k,v.ownBlock=some k→B≤k:=by
 intro k hk
 obtain ⟨_,⟨rfl,_⟩ | ⟨g,cap,cur,rfl,hg,_⟩⟩:=h
 · cases hk
 · cases hk
   exact hg
def IsL (w:World) (k:IntKind) (v:Value) (xs:List Int):Prop:=∃ at0 cap,v=.slice at0 xs.length cap∧Ints w k at0 cap xs∧(at0=none→cap=0)
theorem IsL.below {w w':World} {k:IntKind} {v:Value} {xs:List Int} (h:IsL w k v xs) (hb:Below w.heap.size w w'):IsL w' k v xs:=by
 obtain ⟨a,c,rfl,hi,h0⟩:=h
 exact ⟨a,c,rfl,hi.below hb,h0⟩
theorem IsL.alloc {w:World} {k:IntKind} {v:Value} {xs:List Int} (h:IsL w k v xs) (x:Obj):IsL (w.alloc x) k v xs:=by
 obtain ⟨a,c,rfl,hi,h0⟩:=h
 exact ⟨a,c,rfl,hi.alloc x,h0⟩
theorem IsL.drew {w:World} {k:IntKind} {v:Value} {xs:List Int} (h:IsL w k v xs):IsL w.drew k v xs:=by
 obtain ⟨a,c,rfl,hi,h0⟩:=h
 exact ⟨a,c,rfl,hi.drew,h0⟩
theorem IsL.drewN {w:World} {k:IntKind} {v:Value} {xs:List Int} (h:IsL w k v xs) (n:Nat):IsL (w.drewN n) k v xs:=by
 obtain ⟨a,c,rfl,hi,h0⟩:=h
 exact ⟨a,c,rfl,hi.drewN n,h0⟩
theorem IsL.none {w:World} {k:IntKind}:IsL w k (.slice none 0 0) []:=⟨Option.none,0,rfl,Ints.nil w k,fun _=>rfl⟩
theorem IsL.own {w:World} {k:IntKind} {B e n:Nat} {v:Value} {xs:List Int} (h:w.ownsRow B e 1 v n (xs.map (Value.int k))) (hn:n=xs.length):IsL w k v xs:=by
 subst hn
 exact own_ints h
theorem IsL.built {w:World} {k:IntKind} {b n m:Nat} {c:Array Value} {t:TypeId} (xs:List Int) (hb:b=w.heap.size) (hc:c=(xs.map (Value.int k)).toArray) (hn:n=xs.length) (hm:m=xs.length) (hl:xs.length≤1000):IsL (w.alloc (.cells c t)) k (.slice (some ⟨b,0,Option.none⟩) n m) xs:=by
 subst hb hc hn hm
 have:=owns_built (w:=w) (base:=w.heap.size) (e:=t) (xs.map (Value.int k)) (Nat.le_refl _) (by unfold maxLen;simp;omega)
 have h2:=IsL.own (xs:=xs) this (by simp)
 simpa using h2
theorem IsL.room {w:World} {k:IntKind} {a:Option Addr} {n c:Nat} {xs:List Int} (h:IsL w k (.slice a n c) xs):n=xs.length∧xs.length≤c∧c≤9223372036854775807:=by
 obtain ⟨a',c',e,hi,h0⟩:=h
 injection e with e1 e2 e3
 subst e1 e2 e3
 exact ⟨rfl,hi.room,hi.most⟩
theorem IsL.get {w:World} {k:IntKind} {a:Option Addr} {n c:Nat} {xs:List Int} (h:IsL w k (.slice a n c) xs) (i:Nat) (hi:i < xs.length):∃ b off,a=some ⟨b,off,Option.none⟩∧w.cell? ⟨b,off + i,Option.none⟩=some (.int k (nth xs i)):=by
 obtain ⟨a',c',e,h1,h0⟩:=h
 injection e with e1 e2 e3
 subst e1 e2 e3
 exact h1.at hi
theorem wpList_append_built {P:Program} {w:World} {ops:Array Oper} {rest:List Oper} {o:Oper} {a:Act} {Q:Exit→Act→World→Prop} (hw:Region.wanted o (yielded ops a.tmps)=true) (s x:Operand) (t:TypeId)
   (ho:o.op=.call { callee:=.builtin .append,args:=#[s,x],argTypes:=#[t,t] })
   (e:TypeId) (i:TypeInfo) (z:Value) (bytes:Nat) (k:IntKind) (ht:P.underlying t=some (.slice e)) (hi:P.info? e=some i) (hz:i.zero=some z)
   (hsize:i.size=1) (hby:i.bytes=bytes) (hzs:z.cells.size=1)
   (ys xs:List Int) (c:Array Value) (v2:Value) (b n m:Nat) (hs:a.eval s=.slice (some ⟨b,0,none⟩) n m) (hx:a.eval x=v2)
   (hb:b=w.heap.size) (hc:c=(ys.map (Value.int k)).toArray) (hn:n=ys.length) (hm:m=ys.length) (hin:IsL w k v2 xs)
   (h63:ys.length + xs.length≤maxLen) (hbytes:(ys.length + xs.length) * bytes≤140737488355328)
   (h:∀ v' w',w'.ownsRow w.heap.size e 1 v' (ys ++ xs).length ((ys ++ xs).map (Value.int k))→Below w.heap.size w w'→wpList P ops Q rest (a.put o.dst v') w'):wpList P ops Q (o :: rest) a (w.alloc (.cells c e)):=by
 subst hb hc hn hm
 obtain ⟨a2,c2,rfl,hi2,h02⟩:=hin
 have hown:=owns_built (w:=w) (base:=w.heap.size) (e:=e) (ys.map (Value.int k)) (Nat.le_refl _) (by simp;omega)
 rw [List.length_map] at hown
 refine wpList_append_ints hw s x t ho w.heap.size e i z bytes k ht hi hz hsize hby hzs _ ys.length _ hs hown a2 c2 xs hx (hi2.alloc _) h02 h63 hbytes (by simp) (fun v' w' h1 h2=>h v' w' ?_ ?_)
 · rw [List.length_append,List.map_append]
   exact h1
 · exact ((Below.refl _ w).alloc (Nat.le_refl _) _).grown h2 (by simp) (own_block hown)
end Go.Proofs.YtnfejdfjlnpldaaGreatDoor
namespace Go.Proofs.YtnfejdfjlnpldaaGreatDoor
open Go.RowKit
theorem Box.newc {w:World} {b:Nat} {c:Array Value} {l:List Value} {t:TypeId} (hc:c=l.toArray) (hb:b=w.heap.size):Box (w.alloc (.cells c t)) b l:=by
 subst hc
 exact Box.new hb
theorem Box.range {w:World} {b:Nat} {vs:List Value} (h:Box w b vs):w.rangeAt b 0 vs:=fun j v e=>by
 rw [Nat.zero_add]
 exact h.c j v e
theorem Box.there {w:World} {b:Nat} {vs:List Value} (h:Box w b vs):w.there b 0 vs.length:=fun j hj=>by
 rw [Nat.zero_add]
 have e:vs[j]? = some vs[j]:=List.getElem?_eq_getElem hj
 exact ⟨by rw [h.c j _ e];rfl,h.f j _ e⟩
theorem size_setCells (b:Nat):∀ (vs:List Value) (o:Nat) (w:World),(w.setCells b o vs).heap.size=w.heap.size
 | [],_,_=>rfl
 | v :: r,o,w=>by rw [World.setCells,size_setCells b r];simp
theorem Box.stored {w:World} {b:Nat} {us vs:List Value} (h:Box w b us) (hl:us.length=vs.length):Box (w.setCells b 0 vs) b vs:=by
 refine ⟨fun i v e=>?_,fun i v e=>?_,by rw [size_setCells];exact h.lt⟩
 · have hi:i < vs.length:=(List.getElem?_eq_some_iff.1 e).1
   have:=World.cell?_setCells_in b vs 0 w (fun j hj=>by
     have e:us[j]? = some (us[j]'(by omega)):=List.getElem?_eq_getElem _
     rw [Nat.zero_add,h.c j _ e];rfl) i hi
   rw [Nat.zero_add] at this
   rw [this,← e,List.getElem?_eq_getElem hi]
 · have hi:i < vs.length:=(List.getElem?_eq_some_iff.1 e).1
   rw [World.frozen?_setCells]
   exact h.f i _ (List.getElem?_eq_getElem (by omega))
theorem Box.past {w:World} {b c:Nat} {us:List Value} (h:Box w c us) (hc:b ≠ c) (vs:List Value):Box (w.setCells b 0 vs) c us :=
 ⟨fun i v e=>by rw [World.cell?_setCells_out b vs 0 w ⟨c,i,none⟩ (fun q _=>absurd q.symm hc)];exact h.c i v e,
  fun i v e=>by rw [World.frozen?_setCells];exact h.f i v e,by rw [size_setCells];exact h.lt⟩
theorem below_setCells {B b:Nat} (hb:B≤b) {a:World}:∀ (vs:List Value) (o:Nat) (w:World),Below B a w→Below B a (w.setCells b o vs)
 | [],_,_,h=>h
 | v :: r,o,_,h=>below_setCells hb r (o + 1) _ (h.setCell (p:=⟨b,o,none⟩) hb v)
theorem cells_past {w:World} {b c o:Nat} {v:Value} (h:w.cell? ⟨c,o,none⟩=some v) (hc:b ≠ c) (vs:List Value):(w.setCells b 0 vs).cell? ⟨c,o,none⟩=some v:=by
 rw [World.cell?_setCells_out b vs 0 w ⟨c,o,none⟩ (fun q _=>absurd q.symm hc)];exact h
theorem block_setCells (b g:Nat) (hg:b ≠ g):∀ (vs:List Value) (o:Nat) (w:World),(w.setCells b o vs).heap[g]? = w.heap[g]?
 | [],_,_=>rfl
 | v :: r,o,w=>by
   rw [World.setCells,block_setCells b g hg r]
   exact heap_setCell_other w ⟨b,o,none⟩ g v (fun e=>hg e.symm)
structure Stored (w:World) (b:Nat) (vs:List Value) (W:World):Prop where
 box:Box W b vs
 past:∀ c us,b ≠ c→Box w c us→Box W c us
 below:∀ (B:Nat) (a:World),B≤b→Below B a w→Below B a W
 cell:∀ c o v,b ≠ c→w.cell? ⟨c,o,none⟩=some v→W.cell? ⟨c,o,none⟩=some v
 size:W.heap.size=w.heap.size
 block:∀ g,b ≠ g→W.heap[g]? = w.heap[g]?
theorem Stored.mk' {w:World} {b:Nat} {us vs:List Value} (h:Box w b us) (hl:us.length=vs.length):Stored w b vs (w.setCells b 0 vs) :=
 ⟨h.stored hl,fun _ _ hc h'=>h'.past hc vs,fun _ _ hb h'=>below_setCells hb vs 0 w h',fun _ _ _ hc h'=>cells_past h' hc vs,size_setCells b vs 0 w,fun g hg=>block_setCells b g hg vs 0 w⟩
theorem oneCell_ints {k:IntKind} (xs:List Int):(xs.map (Value.int k)).toArray.all (·.oneCell')=true:=by
 apply all_oneCell_toArray
 intro v hv
 obtain ⟨x,_,rfl⟩:=List.mem_map.1 hv
 rfl
section
variable {P:Program} {ops:Array Oper} {rest:List Oper} {o:Oper} {a:Act} {w:World} {K:Act→World→Prop} {Q:Exit→Act→World→Prop} {E:Prop}
theorem wpList_load_box (hgd:o.guard=none) (ty:TypeId) (x:Operand) (ho:o.op=.load ty x) {b:Nat} {cs:List Value} (hb:Box w b cs) (hx:a.eval x=.pointer (some ⟨b,0,none⟩)) {d:TypeDesc}
   (hu:P.underlying ty=some d) (hd:d.isRow=true) (hi:(P.info? ty).map (·.size)=some cs.length)
   (h:wpList P ops Q rest (a.put o.dst (.agg cs.toArray)) w):wpList P ops Q (o :: rest) a w :=
 wpList_load_mid hgd ty x ho b 0 hx cs d hb.range hu hd hi h
theorem wpList_store_box (hgd:o.guard=none) (ty:TypeId) (x y:Operand) (ho:o.op=.store ty x y) {b:Nat} {us cs:List Value} (hb:Box w b us) (hx:a.eval x=.pointer (some ⟨b,0,none⟩)) (hy:a.eval y=.agg cs.toArray)
   (hi:(P.info? ty).map (·.size)=some cs.length) (hl:us.length=cs.length) (h1:cs.toArray.all (·.oneCell')=true)
   (h:∀ W,Stored w b cs W→wpList P ops Q rest (a.put o.dst undef) W):wpList P ops Q (o :: rest) a w :=
 wpList_store_mid hgd ty x y ho b 0 cs.toArray hx hy (by have:=hb.there;rw [hl] at this;simpa using this) (by simpa using hi) h1 (h _ (Stored.mk' hb hl))
theorem step_load_box (hgd:o.guard=none) (ty:TypeId) (x:Operand) (ho:o.op=.load ty x) {b:Nat} {cs:List Value} (hb:Box w b cs) (hx:a.eval x=.pointer (some ⟨b,0,none⟩)) {d:TypeDesc}
   (hu:P.underlying ty=some d) (hd:d.isRow=true) (hi:(P.info? ty).map (·.size)=some cs.length)
   (hK:K (a.put o.dst (.agg cs.toArray)) w):if Region.wanted o (yielded ops a.tmps)=true then Oper.wp P o a w K Q else E:=by
 rw [if_pos (by simp [Region.wanted,hgd])]
 exact wp_load_mid ty x ho b 0 hx cs d hb.range hu hd hi hK
theorem step_store_box (hgd:o.guard=none) (ty:TypeId) (x y:Operand) (ho:o.op=.store ty x y) {b:Nat} {us cs:List Value} (hb:Box w b us) (hx:a.eval x=.pointer (some ⟨b,0,none⟩)) (hy:a.eval y=.agg cs.toArray)
   (hi:(P.info? ty).map (·.size)=some cs.length) (hl:us.length=cs.length) (h1:cs.toArray.all (·.oneCell')=true)
   (hK:∀ W,Stored w b cs W→K (a.put o.dst undef) W):if Region.wanted o (yielded ops a.tmps)=true then Oper.wp P o a w K Q else E:=by
 rw [if_pos (by simp [Region.wanted,hgd])]
 exact wp_store_mid ty x y ho b 0 cs.toArray hx hy (by have:=hb.there;rw [hl] at this;simpa using this) (by simpa using hi) h1 (hK _ (Stored.mk' hb hl))
theorem run_var_box {b:Nat} {cs:List Value} (hb:Box w b cs) (ty:TypeId) {d:TypeDesc} (hu:P.underlying ty=some d) (hd:d.isRow=true) (hi:(P.info? ty).map (·.size)=some cs.length) :
   (loadVar ty ⟨b,0,none⟩).run P w=.ok (.agg cs.toArray) w:=run_loadVar_mid w b 0 ty cs d hb.range hu hd hi
theorem results_box {fn:Func} {p:Tmp} {ty:TypeId} (h:fn.results = #[.cell p ty]) {tmps:Array Value} {b:Nat} {cs:List Value} (hb:Box w b cs)
   (hp:tmps.getD p undef=.pointer (some ⟨b,0,none⟩)) {d:TypeDesc} (hu:P.underlying ty=some d) (hd:d.isRow=true) (hi:(P.info? ty).map (·.size)=some cs.length) :
   (results fn tmps).run P w=.ok (.agg cs.toArray) w:=by
 have hp':tmps[p]?.getD undef=.pointer (some ⟨b,0,none⟩):=by simpa using hp
 simp [results,h,hp',asAddr,run_var_box hb ty hu hd hi]
theorem results_box2 {fn:Func} {p q:Tmp} {ty:TypeId} (h:fn.results = #[.cell p ty,.tmp q]) {tmps:Array Value} {b:Nat} {cs:List Value} {u:Value} (hb:Box w b cs)
   (hp:tmps.getD p undef=.pointer (some ⟨b,0,none⟩)) (hq:tmps.getD q undef=u) {d:TypeDesc} (hu:P.underlying ty=some d) (hd:d.isRow=true) (hi:(P.info? ty).map (·.size)=some cs.length) :
   (results fn tmps).run P w=.ok (.tuple #[.agg cs.toArray,u]) w:=by
 have hp':tmps[p]?.getD undef=.pointer (some ⟨b,0,none⟩):=by simpa using hp
 have hq':tmps[q]?.getD undef=u:=by simpa using hq
 simp [results,h,hp',hq',asAddr,run_var_box hb ty hu hd hi]
end
end Go.Proofs.YtnfejdfjlnpldaaGreatDoor
namespace Go.Proofs.YtnfejdfjlnpldaaGreatDoor
open Go.RowKit
def zb (n:Nat):Array Value:=((List.replicate n (0:Int)).map (Value.int .u8)).toArray
theorem made_zb (n:Nat):madeCells #[.int .u8 0] n=zb n:=by
 apply Array.ext
 · simp [madeCells,zb]
 · intro i h1 h2
   simp [madeCells,zb,Nat.mod_one]
set_option maxRecDepth 100000 in
theorem info_u8:(Tryz.prog.info? 5).map (fun i=>(i.zero,i.size,i.bytes))=some (some (.int .u8 0),1,1):=by kernel_rfl
set_option maxRecDepth 100000 in
theorem make_bytes (m:Nat) (hm:m≤1000000) (w:World):(Instr.makeSlice 43 (.int .i64 (m:Int)) (.int .i64 (m:Int))).run Tryz.prog w=.ok (.slice (some ⟨w.heap.size,0,none⟩) m m) (w.alloc (.cells (zb m) 5)):=by
 obtain ⟨ti,hin,hz0,hz1,hz2⟩:=info_parts info_u8
 rw [run_make (P:=Tryz.prog) w 43 5 ti (.int .u8 0) Tryz.underlying43 hin hz0 .i64 .i64 m m (by omega) (by omega) (by rw [hz2];omega) (by omega),hz1]
 simp only [Int.toNat_natCast,Nat.mul_one]
 rw [← made_zb]
 rfl
end Go.Proofs.YtnfejdfjlnpldaaGreatDoor
namespace Go.Proofs.YtnfejdfjlnpldaaGreatDoor
open Go.RowKit
theorem eq_ints {P:Program} (w:World) (d:Nat) {t e:TypeId} {n:Nat} {k:IntKind} (ht:P.underlying t=some (.array n e)) (he:P.underlying e=some (.int k)) (hs:(P.info? e).map (·.size)=some 1)
   (xs ys:List Int) (hx:xs.length=n) (hy:ys.length=n) :
   (Op.equalIn (d + 2) t (.agg (xs.map (Value.int k)).toArray) (.agg (ys.map (Value.int k)).toArray)).run P w=.ok (decide (xs=ys)) w:=by
 have hz:(Go.sizeOf e).run P w=.ok 1 w:=by
   cases hq:P.info? e with
   | none=>simp [hq] at hs
   | some i=>simp [hq] at hs;simp [Go.sizeOf,typeInfo,hq,hs]
 have hag:(isAgg e).run P w=.ok false w:=by
   unfold isAgg
   rw [Sem.run_bind,run_underlying he w]
   rfl
 rw [show d + 2=(d + 1) + 1 from rfl,Op.equalIn]
 simp only [Sem.run_bind,run_underlying ht,Result.andThen_ok,hz]
 simp only [Std.Legacy.Range.forIn_eq_forIn_range',Std.Legacy.Range.size,Nat.sub_zero,Nat.add_sub_cancel,Nat.div_one]
 have hpart:∀ (zs:List Int) (i:Nat) (h:i < zs.length),(part e (zs.map (Value.int k)).toArray (i * 1)).run P w=.ok (.int k zs[i]) w:=fun zs i h=>by
   unfold part
   simp [Sem.run_bind,hag,h]
 have key:∀ (m i:Nat),i + m=n→(Sem.run P (forIn (List.range' i m) ((none:Option Bool),()) fun i (_s:Option Bool × Unit)=>do
           let a ← part e (xs.map (Value.int k)).toArray (i * 1)
           let b ← part e (ys.map (Value.int k)).toArray (i * 1)
           let c ← Op.equalIn (d + 1) e a b
           if (!c)=true then pure (ForInStep.done (some false,())) else pure (ForInStep.yield (none,()))) w)=.ok (if xs.drop i=ys.drop i then none else some false,()) w:=by
   intro m
   induction m with
   | zero =>
     intro i hi
     rw [List.drop_eq_nil_of_le (by omega),List.drop_eq_nil_of_le (by omega)]
     simp
   | succ m ih =>
     intro i hi
     have h1:i < xs.length:=by omega
     have h2:i < ys.length:=by omega
     rw [List.range'_succ,List.forIn_cons,List.drop_eq_getElem_cons h1,List.drop_eq_getElem_cons h2]
     simp only [Sem.run_bind,hpart xs i h1,hpart ys i h2,Result.andThen_ok,run_equalIn_int w d e k k _ _ he]
     by_cases hq:xs[i]=ys[i]
     · simp only [hq,beq_self_eq_true,Bool.not_true,Bool.false_eq_true,if_false,Sem.run_pure,Result.andThen_ok]
       rw [ih (i + 1) (by omega)]
       simp only [List.cons.injEq,true_and]
     · have hb:(xs[i] == ys[i])=false:=by simpa using hq
       simp only [hb,Bool.not_false,if_true,List.cons.injEq,hq,false_and,if_false,Sem.run_pure,Result.andThen_ok]
 rw [key n 0 (by omega)]
 by_cases hq:xs=ys
 · simp [hq]
 · simp [hq]
end Go.Proofs.YtnfejdfjlnpldaaGreatDoor
namespace Go.Proofs.YtnfejdfjlnpldaaGreatDoor
open Go.RowKit
theorem Stored.part {w:World} {b k:Nat} {us vs ws:List Value} (h:Box w b us) (hk:k + vs.length≤us.length) (hw:ws=us.take k ++ vs ++ us.drop (k + vs.length)):Stored w b ws (w.setCells b k vs):=by
 have hl:ws.length=us.length:=by rw [hw];simp;omega
 have hat:∀ i v,ws[i]? = some v→(w.setCells b k vs).cell? ⟨b,i,none⟩=some v:=fun i v e=>by
   subst hw
   by_cases h1:i < k
   · rw [World.cell?_setCells_out b vs k w ⟨b,i,none⟩ (fun _ _=>Or.inl h1)]
     rw [List.append_assoc,List.getElem?_append_left (by rw [List.length_take];omega),List.getElem?_take_of_lt h1] at e
     exact h.c i v e
   · by_cases h2:i < k + vs.length
     · have:=World.cell?_setCells_in b vs k w (fun j hj=>by
         rw [h.c (k + j) _ (List.getElem?_eq_getElem (by omega))];rfl) (i - k) (by omega)
       rw [show k + (i - k)=i by omega] at this
       rw [this]
       rw [List.append_assoc,List.getElem?_append_right (by rw [List.length_take];omega),List.length_take,Nat.min_eq_left (by omega),List.getElem?_append_left (by omega)] at e
       rw [← e,List.getElem?_eq_getElem (by omega)]
     · rw [World.cell?_setCells_out b vs k w ⟨b,i,none⟩ (fun _ _=>Or.inr (by show k + vs.length≤i;omega))]
       rw [List.getElem?_append_right (by rw [List.length_append,List.length_take];omega),List.length_append,List.length_take,Nat.min_eq_left (by omega),List.getElem?_drop,show k + vs.length + (i - (k + vs.length))=i by omega] at e
       exact h.c i v e
 refine ⟨⟨hat,fun i v e=>?_,by rw [size_setCells];exact h.lt⟩,fun c us' hc h'=>⟨fun i v e=>?_,fun i v e=>?_,?_⟩,fun _ _ hb h'=>below_setCells hb vs k w h',fun c o v hc h'=>?_,size_setCells b vs k w,fun g hg=>block_setCells b g hg vs k w⟩
 · rw [World.frozen?_setCells]
   have hi:i < us.length:=by rw [← hl];exact (List.getElem?_eq_some_iff.1 e).1
   exact h.f i _ (List.getElem?_eq_getElem hi)
 · rw [World.cell?_setCells_out b vs k w ⟨c,i,none⟩ (fun q _=>absurd q.symm hc)];exact h'.c i v e
 · rw [World.frozen?_setCells];exact h'.f i v e
 · rw [size_setCells];exact h'.lt
 · rw [World.cell?_setCells_out b vs k w ⟨c,o,none⟩ (fun q _=>absurd q.symm hc)];exact h'
theorem Box.thereAt {w:World} {b:Nat} {vs:List Value} (h:Box w b vs) (k n:Nat) (hk:k + n≤vs.length):w.there b k n:=fun j hj=>by
 have e:vs[k + j]? = some (vs[k + j]'(by omega)):=List.getElem?_eq_getElem _
 exact ⟨by rw [h.c _ _ e];rfl,h.f _ _ e⟩
section
variable {P:Program} {ops:Array Oper} {rest:List Oper} {o:Oper} {a:Act} {w:World} {Q:Exit→Act→World→Prop}
theorem wpList_store_part (hgd:o.guard=none) (ty:TypeId) (x y:Operand) (ho:o.op=.store ty x y) {b k:Nat} {us cs ws:List Value} (hb:Box w b us) (hx:a.eval x=.pointer (some ⟨b,k,none⟩)) (hy:a.eval y=.agg cs.toArray)
   (hi:(P.info? ty).map (·.size)=some cs.length) (hk:k + cs.length≤us.length) (hw:ws=us.take k ++ cs ++ us.drop (k + cs.length)) (h1:cs.toArray.all (·.oneCell')=true)
   (h:∀ W,Stored w b ws W→wpList P ops Q rest (a.put o.dst undef) W):wpList P ops Q (o :: rest) a w :=
 wpList_store_mid hgd ty x y ho b k cs.toArray hx hy (by simpa using hb.thereAt k cs.length hk) (by simpa using hi) h1 (h _ (Stored.part hb hk hw))
end
end Go.Proofs.YtnfejdfjlnpldaaGreatDoor
namespace Go.Proofs.YtnfejdfjlnpldaaGreatDoor
open Go.RowKit
theorem fold_set (V:List Value):∀ (k:Nat) (c:Array Value),(V.zipIdx k).foldl (fun cs x=>cs.setIfInBounds x.2 x.1) c=((c.toList.take k ++ V.take (c.size - k)) ++ c.toList.drop (k + V.length)).toArray∨c.size < k:=by
 induction V with
 | nil =>
   intro k c
   rcases Nat.lt_or_ge c.size k with q | q
   · exact Or.inr q
   left
   simp
 | cons v V ih =>
   intro k c
   rcases Nat.lt_or_ge c.size k with q | q
   · exact Or.inr q
   left
   rw [List.zipIdx_cons,List.foldl_cons]
   rcases Nat.eq_or_lt_of_le q with e | e
   · subst e
     have h2:∀ (V:List Value) (j:Nat) (c:Array Value),c.size≤j→(V.zipIdx j).foldl (fun cs x=>cs.setIfInBounds x.2 x.1) c=c:=by
       intro V
       induction V with
       | nil=>intros;rfl
       | cons v V ih =>
         intro j c hc
         rw [List.zipIdx_cons,List.foldl_cons]
         have:c.setIfInBounds j v=c:=Array.setIfInBounds_eq_of_size_le hc
         rw [this]
         exact ih _ _ (by omega)
     have:c.setIfInBounds c.size v=c:=Array.setIfInBounds_eq_of_size_le (Nat.le_refl _)
     show List.foldl _ (c.setIfInBounds c.size v) _=_
     rw [this,h2 V _ c (by omega)]
     simp
     rw [List.drop_eq_nil_of_le (by simp),List.append_nil,List.take_of_length_le (by simp)]
   · show List.foldl _ (c.setIfInBounds k v) _=_
     rcases ih (k + 1) (c.setIfInBounds k v) with h | h
     · rw [h]
       simp only [Array.toList_setIfInBounds,Array.size_setIfInBounds,List.length_cons]
       congr 1
       have hl:k < c.toList.length:=by simpa using e
       rw [List.take_set,List.take_succ_eq_append_getElem hl,List.set_append_right _ _ (by simp;omega),List.length_take,Nat.min_eq_left (by omega),Nat.sub_self,List.drop_set_of_lt (by omega)]
       simp only [List.set_cons_zero,List.append_assoc,List.cons_append,List.nil_append]
       rw [show c.size - k=(c.size - (k + 1)) + 1 by omega,List.take_succ_cons,show k + 1 + V.length=k + (V.length + 1) by omega]
       simp
     · simp at h
       omega
theorem fold_all (V:List Value) (c:Array Value) (h:c.size=V.length):V.zipIdx.foldl (fun cs x=>cs.setIfInBounds x.2 x.1) c=V.toArray:=by
 rcases fold_set V 0 c with e | e
 · rw [e,Nat.sub_zero,Nat.zero_add,h,List.take_length,List.drop_eq_nil_of_le (by simp [h])]
   simp
 · omega
theorem run_bslice {P:Program} (w:World) (t e:TypeId) (i:TypeInfo) (z:Value) (s:Nat) (ht:P.underlying t=some (.slice e)) (hi:P.info? e=some i) (hz:i.zero=some z) (hs:i.size=s)
   (hzs:z.cells.size=s) (V:List Value) (hV:V.length=s) (h0:0 < s) (hb:s≤1000) :
   (Instr.buildSlice t 1 #[(0,.agg V.toArray)]).run P w=.ok (.slice (some ⟨w.heap.size,0,none⟩) 1 1) (w.alloc (.cells V.toArray e)):=by
 have hc:∀ c:Array Value,c.size=s→List.foldl (fun cs (x:Value × Nat)=>cs.setIfInBounds x.2 x.1) c V.zipIdx=V.toArray:=fun c h=>fold_all V c (by omega)
 subst hs
 have h1:¬ (i.size > 2 ^ 24):=by omega
 have h2:¬ (i.size=0):=by omega
 simp [Instr.buildSlice,run_underlying ht,Go.sizeOf,typeInfo,hi,Go.zeroValue,hz,Instr.fill,hV,h1,h2,hc,go_sem]
section
variable {P:Program} {ops:Array Oper} {o:Oper} {a:Act} {w:World} {K:Act→World→Prop} {Q:Exit→Act→World→Prop} {E:Prop} {rest:List Oper}
theorem wp_bslice (t:TypeId) (n:Nat) (x:Operand) (ho:o.op=.buildSlice t n #[(0,x)]) {v u:Value} {w':World} (hx:a.eval x=u) (hr:(Instr.buildSlice t n #[(0,u)]).run P w=.ok v w')
   (h:K (a.put o.dst v) w'):Oper.wp P o a w K Q:=by
 subst hx
 unfold Oper.wp execOp
 simp [ho,hr,Result.andThen]
 exact h
theorem step_bslice (hgd:o.guard=none) (t:TypeId) (n:Nat) (x:Operand) (ho:o.op=.buildSlice t n #[(0,x)]) {v u:Value} {w':World} (hx:a.eval x=u) (hr:(Instr.buildSlice t n #[(0,u)]).run P w=.ok v w')
   (h:K (a.put o.dst v) w'):if Region.wanted o (yielded ops a.tmps)=true then Oper.wp P o a w K Q else E:=by
 rw [if_pos (by simp [Region.wanted,hgd])]
 exact wp_bslice t n x ho hx hr h
end
end Go.Proofs.YtnfejdfjlnpldaaGreatDoor
namespace Go.Proofs.YtnfejdfjlnpldaaGreatDoor
open Go.RowKit
theorem fold_off (V:List Value) (off:Nat):∀ (j:Nat) (c:Array Value),(V.zipIdx j).foldl (fun cs x=>cs.setIfInBounds (off + x.2) x.1) c=(V.zipIdx (off + j)).foldl (fun cs x=>cs.setIfInBounds x.2 x.1) c:=by
 induction V with
 | nil=>intros;rfl
 | cons v V ih =>
   intro j c
   rw [List.zipIdx_cons,List.zipIdx_cons,List.foldl_cons,List.foldl_cons,ih (j + 1)]
   rfl
theorem fillN_all (s:Nat):∀ (Vs:List (List Value)) (k:Nat) (c:Array Value),(∀ V ∈ Vs,V.length=s)→(k + Vs.length) * s≤c.size →
   Instr.fill (fun i=>some (i * s,s)) c ((Vs.zipIdx k).map fun x=>(x.2,Value.agg x.1.toArray))=some ((c.toList.take (k * s) ++ Vs.flatten) ++ c.toList.drop ((k + Vs.length) * s)).toArray
 | [],k,c,_,_=>by simp [Instr.fill]
 | V :: Vs,k,c,h,hc=>by
   have hV:V.length=s:=h V (by simp)
   have e0:(k + (V :: Vs).length) * s=k * s + s + Vs.length * s:=by rw [List.length_cons,Nat.add_mul,Nat.add_mul];omega
   rw [e0] at hc
   rw [List.zipIdx_cons,List.map_cons,Instr.fill]
   have hcl:(Value.agg V.toArray).cells=V.toArray:=rfl
   rw [hcl]
   simp only [List.size_toArray,hV]
   rw [if_neg (by simp;omega)]
   have hf:=fold_set V (k * s) c
   have hf':(V.zipIdx (k * s)).foldl (fun cs x=>cs.setIfInBounds x.2 x.1) c=((c.toList.take (k * s) ++ V) ++ c.toList.drop (k * s + s)).toArray:=by
     rcases hf with e | e
     · rw [e,List.take_of_length_le (l:=V) (by omega),hV]
     · omega
   have hz:V.toArray.zipIdx.foldl (fun cs (x:Value × Nat)=>cs.setIfInBounds (k * s + x.2) x.1) c=((c.toList.take (k * s) ++ V) ++ c.toList.drop (k * s + s)).toArray:=by
     rw [← hf',← Array.foldl_toList,Array.toList_zipIdx]
     have:=fold_off V (k * s) 0 c
     rw [Nat.add_zero] at this
     exact this
   have hz2:(Array.foldl (fun cs (x:Value × Nat)=>match x with | (c,j)=>cs.setIfInBounds (k * s + j) c) c V.toArray.zipIdx)=((c.toList.take (k * s) ++ V) ++ c.toList.drop (k * s + s)).toArray:=hz
   rw [hz2,fillN_all s Vs (k + 1) _ (fun U hU=>h U (by simp [hU]))]
   · congr 2
     have l1:(c.toList.take (k * s) ++ V).length=k * s + s:=by rw [List.length_append,List.length_take,hV,Array.length_toList];omega
     have e1:(k + 1) * s=k * s + s:=by rw [Nat.add_mul];omega
     have e2:(k + 1 + Vs.length) * s=k * s + s + Vs.length * s:=by rw [Nat.add_mul,Nat.add_mul];omega
     rw [e1,e2,e0]
     simp only [List.flatten_cons]
     rw [List.take_left' l1,List.drop_append,l1,List.drop_eq_nil_of_le (by rw [l1];omega),List.drop_drop,List.nil_append,List.append_assoc,List.append_assoc]
     rw [show k * s + s + (k * s + s + Vs.length * s - (k * s + s))=k * s + s + Vs.length * s by omega]
     simp
   · simp only [List.size_toArray,List.length_append,List.length_take,List.length_drop,Array.length_toList,hV]
     rw [show (k + 1 + Vs.length) * s=k * s + s + Vs.length * s by rw [Nat.add_mul,Nat.add_mul];omega]
     omega
theorem run_bsliceN {P:Program} (w:World) (t e:TypeId) (i:TypeInfo) (z:Value) (s:Nat) (ht:P.underlying t=some (.slice e)) (hi:P.info? e=some i) (hz:i.zero=some z) (hs:i.size=s)
   (hzs:z.cells.size=s) {n:Nat} (Vs:List (List Value)) (hV:∀ V ∈ Vs,V.length=s) (h0:0 < s) (hb:Vs.length * s≤10000) (parts:Array (Nat × Value)) (hp:parts.toList=Vs.zipIdx.map fun x=>(x.2,Value.agg x.1.toArray)) (hn:n=Vs.length) (hn0:0 < n) :
   (Instr.buildSlice t n parts).run P w=.ok (.slice (some ⟨w.heap.size,0,none⟩) n n) (w.alloc (.cells Vs.flatten.toArray e)):=by
 subst hs hn
 have h1:¬ (Vs.length * i.size > 2 ^ 24):=by omega
 have h2:¬ (Vs.length * i.size=0):=by have:=Nat.mul_pos hn0 h0;omega
 have hf:=fun (c:Array Value) (hc:c.size=Vs.length * i.size)=>fillN_all i.size Vs 0 c hV (by rw [Nat.zero_add];omega)
 have hf2:∀ c:Array Value,c.size=Vs.length * i.size→Instr.fill (fun j=>some (j * i.size,i.size)) c parts.toList=some Vs.flatten.toArray:=fun c hc=>by
   rw [hp,hf c hc]
   rw [Nat.zero_mul,List.take_zero,Nat.zero_add,List.drop_eq_nil_of_le (by simp [hc])]
   simp
 simp [Instr.buildSlice,run_underlying ht,Go.sizeOf,typeInfo,hi,Go.zeroValue,hz,h1,h2,hf2,go_sem]
section
variable {P:Program} {ops:Array Oper} {o:Oper} {a:Act} {w:World} {K:Act→World→Prop} {Q:Exit→Act→World→Prop} {E:Prop} {rest:List Oper}
theorem wp_bsliceN (t:TypeId) (n:Nat) (xs:Array (Nat × Operand)) (ho:o.op=.buildSlice t n xs) {v:Value} {us:Array (Nat × Value)} {w':World} (hx':(xs.toList.map fun p=>(p.1,a.eval p.2))=us.toList) (hr:(Instr.buildSlice t n us).run P w=.ok v w')
   (h:K (a.put o.dst v) w'):Oper.wp P o a w K Q:=by
 have hx:(xs.map fun (i,x)=>(i,a.eval x))=us:=by
   apply Array.ext'
   rw [Array.toList_map,← hx']
 subst hx
 unfold Oper.wp execOp
 simp only [ho,Sem.run_bind,hr,Result.andThen_ok,Sem.run_pure]
 exact h
theorem wpList_bsliceN (hgd:o.guard=none) (t:TypeId) (n:Nat) (xs:Array (Nat × Operand)) (ho:o.op=.buildSlice t n xs) {v:Value} {us:Array (Nat × Value)} {w':World} (hx:(xs.toList.map fun p=>(p.1,a.eval p.2))=us.toList) (hr:(Instr.buildSlice t n us).run P w=.ok v w')
   (h:wpList P ops Q rest (a.put o.dst v) w'):wpList P ops Q (o :: rest) a w :=
 wpList_plain hgd fun _ hK=>wp_bsliceN t n xs ho hx hr (hK _ _ h)
end
end Go.Proofs.YtnfejdfjlnpldaaGreatDoor
namespace Go.Proofs.YtnfejdfjlnpldaaGreatDoor
open Go.ChangeShapes Go.WideShapes Go.ChangeAt Go.RowKit Go.Joins
def FitC (q:IntKind) (c:Value):Prop:=∃ n:Int,c=.int q n∧(Lit.int q n).wf=true
def Fit:List IntKind→List Value→Prop
 | [],[]=>True
 | q :: ks,c :: cs=>FitC q c∧Fit ks cs
 | _,_=>False
theorem Fit.len:∀ {ks:List IntKind} {cs:List Value},Fit ks cs→cs.length=ks.length
 | [],[],_=>rfl
 | _ :: _,_ :: _,h=>by simp [Fit.len h.2]
 | [],_ :: _,h=>h.elim
 | _ :: _,[],h=>h.elim
theorem Fit.cons {q:IntKind} {ks:List IntKind} {c:Value} {cs:List Value} (h:FitC q c) (h2:Fit ks cs):Fit (q :: ks) (c :: cs):=⟨h,h2⟩
theorem Fit.inv {q:IntKind} {ks:List IntKind}:∀ {cs:List Value},Fit (q :: ks) cs→∃ (n:Int) (cs':List Value),cs=.int q n :: cs'∧(Lit.int q n).wf=true∧Fit ks cs'
 | [],h=>h.elim
 | _ :: cs,⟨⟨n,e,h⟩,h2⟩=>⟨n,cs,by rw [e],h,h2⟩
theorem Fit.app:∀ {ks ls:List IntKind} {cs ds:List Value},Fit ks cs→Fit ls ds→Fit (ks ++ ls) (cs ++ ds)
 | [],_,[],_,_,h2=>h2
 | _ :: _,_,_ :: _,_,h,h2=>⟨h.1,Fit.app h.2 h2⟩
 | [],_,_ :: _,_,h,_=>h.elim
 | _ :: _,_,[],_,h,_=>h.elim
theorem Fit.split:∀ {ks ls:List IntKind} {cs:List Value},Fit (ks ++ ls) cs→Fit ks (cs.take ks.length)∧Fit ls (cs.drop ks.length)
 | [],_,cs,h=>⟨by simp [Fit],by simpa using h⟩
 | _ :: ks,ls,[],h=>h.elim
 | _ :: ks,ls,c :: cs,h=>by
   have:=Fit.split h.2
   exact ⟨⟨h.1,this.1⟩,this.2⟩
theorem Fit.row {n:Nat} {ks:List IntKind}:∀ {cs:List Value},Fit (List.replicate n ks).flatten cs→∀ i,i < n→Fit ks ((cs.drop (i * ks.length)).take ks.length):=by
 induction n with
 | zero=>intro cs _ i hi;omega
 | succ n ih =>
   intro cs h i hi
   rw [List.replicate_succ,List.flatten_cons] at h
   have hs:=h.split
   cases i with
   | zero=>simpa using hs.1
   | succ i =>
     have:=ih hs.2 i (by omega)
     rw [List.drop_drop] at this
     rwa [Nat.add_mul,Nat.one_mul,Nat.add_comm]
theorem Fit.row_mk {ks:List IntKind}:∀ {n:Nat} {cs:List Value},cs.length=n * ks.length→(∀ i,i < n→Fit ks ((cs.drop (i * ks.length)).take ks.length))→Fit (List.replicate n ks).flatten cs:=by
 intro n
 induction n with
 | zero =>
   intro cs hl _
   rw [Nat.zero_mul] at hl
   obtain rfl:=List.eq_nil_of_length_eq_zero hl
   trivial
 | succ n ih =>
   intro cs hl h
   rw [List.replicate_succ,List.flatten_cons,← List.take_append_drop ks.length cs]
   refine Fit.app (by simpa using h 0 (by omega)) (ih ?_ ?_)
   · rw [List.length_drop,hl,Nat.add_mul];omega
   · intro i hi
     have:=h (i + 1) (by omega)
     rw [List.drop_drop,show ks.length + i * ks.length=(i + 1) * ks.length by rw [Nat.add_mul];omega]
     exact this
def kindsF (P:Program) (K:TypeId→Option (List IntKind)):List Field→Nat→Option (List IntKind)
 | [],_=>some []
 | f :: fs,o=>match K f.type with
   | some ks=>if f.offset=o∧(f.name != "_")=true∧P.cellsOf f.type=ks.length then (match kindsF P K fs (o + ks.length) with | some ls=>some (ks ++ ls) | none=>none) else none
   | none=>none
def kindsT (P:Program):Nat→TypeId→Option (List IntKind)
 | 0,_=>none
 | d + 1,t=>match P.underlying t with
   | some (.int q)=>some [q]
   | some (.array n e)=>(match kindsT P d e with
     | some ks=>if P.cellsOf t=n * ks.length∧P.cellsOf e=ks.length then some (List.replicate n ks).flatten else none
     | none=>none)
   | some (.struct fs)=>(match kindsF P (kindsT P d) fs.toList 0 with
     | some ks=>if P.cellsOf t=ks.length then some ks else none
     | none=>none)
   | _=>none
def litC:Value→Lit
 | .int q n=>.int q n
 | _=>.bool false
theorem mapM_all {α β:Type} {f:α→Option β} {g:α→β}:∀ {l:List α},(∀ x ∈ l,f x=some (g x))→l.mapM f=some (l.map g)
 | [],_=>rfl
 | x :: l,h=>by
   rw [List.mapM_cons,h x (by simp),mapM_all (fun y hy=>h y (by simp [hy]))]
   rfl
theorem chunks (c:Nat):∀ (n:Nat) (cs:List Value),((List.range n).map fun i=>((cs.drop (i * c)).take c).map litC).flatten=(cs.take (n * c)).map litC
 | 0,cs=>by simp
 | n + 1,cs=>by
   rw [List.range_succ,List.map_append,List.flatten_append,chunks c n cs,Nat.add_mul,Nat.one_mul,List.take_add,List.map_append]
   simp
theorem flatten_len (n:Nat) (ks:List IntKind):(List.replicate n ks).flatten.length=n * ks.length:=by
 induction n with
 | zero=>simp
 | succ n ih=>rw [List.replicate_succ,List.flatten_cons,List.length_append,ih,Nat.add_mul];omega
theorem kindsF_lits {P:Program} {d:Nat} (IH:∀ (t:TypeId) (ks:List IntKind) (cs:List Value),kindsT P d t=some ks→Fit ks cs→P.keyLits d t cs=some (cs.map litC)) :
   ∀ (fs:List Field) (o:Nat) (ks:List IntKind) (cs:List Value),kindsF P (kindsT P d) fs o=some ks→Fit ks (cs.drop o) →
     fs.all (·.name != "_")=true∧∃ ls,(fs.mapM fun f=>P.keyLits d f.type ((cs.drop f.offset).take (P.cellsOf f.type)))=some ls∧ls.flatten=(cs.drop o).map litC
 | [],o,ks,cs,h,hf=>by
   simp [kindsF] at h
   subst h
   have:=hf.len
   rw [List.length_nil] at this
   exact ⟨rfl,[],rfl,by rw [List.eq_nil_of_length_eq_zero this];rfl⟩
 | f :: fs,o,ks,cs,h,hf=>by
   unfold kindsF at h
   split at h
   · rename_i k0 hk
     split at h
     · rename_i hc
       split at h
       · rename_i l0 hl
         obtain rfl:k0 ++ l0=ks:=by simpa using h
         obtain ⟨h1,h2⟩:=hf.split
         rw [List.drop_drop] at h2
         obtain ⟨i1,ls,i2,i3⟩:=kindsF_lits IH fs _ _ cs hl h2
         refine ⟨by rw [List.all_cons,hc.2.1,i1];rfl,((cs.drop o).take k0.length).map litC :: ls,?_,?_⟩
         · rw [List.mapM_cons,hc.1,hc.2.2,IH _ _ _ hk h1,i2]
           rfl
         · rw [List.flatten_cons,i3,← List.map_append,← List.drop_drop,List.take_append_drop]
       · cases h
     · cases h
   · cases h
theorem kinds_lits {P:Program}:∀ (d:Nat) (t:TypeId) (ks:List IntKind) (cs:List Value),kindsT P d t=some ks→Fit ks cs→P.keyLits d t cs=some (cs.map litC)
 | 0,_,_,_,h,_=>by simp [kindsT] at h
 | d + 1,t,ks,cs,h,hf=>by
   unfold kindsT at h
   split at h
   · rename_i q hu
     obtain rfl:[q]=ks:=by simpa using h
     obtain ⟨n,cs',rfl,hw,h2⟩:=hf.inv
     have:=h2.len
     rw [List.length_nil] at this
     obtain rfl:=List.eq_nil_of_length_eq_zero this
     simp [Program.keyLits,hu,hw,litC]
   · rename_i n e hu
     split at h
     · rename_i k0 hk
       split at h
       · rename_i hc
         obtain rfl:(List.replicate n k0).flatten=ks:=by simpa using h
         have hl:=hf.len
         rw [flatten_len] at hl
         unfold Program.keyLits
         rw [hu]
         have e1:((List.range n).mapM fun i=>P.keyLits d e ((cs.drop (i * P.cellsOf e)).take (P.cellsOf e)))=some ((List.range n).map fun i=>((cs.drop (i * k0.length)).take k0.length).map litC) :=
           mapM_all fun i hi=>by
             rw [hc.2]
             exact kinds_lits d e k0 _ hk (hf.row i (List.mem_range.1 hi))
         simp only [e1,Option.map_some,chunks]
         rw [if_pos (by rw [hl,hc.1]),List.take_of_length_le (by omega)]
       · cases h
     · cases h
   · rename_i fs hu
     split at h
     · rename_i k0 hk
       split at h
       · rename_i hc
         obtain rfl:k0=ks:=by simpa using h
         obtain ⟨h1,ls,h2,h3⟩:=kindsF_lits (kinds_lits d) fs.toList 0 k0 cs hk (by simpa using hf)
         unfold Program.keyLits
         rw [hu]
         simp only [h2,Option.map_some,h3]
         rw [if_pos ⟨by rw [hf.len,hc],by rw [← Array.all_toList];exact h1⟩]
         simp
       · cases h
     · cases h
   · cases h
theorem litC_inj:∀ {ks:List IntKind} {xs ys:List Value},Fit ks xs→Fit ks ys→xs.map litC=ys.map litC→xs=ys
 | [],[],[],_,_,_=>rfl
 | _ :: _,_ :: xs,_ :: ys,⟨⟨a,ea,_⟩,h1⟩,⟨⟨b,eb,_⟩,h2⟩,h=>by
   subst ea eb
   simp [litC] at h
   rw [h.1,litC_inj h1 h2 (by simpa using h.2)]
 | [],_ :: _,_,h,_,_=>h.elim
 | [],[],_ :: _,_,h,_=>h.elim
 | _ :: _,[],_,h,_,_=>h.elim
 | _ :: _,_ :: _,[],_,h,_=>h.elim
def aggB (P:Program) (t:TypeId):Bool:=match P.underlying t with | some (.struct _) | some (.array _ _)=>true | _=>false
theorem formed_agg {P:Program} {t:TypeId} {cs:Array Value} (ha:aggB P t=true) (hc:cs.size=P.cellsOf t):(Value.agg cs).formed P t=true:=by
 unfold aggB at ha
 unfold Value.formed
 split at ha
 · rename_i h
   simp [hc,h]
 · rename_i h
   simp [hc,h]
 · cases ha
theorem eq_flat {P:Program} (m:Nat) {t:TypeId} {ks:List IntKind} (hm:m≤10000) (hk:P.keyTypeAt m t=true) (hl:kindsT P m t=some ks) (ha:aggB P t=true) (hc:P.cellsOf t=ks.length)
   {xs ys:List Value} (hx:Fit ks xs) (hy:Fit ks ys) (W:World):∃ r:Bool,(Op.equalIn 10000 t (.agg xs.toArray) (.agg ys.toArray)).run P W=.ok r W∧(r=true↔xs=ys):=by
 obtain ⟨r,hr,hi⟩:=run_equalIn_deep (10000 - m) m t hk W m m (.agg xs.toArray) (.agg ys.toArray) _ _ (formed_agg ha (by simp [hx.len,hc])) (formed_agg ha (by simp [hy.len,hc])) (kinds_lits m t ks xs hl hx) (kinds_lits m t ks ys hl hy)
 rw [Nat.sub_add_cancel hm] at hr
 exact ⟨r,hr,hi.trans ⟨litC_inj hx hy,fun e=>by rw [e]⟩⟩
theorem eq_flat_t {P:Program} (m:Nat) {t:TypeId} {ks:List IntKind} (hm:m≤10000) (hk:P.keyTypeAt m t=true) (hl:kindsT P m t=some ks) (ha:aggB P t=true) (hc:P.cellsOf t=ks.length)
   {xs ys:List Value} (hx:Fit ks xs) (he:xs=ys) (W:World):(Op.equalIn 10000 t (.agg xs.toArray) (.agg ys.toArray)).run P W=.ok true W:=by
 subst he
 obtain ⟨r,hr,hi⟩:=eq_flat m hm hk hl ha hc hx hx W
 rw [hr,hi.2 rfl]
theorem eq_flat_f {P:Program} (m:Nat) {t:TypeId} {ks:List IntKind} (hm:m≤10000) (hk:P.keyTypeAt m t=true) (hl:kindsT P m t=some ks) (ha:aggB P t=true) (hc:P.cellsOf t=ks.length)
   {xs ys:List Value} (hx:Fit ks xs) (hy:Fit ks ys) (he:xs ≠ ys) (W:World):(Op.equalIn 10000 t (.agg xs.toArray) (.agg ys.toArray)).run P W=.ok false W:=by
 obtain ⟨r,hr,hi⟩:=eq_flat m hm hk hl ha hc hx hy W
 rw [hr]
 cases r
 · rfl
 · exact absurd (hi.1 rfl) he
section
variable {H:Type} {enc:TypeId × Value→H} {P:Program} {w:World} {base:Nat} {spare:Nat→Bool} {held:Bool}
theorem kindsF_open {d:Nat} {n:Nat} (IH:∀ (t:TypeId) (ks:List IntKind) (fuel:Nat) (cs:List Value) (x:DataW H × List MemPlace),kindsT P d t=some ks→DataW.trod enc P w base spare held fuel t cs=some x→Fit ks cs) :
   ∀ (fs:List Field) (o:Nat) (ks:List IntKind) (cs:List Value) (xs:List (DataW H × List MemPlace)),kindsF P (kindsT P d) fs o=some ks→cs.length=o + ks.length→xs.length=fs.length →
     (∀ (i:Nat) (f:Field),fs[i]? = some f→DataW.trod enc P w base spare held n f.type ((cs.drop f.offset).take (P.cellsOf f.type))=xs[i]?)→Fit ks (cs.drop o)
 | [],o,ks,cs,xs,h,hl,_,_=>by
   simp [kindsF] at h
   subst h
   rw [List.drop_of_length_le (by simp at hl;omega)]
   trivial
 | f :: fs,o,ks,cs,xs,h,hl,hx,hf=>by
   unfold kindsF at h
   split at h
   · rename_i k0 hk
     split at h
     · rename_i hc
       split at h
       · rename_i l0 hl0
         obtain rfl:k0 ++ l0=ks:=by simpa using h
         match xs,hx with
         | x :: xs,hx =>
           have h0:=hf 0 f rfl
           rw [hc.1,hc.2.2] at h0
           rw [List.length_append] at hl
           rw [← List.take_append_drop k0.length (cs.drop o)]
           refine Fit.app (IH _ _ _ _ _ hk h0) ?_
           rw [List.drop_drop]
           exact kindsF_open IH fs _ _ cs xs hl0 (by omega) (by simpa using hx) (fun i g hg=>hf (i + 1) g hg)
       · cases h
     · cases h
   · cases h
theorem kinds_open:∀ (d:Nat) (t:TypeId) (ks:List IntKind) (fuel:Nat) (cs:List Value) (x:DataW H × List MemPlace),kindsT P d t=some ks→DataW.trod enc P w base spare held fuel t cs=some x→Fit ks cs
 | 0,_,_,_,_,_,h,_=>by simp [kindsT] at h
 | d + 1,t,ks,fuel,cs,x,h,hx=>by
   unfold kindsT at h
   split at h
   · rename_i q hu
     obtain rfl:[q]=ks:=by simpa using h
     obtain ⟨n,rfl,_,hw⟩:=DataW.trod_int hu hx
     exact ⟨⟨n,rfl,hw⟩,trivial⟩
   · rename_i n e hu
     split at h
     · rename_i k0 hk
       split at h
       · rename_i hc
         obtain rfl:(List.replicate n k0).flatten=ks:=by simpa using h
         obtain ⟨xs,m,_,_,hl,hxs,hi⟩:=DataW.trod_array hu hx
         rw [hc.1] at hl
         refine Fit.row_mk hl fun i hi'=>?_
         have h1:=hi i hi'
         rw [hc.2,List.getElem?_eq_getElem (by omega)] at h1
         exact kinds_open d e k0 _ _ _ hk h1
       · cases h
     · cases h
   · rename_i fs hu
     split at h
     · rename_i k0 hk
       split at h
       · rename_i hc
         obtain rfl:k0=ks:=by simpa using h
         obtain ⟨xs,n,_,_,hl,hxs,hf⟩:=DataW.trod_struct hu hx
         have:=kindsF_open (n:=n) (kinds_open d) fs.toList 0 k0 cs xs hk (by rw [hl,hc];omega) (by simpa using hxs) (fun i f hg=>hf i f (by simpa using hg))
         simpa using this
       · cases h
     · cases h
   · cases h
end
theorem open_flat {H:Type} {enc:TypeId × Value→H} {P:Program} {W:World} {r:Reach} {b0:Nat} {sp:Nat→Bool} {held:Bool} {base:Nat} {t:TypeId} {v:Value} {d:DataW H} {p:List MemPlace} (m:Nat) {ks:List IntKind} (hl:kindsT P m t=some ks) (ha:aggB P t=true)
   (hw:Value.okWide P W r b0 t v) (h:DataW.Trod enc P W base sp held t v d p):∃ cs:List Value,v=.agg cs.toArray∧Fit ks cs:=by
 have hv:∃ cs:Array Value,v=.agg cs:=by
   unfold aggB at ha
   unfold Value.okWide at hw
   split at ha
   · rename_i hu
     simp only [hu] at hw
     obtain ⟨cs,rfl,_⟩:=hw
     exact ⟨cs,rfl⟩
   · rename_i hu
     simp only [hu] at hw
     obtain ⟨cs,rfl,_⟩:=hw
     exact ⟨cs,rfl⟩
   · cases ha
 obtain ⟨cs,rfl⟩:=hv
 obtain ⟨fuel,hf⟩:=h
 exact ⟨cs.toList,by simp,kinds_open m t ks fuel _ _ hl (by simpa [Value.cells] using hf)⟩
theorem fit_ints {q:IntKind} {lo hi:Int} (hq:∀ n:Int,lo≤n∧n≤hi→(Lit.int q n).wf=true):∀ {xs:List Int} {n:Nat},xs.length=n→(∀ x ∈ xs,lo≤x∧x≤hi)→Fit (List.replicate n q) (xs.map (Value.int q))
 | [],n,h,_=>by
   obtain rfl:0=n:=h
   trivial
 | x :: xs,n,h,hb=>by
   obtain rfl:xs.length + 1=n:=h
   exact ⟨⟨x,rfl,hq x (hb x (by simp))⟩,fit_ints hq rfl fun y hy=>hb y (by simp [hy])⟩
theorem fit_ints_inv {q:IntKind}:∀ {n:Nat} {cs:List Value},Fit (List.replicate n q) cs→∃ xs:List Int,cs=xs.map (Value.int q)∧xs.length=n∧∀ x ∈ xs,(Lit.int q x).wf=true
 | 0,[],_=>⟨[],rfl,rfl,fun x h=>by cases h⟩
 | 0,_ :: _,h=>h.elim
 | n + 1,cs,h=>by
   rw [List.replicate_succ] at h
   obtain ⟨k,cs',rfl,hw,h2⟩:=h.inv
   obtain ⟨xs,rfl,hl,hx⟩:=fit_ints_inv h2
   refine ⟨k :: xs,rfl,by simp [hl],fun x hm=>?_⟩
   rcases List.mem_cons.1 hm with q | q
   · rw [q];exact hw
   · exact hx x q
theorem wf_of {q:IntKind} {n:Int} (h:q.min≤n∧n≤q.max):(Lit.int q n).wf=true:=by simpa [Lit.wf] using h
theorem wf_inv {q:IntKind} {n:Int} (h:(Lit.int q n).wf=true):q.min≤n∧n≤q.max:=by simpa [Lit.wf] using h
end Go.Proofs.YtnfejdfjlnpldaaGreatDoor
namespace Go.Proofs.YtnfejdfjlnpldaaGreatDoor
open Go.RowKit
def limE (b r p:Int):Int:=if 1≤b∧b≤1000000000∧0≤r∧r≤1000000000∧1≤p∧p≤1000000000 then 0 else 8
set_option maxHeartbeats 800000 in
theorem rlimit_any (b r p:Int) (w:World) :
   Calls Tryz.prog 38 #[.agg #[.int .i64 b,.int .i64 r,.int .i64 p]] w fun e w'=>e=.returned (.int .i64 (limE b r p))∧Below w.heap.size w w':=by
 go_enter Tryz.func38,Tryz.ntmps38
 go_wp2
 all_goals go_returns
 all_goals refine ⟨?_,(Below.refl _ _).alloc (Nat.le_refl _) _⟩
 all_goals first
   | (rw [show limE b r p=0 from if_pos (by omega)];rfl)
   | (rw [show limE b r p=8 from if_neg (by omega)];rfl)
theorem rlimit_is {b r p n:Int} (h:Hid (limE b r p=n)) (w:World) :
   Calls Tryz.prog 38 #[.agg #[.int .i64 b,.int .i64 r,.int .i64 p]] w fun e w'=>e=.returned (.int .i64 n)∧Below w.heap.size w w':=by
 rw [← h.out]
 exact rlimit_any b r p w
theorem limE_two (b r p:Int):limE b r p=0∨limE b r p=8:=by unfold limE;split <;> simp
def wiB (n a b:Int):Bool:=decide (a≤n∧n≤b)
theorem wiB_yes {n a b:Int} (h:wiB n a b=true):a≤n∧n≤b:=of_decide_eq_true h
theorem wiB_no {n a b:Int} (h:wiB n a b=false):¬ (a≤n∧n≤b):=of_decide_eq_false h
theorem ret_b {a b:Bool} (h:a=b):Ending.returned (.bool a)=.returned (.bool b):=by rw [h]
set_option maxHeartbeats 800000 in
theorem within_is {n a b:Int} {v:Bool} (h:Hid (wiB n a b=v)) (w:World) :
   Calls Tryz.prog 108 #[.int .i64 n,.int .i64 a,.int .i64 b] w fun e w'=>e=.returned (.bool v)∧Below w.heap.size w w':=by
 go_enter Tryz.func108,Tryz.ntmps108
 go_wp2
 all_goals go_returns
 all_goals refine ⟨?_,by go_grown⟩
 all_goals rw [← h.out]
 all_goals refine ret_b ?_
 all_goals (unfold wiB;rw [Bool.eq_iff_iff];simp;try omega)
set_option maxRecDepth 100000 in
set_option maxHeartbeats 1600000 in
theorem limit_f {bu ra pe:Int} (h0:Hid (wiB bu 1 1000000000=false)) (w:World) :
   Calls Tryz.prog 96 #[.agg #[.int .i64 bu,.int .i64 ra,.int .i64 pe]] w fun e w'=>e=.returned (.int .i64 8)∧Below w.heap.size w w':=by
 go_enter Tryz.func96,Tryz.ntmps96
 go_wp2_with fail
 refine (within_is h0 _).mono ?_
 rintro e w1 ⟨rfl,hb⟩
 have hB1:Below w.heap.size w w1:=below_thru (by go_grown) hb
 have hs1:w.heap.size≤w1.heap.size:=hB1.size
 have x_l1:Box w1 (w.heap.size) [.int .i64 bu,.int .i64 ra,.int .i64 pe]:=(by refine Box.below ?_ hb;repeat (first | (with_reducible assumption) | (with_reducible refine Box.drew ?_) | (with_reducible refine Box.drewN ?_ _) | ((with_reducible refine Box.new ?_);simp;done) | (with_reducible apply Box.set2) | (with_reducible refine Box.alloc ?_ _) | (with_reducible refine Box.other ?_ (by first | (dsimp only;omega) | omega) _)))
 have z_l1:=x_l1.lt
 have c_l1_0:=x_l1.c 0 _ rfl
 have f_l1_0:=x_l1.f 0 _ rfl
 have c_l1_1:=x_l1.c 1 _ rfl
 have f_l1_1:=x_l1.f 1 _ rfl
 have c_l1_2:=x_l1.c 2 _ rfl
 have f_l1_2:=x_l1.f 2 _ rfl
 clear hb
 go_wp2_with fail
 go_returns
 exact ⟨rfl,hB1⟩
set_option maxRecDepth 100000 in
set_option maxHeartbeats 1600000 in
theorem limit_tf {bu ra pe:Int} (h0:Hid (wiB bu 1 1000000000=true)) (h1:Hid (wiB ra 0 1000000000=false)) (w:World) :
   Calls Tryz.prog 96 #[.agg #[.int .i64 bu,.int .i64 ra,.int .i64 pe]] w fun e w'=>e=.returned (.int .i64 8)∧Below w.heap.size w w':=by
 go_enter Tryz.func96,Tryz.ntmps96
 go_wp2_with fail
 refine (within_is h0 _).mono ?_
 rintro e w1 ⟨rfl,hb⟩
 have hB1:Below w.heap.size w w1:=below_thru (by go_grown) hb
 have hs1:w.heap.size≤w1.heap.size:=hB1.size
 have x_l1:Box w1 (w.heap.size) [.int .i64 bu,.int .i64 ra,.int .i64 pe]:=(by refine Box.below ?_ hb;repeat (first | (with_reducible assumption) | (with_reducible refine Box.drew ?_) | (with_reducible refine Box.drewN ?_ _) | ((with_reducible refine Box.new ?_);simp;done) | (with_reducible apply Box.set2) | (with_reducible refine Box.alloc ?_ _) | (with_reducible refine Box.other ?_ (by first | (dsimp only;omega) | omega) _)))
 have z_l1:=x_l1.lt
 have c_l1_0:=x_l1.c 0 _ rfl
 have f_l1_0:=x_l1.f 0 _ rfl
 have c_l1_1:=x_l1.c 1 _ rfl
 have f_l1_1:=x_l1.f 1 _ rfl
 have c_l1_2:=x_l1.c 2 _ rfl
 have f_l1_2:=x_l1.f 2 _ rfl
 clear hb
 go_wp2_with fail
 refine (within_is h1 _).mono ?_
 rintro e w2 ⟨rfl,hb⟩
 have hB2:Below w.heap.size w w2:=below_thru (by go_grown) hb
 have hs2:w.heap.size≤w2.heap.size:=hB2.size
 have x_l2:Box w2 (w.heap.size) [.int .i64 bu,.int .i64 ra,.int .i64 pe]:=(by refine Box.below ?_ hb;repeat (first | (with_reducible assumption) | (with_reducible refine Box.drew ?_) | (with_reducible refine Box.drewN ?_ _) | ((with_reducible refine Box.new ?_);simp;done) | (with_reducible apply Box.set2) | (with_reducible refine Box.alloc ?_ _) | (with_reducible refine Box.other ?_ (by first | (dsimp only;omega) | omega) _)))
 have z_l2:=x_l2.lt
 have c_l2_0:=x_l2.c 0 _ rfl
 have f_l2_0:=x_l2.f 0 _ rfl
 have c_l2_1:=x_l2.c 1 _ rfl
 have f_l2_1:=x_l2.f 1 _ rfl
 have c_l2_2:=x_l2.c 2 _ rfl
 have f_l2_2:=x_l2.f 2 _ rfl
 clear hb hB1 hs1 x_l1 z_l1 c_l1_0 c_l1_1 c_l1_2 f_l1_0 f_l1_1 f_l1_2
 go_wp2_with fail
 go_returns
 exact ⟨rfl,hB2⟩
set_option maxRecDepth 100000 in
set_option maxHeartbeats 1600000 in
theorem limit_ttf {bu ra pe:Int} (h0:Hid (wiB bu 1 1000000000=true)) (h1:Hid (wiB ra 0 1000000000=true)) (h2:Hid (wiB pe 1 1000000000=false)) (w:World) :
   Calls Tryz.prog 96 #[.agg #[.int .i64 bu,.int .i64 ra,.int .i64 pe]] w fun e w'=>e=.returned (.int .i64 8)∧Below w.heap.size w w':=by
 go_enter Tryz.func96,Tryz.ntmps96
 go_wp2_with fail
 refine (within_is h0 _).mono ?_
 rintro e w1 ⟨rfl,hb⟩
 have hB1:Below w.heap.size w w1:=below_thru (by go_grown) hb
 have hs1:w.heap.size≤w1.heap.size:=hB1.size
 have x_l1:Box w1 (w.heap.size) [.int .i64 bu,.int .i64 ra,.int .i64 pe]:=(by refine Box.below ?_ hb;repeat (first | (with_reducible assumption) | (with_reducible refine Box.drew ?_) | (with_reducible refine Box.drewN ?_ _) | ((with_reducible refine Box.new ?_);simp;done) | (with_reducible apply Box.set2) | (with_reducible refine Box.alloc ?_ _) | (with_reducible refine Box.other ?_ (by first | (dsimp only;omega) | omega) _)))
 have z_l1:=x_l1.lt
 have c_l1_0:=x_l1.c 0 _ rfl
 have f_l1_0:=x_l1.f 0 _ rfl
 have c_l1_1:=x_l1.c 1 _ rfl
 have f_l1_1:=x_l1.f 1 _ rfl
 have c_l1_2:=x_l1.c 2 _ rfl
 have f_l1_2:=x_l1.f 2 _ rfl
 clear hb
 go_wp2_with fail
 refine (within_is h1 _).mono ?_
 rintro e w2 ⟨rfl,hb⟩
 have hB2:Below w.heap.size w w2:=below_thru (by go_grown) hb
 have hs2:w.heap.size≤w2.heap.size:=hB2.size
 have x_l2:Box w2 (w.heap.size) [.int .i64 bu,.int .i64 ra,.int .i64 pe]:=(by refine Box.below ?_ hb;repeat (first | (with_reducible assumption) | (with_reducible refine Box.drew ?_) | (with_reducible refine Box.drewN ?_ _) | ((with_reducible refine Box.new ?_);simp;done) | (with_reducible apply Box.set2) | (with_reducible refine Box.alloc ?_ _) | (with_reducible refine Box.other ?_ (by first | (dsimp only;omega) | omega) _)))
 have z_l2:=x_l2.lt
 have c_l2_0:=x_l2.c 0 _ rfl
 have f_l2_0:=x_l2.f 0 _ rfl
 have c_l2_1:=x_l2.c 1 _ rfl
 have f_l2_1:=x_l2.f 1 _ rfl
 have c_l2_2:=x_l2.c 2 _ rfl
 have f_l2_2:=x_l2.f 2 _ rfl
 clear hb hB1 hs1 x_l1 z_l1 c_l1_0 c_l1_1 c_l1_2 f_l1_0 f_l1_1 f_l1_2
 go_wp2_with fail
 refine (within_is h2 _).mono ?_
 rintro e w3 ⟨rfl,hb⟩
 have hB3:Below w.heap.size w w3:=below_thru (by go_grown) hb
 have hs3:w.heap.size≤w3.heap.size:=hB3.size
 have x_l3:Box w3 (w.heap.size) [.int .i64 bu,.int .i64 ra,.int .i64 pe]:=(by refine Box.below ?_ hb;repeat (first | (with_reducible assumption) | (with_reducible refine Box.drew ?_) | (with_reducible refine Box.drewN ?_ _) | ((with_reducible refine Box.new ?_);simp;done) | (with_reducible apply Box.set2) | (with_reducible refine Box.alloc ?_ _) | (with_reducible refine Box.other ?_ (by first | (dsimp only;omega) | omega) _)))
 have z_l3:=x_l3.lt
 have c_l3_0:=x_l3.c 0 _ rfl
 have f_l3_0:=x_l3.f 0 _ rfl
 have c_l3_1:=x_l3.c 1 _ rfl
 have f_l3_1:=x_l3.f 1 _ rfl
 have c_l3_2:=x_l3.c 2 _ rfl
 have f_l3_2:=x_l3.f 2 _ rfl
 clear hb hB2 hs2 x_l2 z_l2 c_l2_0 c_l2_1 c_l2_2 f_l2_0 f_l2_1 f_l2_2
 go_wp2_with fail
 go_returns
 exact ⟨rfl,hB3⟩
set_option maxRecDepth 100000 in
set_option maxHeartbeats 1600000 in
theorem limit_ttt {bu ra pe:Int} (h0:Hid (wiB bu 1 1000000000=true)) (h1:Hid (wiB ra 0 1000000000=true)) (h2:Hid (wiB pe 1 1000000000=true)) (w:World) :
   Calls Tryz.prog 96 #[.agg #[.int .i64 bu,.int .i64 ra,.int .i64 pe]] w fun e w'=>e=.returned (.int .i64 0)∧Below w.heap.size w w':=by
 go_enter Tryz.func96,Tryz.ntmps96
 go_wp2_with fail
 refine (within_is h0 _).mono ?_
 rintro e w1 ⟨rfl,hb⟩
 have hB1:Below w.heap.size w w1:=below_thru (by go_grown) hb
 have hs1:w.heap.size≤w1.heap.size:=hB1.size
 have x_l1:Box w1 (w.heap.size) [.int .i64 bu,.int .i64 ra,.int .i64 pe]:=(by refine Box.below ?_ hb;repeat (first | (with_reducible assumption) | (with_reducible refine Box.drew ?_) | (with_reducible refine Box.drewN ?_ _) | ((with_reducible refine Box.new ?_);simp;done) | (with_reducible apply Box.set2) | (with_reducible refine Box.alloc ?_ _) | (with_reducible refine Box.other ?_ (by first | (dsimp only;omega) | omega) _)))
 have z_l1:=x_l1.lt
 have c_l1_0:=x_l1.c 0 _ rfl
 have f_l1_0:=x_l1.f 0 _ rfl
 have c_l1_1:=x_l1.c 1 _ rfl
 have f_l1_1:=x_l1.f 1 _ rfl
 have c_l1_2:=x_l1.c 2 _ rfl
 have f_l1_2:=x_l1.f 2 _ rfl
 clear hb
 go_wp2_with fail
 refine (within_is h1 _).mono ?_
 rintro e w2 ⟨rfl,hb⟩
 have hB2:Below w.heap.size w w2:=below_thru (by go_grown) hb
 have hs2:w.heap.size≤w2.heap.size:=hB2.size
 have x_l2:Box w2 (w.heap.size) [.int .i64 bu,.int .i64 ra,.int .i64 pe]:=(by refine Box.below ?_ hb;repeat (first | (with_reducible assumption) | (with_reducible refine Box.drew ?_) | (with_reducible refine Box.drewN ?_ _) | ((with_reducible refine Box.new ?_);simp;done) | (with_reducible apply Box.set2) | (with_reducible refine Box.alloc ?_ _) | (with_reducible refine Box.other ?_ (by first | (dsimp only;omega) | omega) _)))
 have z_l2:=x_l2.lt
 have c_l2_0:=x_l2.c 0 _ rfl
 have f_l2_0:=x_l2.f 0 _ rfl
 have c_l2_1:=x_l2.c 1 _ rfl
 have f_l2_1:=x_l2.f 1 _ rfl
 have c_l2_2:=x_l2.c 2 _ rfl
 have f_l2_2:=x_l2.f 2 _ rfl
 clear hb hB1 hs1 x_l1 z_l1 c_l1_0 c_l1_1 c_l1_2 f_l1_0 f_l1_1 f_l1_2
 go_wp2_with fail
 refine (within_is h2 _).mono ?_
 rintro e w3 ⟨rfl,hb⟩
 have hB3:Below w.heap.size w w3:=below_thru (by go_grown) hb
 have hs3:w.heap.size≤w3.heap.size:=hB3.size
 have x_l3:Box w3 (w.heap.size) [.int .i64 bu,.int .i64 ra,.int .i64 pe]:=(by refine Box.below ?_ hb;repeat (first | (with_reducible assumption) | (with_reducible refine Box.drew ?_) | (with_reducible refine Box.drewN ?_ _) | ((with_reducible refine Box.new ?_);simp;done) | (with_reducible apply Box.set2) | (with_reducible refine Box.alloc ?_ _) | (with_reducible refine Box.other ?_ (by first | (dsimp only;omega) | omega) _)))
 have z_l3:=x_l3.lt
 have c_l3_0:=x_l3.c 0 _ rfl
 have f_l3_0:=x_l3.f 0 _ rfl
 have c_l3_1:=x_l3.c 1 _ rfl
 have f_l3_1:=x_l3.f 1 _ rfl
 have c_l3_2:=x_l3.c 2 _ rfl
 have f_l3_2:=x_l3.f 2 _ rfl
 clear hb hB2 hs2 x_l2 z_l2 c_l2_0 c_l2_1 c_l2_2 f_l2_0 f_l2_1 f_l2_2
 go_wp2_with fail
 go_returns
 exact ⟨rfl,hB3⟩
theorem limit_is {bu ra pe n:Int} (h:Hid (limE bu ra pe=n)) (w:World) :
   Calls Tryz.prog 96 #[.agg #[.int .i64 bu,.int .i64 ra,.int .i64 pe]] w fun e w'=>e=.returned (.int .i64 n)∧Below w.heap.size w w':=by
 rw [← h.out]
 cases h0:wiB bu 1 1000000000 with
 | false =>
   have:=wiB_no h0
   rw [show limE bu ra pe=8 from if_neg (by omega)]
   exact limit_f (Lib.hid h0) w
 | true =>
   have g0:=wiB_yes h0
   cases h1:wiB ra 0 1000000000 with
   | false =>
     have:=wiB_no h1
     rw [show limE bu ra pe=8 from if_neg (by omega)]
     exact limit_tf (Lib.hid h0) (Lib.hid h1) w
   | true =>
     have g1:=wiB_yes h1
     cases h2:wiB pe 1 1000000000 with
     | false =>
       have:=wiB_no h2
       rw [show limE bu ra pe=8 from if_neg (by omega)]
       exact limit_ttf (Lib.hid h0) (Lib.hid h1) (Lib.hid h2) w
     | true =>
       have g2:=wiB_yes h2
       rw [show limE bu ra pe=0 from if_pos (by omega)]
       exact limit_ttt (Lib.hid h0) (Lib.hid h1) (Lib.hid h2) w
end Go.Proofs.YtnfejdfjlnpldaaGreatDoor
