import Derived.Test.YtnfejdfjlnpldaaGreatDoorGX1
import Derived.Test.YtnfejdfjlnpldaaGreatDoorGF1
import Derived.Deep.RegionHeld
import Derived.RangeFuncBox
import Derived.RangeFuncNested
import Derived.RangeFuncBound
import Derived.RangeFuncCalls
import Derived.RangeFuncLeaves
import Derived.Shelf.Abstract
import Derived.Shelf.RegionOpen
import Derived.WalkKit
import Derived.OwnWalkIn
import Derived.TacticsInMore
import Derived.LoopNIn
import Derived.LoopIn
import Derived.Maps.OwnIn
import Derived.Maps.AppendAt
import Derived.WalkLawsBesides
namespace Go.Proofs.YtnfejdfjlnpldaaGreatDoor
open Go.RowKit Go.Shelf
structure Wd (F:Fence):Prop where
 fn:∀ f,F.fn f
 dp:F.depth=none
 calls:∀ {n:Nat} {P:Program} {f:FuncId} {args:Array Value} {w:World} {R:Ending→World→Prop},Calls P f args w R→CallsIn F n P f args w R
 rows:∀ {n:Nat} {P:Program} {row:String} {args:Array Value} {w:World} {R:Value→World→Prop},Rows P row args w R→RowsIn F n P row args w R
theorem Wd.wide:Wd Fence.wide:=⟨fun _=>trivial,rfl,fun h=>callsIn_wide.2 h,fun h c cs _=>let ⟨v,w',r,s⟩:=h c cs;⟨v,w',r,stepsIn_wide.2 s⟩⟩
theorem Wd.round (l:Nat):Wd (Fence.wide.inRound l):=⟨fun _=>trivial,rfl,fun h=>CallsIn.inRound l (callsIn_wide.2 h),fun h c cs _=>let ⟨v,w',r,s⟩:=h c cs;⟨v,w',r,stepsIn_wide.2 s⟩⟩
def noDef (ops:List Oper):Bool:=ops.all fun o=>match o.op with
 | .defer _=>false
 | _=>true
theorem noDef_at {ops:Array Oper} (h:noDef ops.toList=true) {i:Nat} {o:Oper} (ho:ops[i]? = some o):∀ c,o.op ≠ .defer c:=fun c e=>by
 unfold noDef at h
 have hm:o ∈ ops.toList:=by
   obtain ⟨hi,e2⟩:=Array.getElem?_eq_some_iff.1 ho
   rw [← e2]
   exact Array.getElem_mem_toList hi
 have:=List.all_eq_true.1 h o hm
 rw [e] at this
 cases this
section
variable {F:Fence} {n:Nat} {P:Program} {ops:Array Oper} {Q:Exit→Act→World→Prop}
theorem uponIn_of (hF:Wd F) {o:Oper} {a:Act} {K K':Act→World→Prop} (hK:∀ a w,K a w→K' a w) {r:Result Next} (h:o.upon P a K Q r):o.uponIn F n P a K' Q r:=by
 have hd:F.depth.isSome=true→1≤n:=fun e=>by rw [hF.dp] at e;cases e
 cases r with
 | ok x w' =>
   cases x <;> simp only [Oper.upon,Oper.uponIn] at h ⊢ <;>
     first
       | exact hK _ _ h
       | exact ⟨hd,hF.calls (Calls.mono h (fun e w'' he=>by cases e <;> first | exact hK _ _ he | exact he))⟩
       | exact ⟨hd,hF.rows (Rows.mono h (fun _ _ he=>hK _ _ he))⟩
 | halt x w'=>cases x <;> simp only [Oper.upon,Oper.uponIn] at h ⊢ <;> exact h
theorem wpIn_of (hF:Wd F) {o:Oper} (hd:∀ c,o.op ≠ .defer c) {a:Act} {w:World} {K K':Act→World→Prop} (hK:∀ a w,K a w→K' a w) (h:o.wp P a w K Q):o.wpIn F n P a w K' Q:=by
 unfold Oper.wpIn
 rw [Oper.semAt_plain F _ _ hd]
 exact ⟨fun f _=>hF.fn f,uponIn_of hF hK h⟩
theorem wpOpIn_of (hF:Wd F) (hQ:¬ LetsOut Q) (hnd:noDef ops.toList=true) {i:Nat} {a:Act} {w:World} {K K':Act→World→Prop} (hK:∀ a w,K a w→K' a w) (h:wpOp P ops Q i K a w):wpOpIn F n P ops Q i K' a w:=by
 unfold wpOp at h
 unfold wpOpIn
 cases ho:ops[i]? with
 | none =>
   rw [ho] at h
   exact hK _ _ h
 | some o =>
   rw [ho] at h
   simp only at h ⊢
   by_cases hw:Region.wanted o (yielded ops a.tmps)=true
   · rw [if_pos hw] at h ⊢
     rcases h with h | ⟨_,h⟩
     · exact wpIn_of hF (noDef_at hnd ho) hK h
     · exact absurd h hQ
   · rw [if_neg hw] at h ⊢
     exact ⟨fun f _=>hF.fn f,hK _ _ h⟩
theorem anyIn_of {md:Region.Mode} (hF:Wd F) (hQ:¬ LetsOut Q) (hnd:noDef ops.toList=true):∀ (fuel:Nat) (listed:Array Bool) (a:Act) (w:World),wpAny P md ops Q fuel listed a w→wpAnyIn F n P md ops Q fuel listed a w
 | 0,_,_,_,h=>h
 | fuel + 1,_,_,_,h=>⟨h.1,fun i hi=>wpOpIn_of hF hQ hnd (fun a w=>anyIn_of hF hQ hnd fuel _ a w) (h.2 i hi)⟩
theorem region_held_in {S:World→Prop} {id:Nat} {a:Act} {w:World} (hF:Wd F) (hQ:¬ LetsOut Q) (hnd:noDef ops.toList=true) (hm:P.follows .mixedOrders=true) (hS:S w.drew)
   (h:S w.drew→wpAnyH P .any ops Q S ops.size (Array.replicate ops.size false) a w.drew):(Code.region id ops true).wpIn F n P Q a w :=
 wpIn_region_any hm (anyIn_of hF hQ hnd _ _ _ _ (wpAny_of_held _ _ _ _ (h hS)))
end
section
variable {F:Fence} {n:Nat} {P:Program} {ops:Array Oper} {rest:List Oper} {o:Oper} {a:Act} {w:World} {Q:Exit→Act→World→Prop}
theorem in_load_range (hw:Region.wanted o (yielded ops a.tmps)=true) (ty:TypeId) (x:Operand) (ho:o.op=.load ty x) {b off:Nat} {cs:List Value} (hb:w.rangeAt b off cs) (hx:a.eval x=.pointer (some ⟨b,off,none⟩)) {d:TypeDesc}
   (hu:P.underlying ty=some d) (hd:d.isRow=true) (hi:(P.info? ty).map (·.size)=some cs.length)
   (h:wpListIn F n P ops Q rest (a.put o.dst (.agg cs.toArray)) w):wpListIn F n P ops Q (o :: rest) a w:=by
 refine BigFrame.wpListIn_want hw fun K hK=>?_
 unfold Oper.wpIn
 refine ⟨by simp [Oper.about,ho],?_⟩
 rw [Oper.semAt_plain F _ _ (by rw [ho];intro c hc;cases hc)]
 unfold execOp
 simp only [ho,hx,Instr.loadAt,Instr.sureAddr,Sem.run_bind,Sem.run_pure,Result.andThen_ok,run_loadVar_mid w b off ty cs d hb hu hd hi]
 exact hK _ _ h
theorem in_load_box (hw:Region.wanted o (yielded ops a.tmps)=true) (ty:TypeId) (x:Operand) (ho:o.op=.load ty x) {b:Nat} {cs:List Value} (hb:Box w b cs) (hx:a.eval x=.pointer (some ⟨b,0,none⟩)) {d:TypeDesc}
   (hu:P.underlying ty=some d) (hd:d.isRow=true) (hi:(P.info? ty).map (·.size)=some cs.length)
   (h:wpListIn F n P ops Q rest (a.put o.dst (.agg cs.toArray)) w):wpListIn F n P ops Q (o :: rest) a w :=
 in_load_range hw ty x ho hb.range hx hu hd hi h
theorem in_store_box (hw:Region.wanted o (yielded ops a.tmps)=true) (ty:TypeId) (x y:Operand) (ho:o.op=.store ty x y) {b:Nat} {us cs:List Value} (hb:Box w b us) (hx:a.eval x=.pointer (some ⟨b,0,none⟩)) (hy:a.eval y=.agg cs.toArray)
   (hi:(P.info? ty).map (·.size)=some cs.length) (hl:us.length=cs.length) (h1:cs.toArray.all (·.oneCell')=true)
   (h:∀ W,Stored w b cs W→wpListIn F n P ops Q rest (a.put o.dst undef) W):wpListIn F n P ops Q (o :: rest) a w:=by
 refine BigFrame.wpListIn_want hw fun K hK=>?_
 unfold Oper.wpIn
 refine ⟨by simp [Oper.about,ho],?_⟩
 rw [Oper.semAt_plain F _ _ (by rw [ho];intro c hc;cases hc)]
 have ht:w.there b 0 cs.toArray.size:=by have:=hb.there;rw [hl] at this;simpa using this
 unfold execOp
 simp only [ho,hx,hy,Instr.storeAt,Instr.sureAddr,Sem.run_bind,Sem.run_pure,Result.andThen_ok,run_storeVar_mid w b 0 ty cs.toArray ht (by simpa using hi) h1]
 exact hK _ _ (h _ (Stored.mk' hb hl))
end
theorem Box.own12 {W W':World} {row:Option Nat} {b:Nat} {vs:List Value} (h:Box W b vs) (hg:W.grownBy W' row) (hr:∀ r,row=some r→∃ o:Obj,W.heap[r]? = some o∧o.isCells=false):Box W' b vs :=
 ⟨fun i v e=>cell_kept (h.c i v e) hg hr,fun i v e=>(frozen_kept (h.c i v e) hg hr).trans (h.f i v e),Nat.lt_of_lt_of_le h.lt hg.size⟩
theorem box_own {β:Type} (B:Nat) (b:Nat) (f:β→List Value):OwnFrom B (fun s W=>Box W b (f s)):=fun _ _ _ _ hs hg hr=>hs.own12 hg (fun r e=>(hr r e).2)
theorem KeepsOthers.of_below {W W':World} (h:Below W.heap.size W W'):KeepsOthers W W':=⟨h.size,fun k _ hk _=>(h.block k (Array.getElem?_eq_some_iff.1 hk).1).trans hk⟩
def KpB (n₀ Bn:Nat) (W W':World):Prop:=Below n₀ W W'∧W'.heap[Bn]? = W.heap[Bn]?
theorem KpB.t {n₀ Bn:Nat} {A B C:World} (h:KpB n₀ Bn A B) (k:KpB n₀ Bn B C):KpB n₀ Bn A C:=⟨h.1.trans k.1,k.2.trans h.2⟩
theorem KpB.b {n₀ Bn:Nat} {w:World} (hn:n₀≤w.heap.size) (hB:Bn < w.heap.size) (W:World) (l:Nat) (o o':Obj) (hl:w.heap.size≤l) (h:W.heap[l]? = some o) (h1:o.isCells=false) (h2:o.isWalk=false):KpB n₀ Bn W (W.putObj l o') :=
 ⟨belowK_b hn W l o o' hl h h1 h2,World.putObj_heap_other (by omega)⟩
theorem KpB.of_below {n₀ Bn:Nat} {W W':World} (h:Below W.heap.size W W') (hn:n₀≤W.heap.size) (hB:Bn < W.heap.size):KpB n₀ Bn W W':=⟨h.mono hn,h.block Bn hB⟩
theorem Box.kp {n₀ Bn:Nat} {W W':World} {vs:List Value} (h:Box W Bn vs) (hk:KpB n₀ Bn W W'):Box W' Bn vs :=
 ⟨fun i v e=>(World.cell?_of_block hk.2).trans (h.c i v e),fun i v e=>(World.frozen?_of_block hk.2).trans (h.f i v e),Nat.lt_of_lt_of_le h.lt hk.1.size⟩
end Go.Proofs.YtnfejdfjlnpldaaGreatDoor
