import Derived.Test.YtnfejdfjlnpldaaGreatDoorGS1
import Derived.Test.YtnfejdfjlnpldaaGreatDoorCards
import Derived.Test.YtnfejdfjlnpldaaGreatDoorTie
import Derived.Test.YtnfejdfjlnpldaaGreatDoorGS2
import Derived.Test.YtnfejdfjlnpldaaGreatDoorGB1
import Derived.Test.YtnfejdfjlnpldaaGreatDoorGT1
import Derived.LaidMore
import Derived.Stop.LaidErr
import Derived.Stop.Joined
import Derived.Lib.LaidTab
import Derived.SevenTiedAt
import Derived.Deep.Strs
set_option maxRecDepth 100000
namespace Go.Proofs.YtnfejdfjlnpldaaGreatDoor
open Go.ChangeShapes Go.WideShapes Go.ChangeAt Go.RowKit Go.Joins
def laidL:List (String × DataW Unit):=[("spigot/sha.firstWords", Rows.laid_spigot_sha_firstWords),("spigot/sha.constants", Rows.laid_spigot_sha_constants)]
set_option maxRecDepth 100000 in
theorem laid_first:(Rows.laid_spigot_sha_firstWords:DataW Unit)=Lib.tabData .u32 (first.l.map un):=by kernel_rfl
set_option maxRecDepth 100000 in
theorem laid_const:(Rows.laid_spigot_sha_constants:DataW Unit)=Lib.tabData .u32 (shaK.map un):=by kernel_rfl
theorem getD_un (l:List UInt32) (i:Nat) (h:i < l.length):(l.map un).getD i 0=un (l.getD i 0):=by
 rw [List.getD_eq_getElem?_getD,List.getD_eq_getElem?_getD,List.getElem?_map,List.getElem?_eq_getElem h]
 rfl
set_option maxRecDepth 100000 in
theorem of_laid {W:World} (h:laidMetH Tryz.prog laidL W):LaidS W:=by
 rw [MakeChecks.laidMetH_plain _ _ _ (by kernel_rfl)] at h
 have h2:=h.tail
 unfold laidL at h
 rw [laid_first] at h
 rw [laid_const] at h2
 have t1:=Lib.tabIs_of_head (g:=0) (t:=164) (e:=24) (n:=8) (by kernel_rfl) (by kernel_rfl) Tryz.underlying164 Tryz.underlying24 (by kernel_rfl) (by kernel_rfl) h
 have t2:=Lib.tabIs_of_head (g:=1) (t:=190) (e:=24) (n:=64) (by kernel_rfl) (by kernel_rfl) Tryz.underlying190 Tryz.underlying24 (by kernel_rfl) (by kernel_rfl) h2
 refine ⟨fun t ht=>?_,fun t ht=>?_⟩
 · have:=t2.cell (g:=1) (by kernel_rfl) t (by rw [List.length_map,shaK_len];exact ht)
   rw [getD_un _ _ (by rw [shaK_len];exact ht)] at this
   exact this
 · have:=t1.cell (g:=0) (by kernel_rfl) t (by rw [List.length_map,W8.len];exact ht)
   rw [getD_un _ _ (by rw [W8.len];exact ht)] at this
   exact this
set_option maxRecDepth 100000 in
theorem door_met (os:Os) (args:Array Value):laidMetH Tryz.prog laidL ((World.doorLaid Tryz.prog 400 os).forCall (fun _ _=>0) ⟨#[],args,[]⟩).memory :=
 laidMetH_of_parts3 (fuel:=8) (laidMet_of_run' 8 (by kernel_rfl) (by kernel_rfl)) (by kernel_rfl) (by kernel_rfl)
def LawWalkT (f:FuncId) (fn:Func):Prop :=
 ∀ (H:Type) (enc:TypeId × Value→H) (W:World) (base:Nat) (args:Array Value) (ds:List (DataW H)) (ps:List MemPlace),
   (∀ (j:Nat) t v,fn.params[j]? = some t→args[j]? = some v→Value.okWide Tryz.prog W .any base t v) →
   DataW.TrodAll enc Tryz.prog W 0 (fun _=>true) true fn.params.toList args.toList ds ps →
   LaidS W →
   Calls Tryz.prog f args W fun e W'=>e=.returned (.bool true)∧Below W.heap.size W W'
set_option maxRecDepth 100000 in
theorem lawT_lifted {os:Os} {H:Type} {enc:TypeId × Value→H} {f:FuncId} {fn:Func} {s:ChangeSpec} {tb:TypeId}
   (started:os.Started) (noInit:Tryz.prog.inits.idxOf? f=none) (hfn:Tryz.prog.funcs[f]? = some fn)
   (witness:∃ (w:World) (tape:Tape) (i:Input),w.os=os∧(w.forCall tape i).Shaped Tryz.checked.prog∧i.vars=[]∧Input.okWide Tryz.checked.prog (w.forCall tape i) .any w.heap.size f i ∧
     ((s.pre enc Tryz.checked.prog fn [] false (w.forCall tape i).memory i.args∧laidMetH Tryz.prog laidL (w.forCall tape i).memory)∧sizedMet enc Tryz.checked.prog fn (OpenSpec.ofChange s) false (w.forCall tape i).memory i.args)∧({}:Assume).holds Tryz.checked.prog (lone (Frame.enter Tryz.checked.prog f i.args .normal) [] (w.forCall tape i)))
   (hts:∀ t ∈ fn.params.toList,Tryz.prog.readableRec t=true∧t < Tryz.prog.types.size) (hres:fn.resultTypes = #[tb]) (htb:Tryz.prog.underlying tb=some .bool)
   (hvars:s.vars=[]) (hspec:∀ ds:List (DataW H),ds.length=fn.params.toList.length→s.fn H ds={ results:=[.lit (.bool true)],args:=ds })
   (walk:LawWalkT f fn) :
   ReturnsInHanded {} Tryz.checked os f .any (fun w args=>(s.pre enc Tryz.prog fn [] false w args∧laidMetH Tryz.prog laidL w)∧sizedMet enc Tryz.prog fn (OpenSpec.ofChange s) false w args)
     (s.post enc Tryz.prog fn false true false false):=by
 refine returnsInHanded_of_change_and (C:=Tryz.checked) (X:=fun w _=>laidMetH Tryz.prog laidL w) (fun _ _ _ hh h=>h.of_heap hh) own started noInit hfn witness ?_
 intro W base args ds gs before hval hW _ _ hL _
 have hW':=hW
 obtain ⟨p,q,hA,hV,rfl,hfz,_⟩:=hW
 rw [hvars] at hV
 obtain ⟨rfl,rfl⟩:=trodVars_none hV
 have hlt:∀ x ∈ p,x.block < W.heap.size:=fun x hx=>hW'.lt x (by simp [hx])
 refine (walk H enc W base args ds p hval hA (of_laid hL)).mono fun e W' ⟨he,hb⟩=>?_
 have hlen:=(trodAll_len _ _ _ _ hA).2
 refine ⟨.bool true,he,ds,[],p ++ [],[],p,[],hW',?_,?_,?_,?_,?_⟩
 · rw [List.append_nil,hspec ds hlen,hres]
   exact trodAll_mk1 (shut_bool htb true)
 · rw [List.append_nil,hspec ds hlen]
   exact trodAll_stays laidOut _ _ _ _ hts hA (fun x hx=>hb.same (hlt x hx)) (fun x hx=>by simpa using hlt x hx)
 · rw [hvars,List.append_nil,hspec ds hlen]
   rfl
 · exact hb.frame _
 · intro h
   cases h
end Go.Proofs.YtnfejdfjlnpldaaGreatDoor
namespace Go.Proofs.YtnfejdfjlnpldaaGreatDoor
open Go.ChangeShapes Go.WideShapes Go.ChangeAt Go.RowKit Go.Joins
section
variable {H:Type} {enc:TypeId × Value→H} {W:World} {r:Reach} {b0 base:Nat} {sp:Nat→Bool} {held:Bool} {v:Value} {d:DataW H} {p:List MemPlace}
end
end Go.Proofs.YtnfejdfjlnpldaaGreatDoor
namespace Go.Proofs.YtnfejdfjlnpldaaGreatDoor
open Go.ChangeShapes Go.WideShapes Go.ChangeAt Go.RowKit Go.Joins
theorem ints_of_each {k:IntKind} {Q:Int→Prop}:∀ (cs:List Value),(∀ i,i < cs.length→∃ x,cs[i]? = some (.int k x)∧Q x)→∃ D:List Int,cs=D.map (Value.int k)∧D.length=cs.length∧∀ x ∈ D,Q x
 | [],_=>⟨[],rfl,rfl,by simp⟩
 | c :: cs,h=>by
   obtain ⟨x,hx,hq⟩:=h 0 (by simp)
   obtain ⟨D,rfl,_,hD⟩:=ints_of_each cs fun i hi=>by
     have:=h (i + 1) (by simpa using hi)
     simpa using this
   simp at hx
   subst hx
   exact ⟨x :: D,rfl,by simp,fun y hy=>by
     rcases List.mem_cons.1 hy with rfl | hy
     · exact hq
     · exact hD y hy⟩
section
variable {H:Type} {enc:TypeId × Value→H} {W:World} {r:Reach} {b0 base:Nat} {sp:Nat→Bool} {held:Bool} {v:Value} {d:DataW H} {p:List MemPlace}
set_option maxRecDepth 100000 in
theorem digest_of_trod {fuel:Nat} {cs:List Value} {x:DataW H × List MemPlace} (h:DataW.trod enc Tryz.prog W base sp held fuel 23 cs=some x) :
   ∃ D:List Int,cs=D.map (Value.int .u8)∧D.length=32∧∀ x ∈ D,0≤x∧x < 256:=by
 obtain ⟨xs,m,_,_,hl,hx,hi⟩:=DataW.trod_array Tryz.underlying23 h
 have c32:Tryz.prog.cellsOf 23=32:=by kernel_rfl
 have c1:Tryz.prog.cellsOf 5=1:=by kernel_rfl
 rw [c32] at hl
 rw [c1] at hi
 obtain ⟨D,hD,hl2,hq⟩:=ints_of_each (k:=.u8) (Q:=fun x=>0≤x∧x < 256) cs fun i h8=>by
   have h1:=hi i (by omega)
   have h2:i < xs.length:=by omega
   rw [List.getElem?_eq_getElem h2] at h1
   obtain ⟨n,e,_,hw⟩:=DataW.trod_int Tryz.underlying5 h1
   refine ⟨n,?_,?_⟩
   · have h3:=congrArg (fun l=>l[0]?) e
     simpa [List.getElem?_take,List.getElem?_drop] using h3
   · have h1:IntKind.u8.min≤n∧n≤IntKind.u8.max:=by simpa [Lit.wf] using hw
     have e1:IntKind.u8.min=0:=rfl
     have e2:IntKind.u8.max=255:=rfl
     omega
 exact ⟨D,hD,by omega,hq⟩
set_option maxRecDepth 100000 in
theorem open_digest (hw:Value.okWide Tryz.prog W r b0 23 v) (h:DataW.Trod enc Tryz.prog W base sp held 23 v d p) :
   ∃ D:List Int,v=.agg (D.map (Value.int .u8)).toArray∧D.length=32∧∀ x ∈ D,0≤x∧x < 256:=by
 simp only [Value.okWide,Tryz.underlying23] at hw
 obtain ⟨cs,rfl,_⟩:=hw
 obtain ⟨fuel,hf⟩:=h
 obtain ⟨D,hD,hl,hq⟩:=digest_of_trod (by simpa [Value.cells] using hf)
 refine ⟨D,?_,hl,hq⟩
 rw [← hD]
end
end Go.Proofs.YtnfejdfjlnpldaaGreatDoor
namespace Go.Proofs.YtnfejdfjlnpldaaGreatDoor
open Go.ChangeShapes Go.WideShapes Go.ChangeAt Go.RowKit Go.Joins
theorem byts_of {D:List Int} (h:∀ x ∈ D,0≤x∧x < 256):Byts D:=fun x hx=>by have:=h x hx;omega
end Go.Proofs.YtnfejdfjlnpldaaGreatDoor
