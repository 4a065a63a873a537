import Derived.Test.YtnfejdfjlnpldaaGreatDoorIdPut
import Derived.Test.YtnfejdfjlnpldaaGreatDoorRIdF0
import Derived.Test.YtnfejdfjlnpldaaGreatDoorIdIn
import Derived.Laws.BytesString
import Derived.StringKeys
import Derived.Maps.OwnSet
namespace Go.Proofs.YtnfejdfjlnpldaaGreatDoor
open Go.RowKit Go.Maps
def Tk.rq (t:Tk):Req:=⟨t.k,t.g,0,0,t.hg,t.hgb,by decide,by decide⟩
theorem Tk.rq_inj {s t:Tk} (h:s.rq=t.rq):s=t:=by
 have:=congrArg Req.tk h
 exact this
def Tk.fr (t:Tk):Frm:=Frm.req t.rq
theorem Tk.fr_inj {s t:Tk} (h:s.fr=t.fr):s=t:=Tk.rq_inj (congrArg Frm.r h)
theorem fr_ne_cmd (t:Tk) (c:Cmd):t.fr ≠ Frm.cmd c:=fun h=>by
 have:=congrArg Frm.kd h
 exact absurd this (by show ¬ (1:Int)=2;decide)
theorem cmd_inj12 {c d:Cmd} (h:Frm.cmd c=Frm.cmd d):c=d:=congrArg Frm.c h
def mnt (ts:List Tk) (cs:List Cmd):List Frm:=ts.map Tk.fr ++ cs.map Frm.cmd
theorem mnt_len (ts:List Tk) (cs:List Cmd):(mnt ts cs).length=ts.length + cs.length:=by simp [mnt]
theorem mnt_t {ts:List Tk} {k:Nat} (cs:List Cmd) (h:k < ts.length):(mnt ts cs)[k]? = some (ts[k]).fr:=by
 unfold mnt
 rw [List.getElem?_append_left (by simpa using h)]
 simp [h]
theorem mnt_c {cs:List Cmd} {k:Nat} (ts:List Tk) (h:k < cs.length):(mnt ts cs)[ts.length + k]? = some (Frm.cmd cs[k]):=by
 unfold mnt
 rw [List.getElem?_append_right (by simp)]
 simp [h]
theorem take_snoc12 {α:Type} {l:List α} {k:Nat} {x:α} (h:l[k]? = some x):l.take k ++ [x]=l.take (k + 1):=by
 rw [List.take_add_one,h]
 rfl
theorem mem_mnt {ts:List Tk} {cs:List Cmd} {f:Frm}:f ∈ mnt ts cs↔(∃ t ∈ ts,t.fr=f)∨∃ c ∈ cs,Frm.cmd c=f:=by simp [mnt]
theorem tok_mem {ts:List Tk} {cs:List Cmd} {t:Tk}:t.fr ∈ mnt ts cs↔t ∈ ts:=by
 rw [mem_mnt]
 constructor
 · rintro (⟨u,hu,e⟩ | ⟨c,_,e⟩)
   · rw [← Tk.fr_inj e];exact hu
   · exact absurd e.symm (fr_ne_cmd t c)
 · exact fun h=>Or.inl ⟨t,h,rfl⟩
theorem cmd_mem {ts:List Tk} {cs:List Cmd} {c:Cmd}:Frm.cmd c ∈ mnt ts cs↔c ∈ cs:=by
 rw [mem_mnt]
 constructor
 · rintro (⟨u,hu,e⟩ | ⟨d,hd,e⟩)
   · exact absurd e (fr_ne_cmd u c)
   · rw [← cmd_inj12 e];exact hd
 · exact fun h=>Or.inr ⟨c,h,rfl⟩
theorem mnt_ok {ts:List Tk} {cs:List Cmd}:(∀ f ∈ mnt ts cs,f.Ok)↔GoodT ts∧GoodC cs:=by
 constructor
 · exact fun h=>⟨fun t ht=>(Frm.req_iff t.rq).1 (h _ (tok_mem.2 ht)),fun c hc=>(Frm.cmd_iff c).1 (h _ (cmd_mem.2 hc))⟩
 · rintro ⟨h1,h2⟩ f hf
   rcases mem_mnt.1 hf with ⟨t,ht,rfl⟩ | ⟨c,hc,rfl⟩
   · exact (Frm.req_iff t.rq).2 (h1 t ht)
   · exact (Frm.cmd_iff c).2 (h2 c hc)
def Frm.key (f:Frm):List Int:=if f.kd=1 then f.r.k.msg else f.c.msg
theorem key_t (t:Tk):t.fr.key=t.k.msg:=rfl
theorem key_c (c:Cmd):(Frm.cmd c).key=c.msg:=by unfold Frm.key;rw [if_neg (by show ¬ (2:Int)=1;decide)];rfl
theorem key_byts (f:Frm):Byts f.key:=by
 unfold Frm.key
 split
 · exact f.r.k.msg_byts
 · exact f.c.msg_byts
theorem key_len {f:Frm} (h:f.Ok):f.key.length≤56:=by
 unfold Frm.key
 split
 · rw [Nums.msg_len];omega
 · rename_i h1
   rcases h with ⟨h,_⟩ | ⟨_,_,h⟩
   · exact absurd h h1
   · rw [Cmd.msg_len (Cmd.ok_wd h)];omega
theorem key_tt {s t:Tk}:s.fr.key=t.fr.key↔s.bare=t.bare:=by
 rw [key_t,key_t,tk_bare_iff]
 exact ⟨Nums.msg_inj,fun h=>by rw [h]⟩
theorem cmd_bare_iff {c d:Cmd}:c.bare=d.bare↔c.ns=d.ns:=by
 constructor
 · intro h
   have:c.bare.ns=d.bare.ns:=by rw [h]
   exact this
 · exact fun h=>Cmd.ns_inj h rfl
theorem key_cc {c d:Cmd} (hc:c.Ok) (hd:d.Ok):(Frm.cmd c).key=(Frm.cmd d).key↔c.bare=d.bare:=by
 rw [key_c,key_c,cmd_bare_iff]
 constructor
 · intro h
   exact (Cmd.msg_inj (xs:=[]) (ys:=[]) (Cmd.ok_wd hc) (Cmd.ok_wd hd) (by rw [h])).1
 · intro h
   unfold Cmd.msg
   rw [h]
theorem key_tc (t:Tk) {c:Cmd} (hc:c.Ok):t.fr.key ≠ (Frm.cmd c).key:=fun h=>by
 have:=congrArg List.length h
 rw [key_t,key_c,Nums.msg_len,Cmd.msg_len (Cmd.ok_wd hc)] at this
 omega
theorem dst_iff {α β:Type} {f:α→β} {l:List α}:Dst f l l.length↔(l.map f).Nodup:=by
 unfold List.Nodup
 rw [List.pairwise_map,List.pairwise_iff_getElem]
 constructor
 · intro h i j hi hj hij
   exact h i j l[i] l[j] hij hj (List.getElem?_eq_getElem hi) (List.getElem?_eq_getElem hj)
 · intro h i j x y hij hj hx hy
   obtain ⟨hi,rfl⟩:=List.getElem?_eq_some_iff.1 hx
   obtain ⟨hj',rfl⟩:=List.getElem?_eq_some_iff.1 hy
   exact h i j hi hj' hij
theorem nodup_of {α β γ:Type} {f:α→β} {g:α→γ} {l:List α} (h:∀ x ∈ l,∀ y ∈ l,g x=g y→f x=f y) (hf:(l.map f).Nodup):(l.map g).Nodup:=by
 unfold List.Nodup at hf ⊢
 rw [List.pairwise_map] at hf ⊢
 exact hf.imp_of_mem fun hx hy h1 h2=>h1 (h _ hx _ hy h2)
theorem mnt_nodup {ts:List Tk} {cs:List Cmd} (hc:GoodC cs):((mnt ts cs).map Frm.key).Nodup↔DstT ts∧DstC cs:=by
 unfold DstT DstC
 rw [dst_iff,dst_iff]
 unfold mnt
 rw [List.map_append,List.map_map,List.map_map,List.nodup_append]
 constructor
 · rintro ⟨h1,h2,_⟩
   exact ⟨nodup_of (fun x _ y _ e=>key_tt.2 e) h1,nodup_of (fun x hx y hy e=>(key_cc (hc x hx) (hc y hy)).2 e) h2⟩
 · rintro ⟨h1,h2⟩
   refine ⟨nodup_of (fun x _ y _ e=>key_tt.1 e) h1,nodup_of (fun x hx y hy e=>(key_cc (hc x hx) (hc y hy)).1 e) h2,fun a ha b hb e=>?_⟩
   obtain ⟨t,_,rfl⟩:=List.mem_map.1 ha
   obtain ⟨c,h,rfl⟩:=List.mem_map.1 hb
   exact key_tc t (hc c h) e
def str (ns:List Int):ByteArray:=ns.foldl (fun r n=>r.push (UInt8.ofNat n.toNat)) ByteArray.empty
theorem str_fold:∀ (ns:List Int) (s:ByteArray),(ns.foldl (fun r n=>r.push (UInt8.ofNat n.toNat)) s).data.toList=s.data.toList ++ ns.map (fun n=>UInt8.ofNat n.toNat)
 | [],s=>by simp
 | n :: ns,s=>by
   rw [List.foldl_cons,str_fold ns]
   simp [ByteArray.push]
theorem str_data (ns:List Int):(str ns).data.toList=ns.map (fun n=>UInt8.ofNat n.toNat):=by
 unfold str
 rw [str_fold]
 simp
theorem str_size (ns:List Int):(str ns).size=ns.length:=by
 show (str ns).data.size=ns.length
 rw [← Array.length_toList,str_data,List.length_map]
theorem byte_inj {a b:Int} (ha:0≤a∧a≤255) (hb:0≤b∧b≤255) (h:UInt8.ofNat a.toNat=UInt8.ofNat b.toNat):a=b:=by
 have:=congrArg UInt8.toNat h
 rw [UInt8.toNat_ofNat',UInt8.toNat_ofNat'] at this
 omega
theorem bytes_map_inj:∀ {xs ys:List Int},Byts xs→Byts ys→xs.map (fun n=>UInt8.ofNat n.toNat)=ys.map (fun n=>UInt8.ofNat n.toNat)→xs=ys
 | [],[],_,_,_=>rfl
 | [],_ :: _,_,_,h=>by simp at h
 | _ :: _,[],_,_,h=>by simp at h
 | x :: xs,y :: ys,hx,hy,h=>by
   rw [List.map_cons,List.map_cons,List.cons.injEq] at h
   rw [byte_inj (hx x (by simp)) (hy y (by simp)) h.1,bytes_map_inj (fun z hz=>hx z (by simp [hz])) (fun z hz=>hy z (by simp [hz])) h.2]
def klit (k:List Int):Lit:=.string (str k).data.toList
theorem klit_inj {xs ys:List Int} (hx:Byts xs) (hy:Byts ys) (h:klit xs=klit ys):xs=ys:=by
 unfold klit at h
 rw [Lit.string.injEq,str_data,str_data] at h
 exact bytes_map_inj hx hy h
theorem klit_key (k:List Int):WideAt.IsKeyLit (klit k):=trivial
theorem key_of (k:List Int) (h:k.length≤1000):keyOf Tryz.prog 9 (.string (str k))=some (klit k) :=
 Go.WideMaps.keyOf_string_mk Tryz.underlying9 (by rw [str_size];unfold maxLen;omega)
theorem plainElem_bool_inv {H:Type} {P:Program} {e:TypeId} (he:P.underlying e=some .bool) {v:Value} {z:DataW H × List MemPlace} (h:plainElem P e v=some z):∃ b,v=.bool b∧z=(.lit (.bool b),[]):=by
 unfold plainElem at h
 rw [he] at h
 cases v <;> simp at h
 exact ⟨_,rfl,h.symm⟩
theorem keyedS:Keyed Tryz.prog 9:=string_keyed Tryz.underlying9
theorem zeroB (W:World):(zeroValue 4).run Tryz.prog W=.ok (.bool false) W:=by simp
def SeenM (W:World) (b n:Nat) (ks:List (List Int)):Prop:=∃ D:DataW Unit,W.ownsMap Tryz.prog 9 (plainElem Tryz.prog 4) b n D∧∀ k,Byts k→D.atKey (klit k) (.lit (.bool false))=.lit (.bool (decide (k ∈ ks)))
theorem SeenM.made (W:World):SeenM (W.alloc (.map #[] 0)) W.heap.size 0 []:=⟨_,World.ownsMap_made W _ _ _,fun _ _=>rfl⟩
theorem SeenM.kept {W W':World} {row:Option Nat} {b n:Nat} {ks:List (List Int)} (h:SeenM W b n ks) (hg:W.grownBy W' row) (hne:some b ≠ row):SeenM W' b n ks:=by
 obtain ⟨D,h1,h2⟩:=h
 exact ⟨D,h1.kept hg hne,h2⟩
theorem SeenM.lt {W:World} {b n:Nat} {ks:List (List Int)} (h:SeenM W b n ks):b < W.heap.size:=by
 obtain ⟨D,h1,_⟩:=h
 exact h1.lt
theorem SeenM.look {W:World} {b n:Nat} {ks:List (List Int)} (h:SeenM W b n ks) {k:List Int} (hk:Byts k) (hl:k.length≤1000):(Instr.lookup 140 (.map (some b)) (.string (str k)) false).run Tryz.prog W=.ok (.bool (decide (k ∈ ks))) W:=by
 obtain ⟨D,h1,h2⟩:=h
 obtain ⟨v,ps,hr,hv⟩:=h1.lookup keyedS Tryz.underlying140 (zeroB W) (plainElem_bool Tryz.underlying4 false) (key_of k hl)
 obtain ⟨c,rfl,e⟩:=plainElem_bool_inv Tryz.underlying4 hv
 rw [h2 k hk] at e
 simp at e
 rw [hr,e.1]
theorem SeenM.store {W:World} {b n:Nat} {ks:List (List Int)} (h:SeenM W b n ks) {k:List Int} (hk:Byts k) (hl:k.length≤1000) (hn:n < 1000):∃ W',(Instr.mapUpdate 140 (.map (some b)) (.string (str k)) (.bool true)).run Tryz.prog W=.ok () W'∧SeenM W' b (n + 1) (ks ++ [k])∧W.grownBy W' (some b):=by
 obtain ⟨D,h1,h2⟩:=h
 obtain ⟨W',hr,ho,hg⟩:=h1.update keyedS Tryz.underlying140 (by unfold maxLen;omega) (key_of k hl) (plainElem_bool Tryz.underlying4 true)
 refine ⟨W',hr,⟨_,ho,fun j hj=>?_⟩,hg⟩
 by_cases e:j=k
 · subst e
   rw [atKey_put_same h1.isMap (klit_key j)]
   simp
 · rw [atKey_put_other (fun q=>e (klit_inj hj hk q)),h2 j hj]
   simp [e]
theorem chk_many {ts:List Tk} {cs:List Cmd} (h:100 < ts.length + cs.length):ChkD ts cs 4:=Or.inl ⟨rfl,h⟩
theorem chk_bad {ts:List Tk} {cs:List Cmd} (h:ts.length + cs.length≤100) {f:Frm} (hf:f ∈ mnt ts cs) (hb:¬ f.Ok):ChkD ts cs 8:=Or.inr (Or.inl ⟨rfl,h,fun g=>hb (mnt_ok.2 g f hf)⟩)
theorem chk_twice {ts:List Tk} {cs:List Cmd} (h:ts.length + cs.length≤100) (hg:∀ f ∈ mnt ts cs,f.Ok) {l:List Frm} (hp:l <+: mnt ts cs) (hn:¬ (l.map Frm.key).Nodup):ChkD ts cs 14:=by
 have hg2:=mnt_ok.1 hg
 refine Or.inr (Or.inr (Or.inl ⟨rfl,h,hg2.1,hg2.2,fun q=>hn ?_⟩))
 exact ((mnt_nodup hg2.2).2 q).sublist (hp.sublist.map _)
theorem chk_ok {ts:List Tk} {cs:List Cmd} (h:ts.length + cs.length≤100) (hg:∀ f ∈ mnt ts cs,f.Ok) (hn:((mnt ts cs).map Frm.key).Nodup):ChkD ts cs 0:=by
 have hg2:=mnt_ok.1 hg
 have q:=(mnt_nodup hg2.2).1 hn
 exact Or.inr (Or.inr (Or.inr ⟨rfl,h,hg2.1,hg2.2,q.1,q.2⟩))
theorem ChkD.zero_inv {ts:List Tk} {cs:List Cmd} (h:ChkD ts cs 0):ts.length + cs.length≤100∧(∀ f ∈ mnt ts cs,f.Ok)∧((mnt ts cs).map Frm.key).Nodup:=by
 rcases h with ⟨h,_⟩ | ⟨h,_⟩ | ⟨h,_⟩ | ⟨_,h1,h2,h3,h4,h5⟩
 · cases h
 · cases h
 · cases h
 · exact ⟨h1,mnt_ok.2 ⟨h2,h3⟩,(mnt_nodup h3).2 ⟨h4,h5⟩⟩
theorem nodup_inj12 {α β:Type} {f:α→β} {l:List α} (h:(l.map f).Nodup) {x y:α} (hx:x ∈ l) (hy:y ∈ l) (e:f x=f y):x=y:=Dst.one (dst_iff.2 h) hx hy e
def Frm.flat (f:Frm):Frm:={ f with r:=⟨f.r.k,f.r.g,0,0,f.r.hg,f.r.hgb,by decide,by decide⟩ }
theorem acc_flat {ts:List Tk} {cs:List Cmd} {f:Frm} (hf:f.Ok):AccD ts cs f↔f.flat ∈ mnt ts cs:=by
 rcases hf with ⟨h1,_,h3⟩ | ⟨h1,h2,_⟩
 · rw [AccD.of1 (by omega),← tok_mem (cs:=cs)]
   have e:f.flat=f.r.tk.fr:=Frm.ext' h1 rfl h3
   rw [e]
 · rw [AccD.of2 h1,← cmd_mem (ts:=ts)]
   have e:f.flat=Frm.cmd f.c:=Frm.ext' h1 (Req.ext' (by show f.r.k=_;rw [h2];rfl) (by show f.r.g=_;rw [h2];rfl) rfl rfl) rfl
   rw [e]
def FndF (ts:List Tk) (cs:List Cmd) (f:Frm) (b:Bool) (q:Int):Prop :=
 (q ≠ 0∧ChkD ts cs q∧b=false)∨(q=8∧ChkD ts cs 0∧¬ f.Ok∧b=false)∨(ChkD ts cs 0∧f.Ok ∧
   ((q=0∧f ∈ mnt ts cs∧b=true)∨(q=14∧(∃ m ∈ mnt ts cs,m.key=f.key∧m ≠ f)∧b=false)∨((∀ m ∈ mnt ts cs,m.key ≠ f.key)∧b=false∧((q=4∧100≤ts.length + cs.length)∨(q=0∧ts.length + cs.length < 100)))))
end Go.Proofs.YtnfejdfjlnpldaaGreatDoor
