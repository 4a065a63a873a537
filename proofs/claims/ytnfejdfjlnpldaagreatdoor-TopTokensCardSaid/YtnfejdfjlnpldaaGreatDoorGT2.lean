import Derived.Test.YtnfejdfjlnpldaaGreatDoorGB1
import Derived.Test.YtnfejdfjlnpldaaGreatDoorGF2
import Derived.Test.YtnfejdfjlnpldaaGreatDoorGT1
import Derived.Lib.AppendZerosOnto
import Derived.Lib.SliceRun
set_option maxHeartbeats 3200000
set_option maxRecDepth 100000
namespace Go.Proofs.YtnfejdfjlnpldaaGreatDoor
open Go.RowKit
theorem zeroCells_one (z:Value) (k:Nat):Builtin.zeroCells #[z] k=(List.replicate k z).toArray:=by
 apply Array.ext
 · simp [Builtin.zeroCells]
 · intro i h1 h2
   simp [Builtin.zeroCells,Nat.mod_one]
theorem run_append_zeros {P:Program} (w:World) (base:Nat) (t tn ty e:TypeId) (i:TypeInfo) (z:Value) (kq kn:IntKind) (ht:P.underlying t=some (.slice e)) (htn:P.underlying tn=some (.int kn)) (hi:P.info? e=some i) (hz:i.zero=some z)
   (hsize:i.size=1) (hby:i.bytes=1) (hzs:z.cells = #[z]) (h1z:z.oneCell'=true) (v:Value) (n:Nat) (xs:List Value) (hown:w.ownsRow base e 1 v n xs) (k:Nat) (hk:n + k≤1000000) (hbase:base≤w.heap.size) :
   ∃ v' w',(Builtin.append_ #[t,tn] ty #[v,.int kq k]).run P w=.ok v' w'∧w'.ownsRow base e 1 v' (n + k) (xs ++ List.replicate k z)∧w.grownBy w' v.ownBlock:=by
 have hw:IntKind.i64.wrap (k:Int)=k:=by rw [IntKind.wrap_i64];omega
 have hneg:¬ ((k:Int) < 0):=by omega
 have h48i:¬ (281474976710656 < (k:Int) * 1):=by omega
 have h48j:¬ (281474976710656 < (k:Int)):=by omega
 have hlen:(xs ++ List.replicate k z).length=(n + k) * 1:=by rw [List.length_append,hown.1,List.length_replicate];omega
 have hm63:n + k≤maxLen:=by unfold maxLen;omega
 have grown:∀ (old:Nat) (row:Option Nat),
     (w.drew.alloc (.cells (xs.toArray ++ Builtin.zeroCells z.cells k ++ Builtin.zeroCells z.cells (grownCap w (n + k) old e - (n + k))) e)).ownsRow base e 1
       (.slice (some ⟨w.heap.size,0,none⟩) (n + k) (grownCap w (n + k) old e)) (n + k) (xs ++ List.replicate k z) ∧
     w.grownBy (w.drew.alloc (.cells (xs.toArray ++ Builtin.zeroCells z.cells k ++ Builtin.zeroCells z.cells (grownCap w (n + k) old e - (n + k))) e)) row:=by
   intro old row
   have hge:=grownCap_ge w (n + k) old e
   have hcm:grownCap w (n + k) old e≤maxLen:=grownCap_le_maxLen w (n + k) old e hm63
   rw [hzs,zeroCells_one,zeroCells_one]
   refine ⟨⟨hlen,.inr ⟨w.heap.size,_,_,rfl,hbase,heap_alloc_new w.drew _,hge,hcm,?_,?_⟩⟩,⟨rfl,rfl,rfl,by simp,fun k hk _=>heap_alloc_old w.drew _ hk⟩⟩
   · have:=hown.1
     simp only [Array.size_append,List.size_toArray,List.length_replicate]
     omega
   · simp only [Array.toList_append]
     rw [← hlen]
     exact List.take_left
 rcases hown.2 with ⟨rfl,rfl⟩ | ⟨g,cap,cur,rfl,hbg,hg,hnc,hcm,hcs,htake⟩
 · have hx:xs=[]:=List.eq_nil_of_length_eq_zero (by simpa using hown.1)
   subst hx
   by_cases hk0:k=0
   · subst hk0
     refine ⟨.slice none 0 0,w,?_,World.ownsRow_nil w base e 1,⟨rfl,rfl,rfl,Nat.le_refl _,fun _ _ _=>rfl⟩⟩
     simp [Builtin.append_,run_underlying ht,run_underlying htn,sizeOf,typeInfo,hi,asInt,asIntOf,show IntKind.i64.wrap 0=0 from rfl]
   · have hr:=Lib.run_append_nil_zeros (P:=P) w t tn ty e i z kq kn ht htn hi hz k (by omega) (by omega) (by omega) (by rw [hby];omega)
     have hgr:=grown 0 (Value.ownBlock (.slice none 0 0))
     simp only [Nat.zero_add,List.nil_append,Array.empty_append] at hgr ⊢
     exact ⟨_,_,hr,hgr.1,hgr.2⟩
 · by_cases hroom:n + k≤cap
   · by_cases hk0:k=0
     · subst hk0
       refine ⟨.slice (some ⟨g,0,none⟩) (n + 0) cap,w,?_,by simpa using hown,⟨rfl,rfl,rfl,Nat.le_refl _,fun _ _ _=>rfl⟩⟩
       simp [Builtin.append_,run_underlying ht,run_underlying htn,sizeOf,typeInfo,hi,asInt,asIntOf,show IntKind.i64.wrap 0=0 from rfl,hnc,storeCells]
     · have hfit:n + 0 + (List.replicate k z).length≤cur.size:=by rw [List.length_replicate,hcs];omega
       have hst:=run_storeCells_at P g n e (List.replicate k z) 0 cur w hg hfit (fun u hu=>by obtain ⟨_,rfl⟩:=List.mem_replicate.1 hu;exact h1z)
       rw [Nat.add_zero] at hst
       refine ⟨.slice (some ⟨g,0,none⟩) (n + k) cap,_,?_,⟨hlen,.inr ⟨g,cap,_,rfl,hbg,setRow_heap w g cur (cur.toList.take n ++ List.replicate k z ++ cur.toList.drop (n + (List.replicate k z).length)).toArray e _ hg,hroom,hcm,?_,?_⟩⟩,⟨rfl,rfl,rfl,by simp,fun k _ hk=>setRow_other w g k _ (fun e=>hk (by simp [Value.ownBlock,e]))⟩⟩
       · have hadd:(⟨g,0,none⟩:Addr).add n=⟨g,n,none⟩:=by rw [Go.WideShapes.add_plain,Nat.zero_add]
         simp [Builtin.append_,run_underlying ht,run_underlying htn,sizeOf,typeInfo,zeroValue,hi,hz,hsize,hby,asInt,asIntOf,hw,hneg,h48j,hk0,hroom,hzs,zeroCells_one,hadd]
         rw [hst]
         simp
       · simp only [List.size_toArray,List.length_append,List.length_take,List.length_drop,Array.length_toList,List.length_replicate]
         omega
       · rw [show cur.toList.take n=xs by rw [← htake,Nat.mul_one],← hlen]
         exact List.take_left
   · have hold:(Builtin.firstCells i.size n (.slice (some ⟨g,0,none⟩) n cap)).run P w.drew=.ok xs.toArray w.drew:=by
       have hl:=run_loadCells_list (P:=P) w.drew ⟨g,0,none⟩ xs (fun j u hu=>hown.cells (g:=g) rfl j u hu)
       rw [hown.1] at hl
       simpa [Builtin.firstCells,hsize] using hl
     have hr:=Lib.run_append_grow_zeros (P:=P) w t tn ty e i z kq kn ht htn hi hz (some ⟨g,0,none⟩) n cap xs hold k (by omega) (by omega) (by omega) (by omega) (by rw [hby];omega) (by rw [hby];exact growslice_fits (by omega) (by omega))
     have hgr:=grown cap (Value.ownBlock (.slice (some ⟨g,0,none⟩) n cap))
     exact ⟨_,_,hr,hgr.1,hgr.2⟩
theorem wpList_append_zeros {P:Program} {w:World} {ops:Array Oper} {rest:List Oper} {o:Oper} {a:Act} {Q:Exit→Act→World→Prop} (hgd:o.guard=none) (s x:Operand) (t tn:TypeId)
   (ho:o.op=.call { callee:=.builtin .append,args:=#[s,x],argTypes:=#[t,tn] }) (base:Nat) (e:TypeId) (i:TypeInfo) (z:Value) (kq kn:IntKind) (ht:P.underlying t=some (.slice e)) (htn:P.underlying tn=some (.int kn)) (hi:P.info? e=some i) (hz:i.zero=some z)
   (hsize:i.size=1) (hby:i.bytes=1) (hzs:z.cells = #[z]) (h1z:z.oneCell'=true) (v:Value) (n:Nat) (xs:List Value) (k:Nat) (hs:a.eval s=v) (hx:a.eval x=.int kq (k:Int)) (hown:w.ownsRow base e 1 v n xs) (hk:n + k≤1000000) (hbase:base≤w.heap.size)
   (h:∀ v' w',w'.ownsRow base e 1 v' (n + k) (xs ++ List.replicate k z)→w.grownBy w' v.ownBlock→wpList P ops Q rest (a.put o.dst v') w'):wpList P ops Q (o :: rest) a w:=by
 obtain ⟨v',w',hr,h2,h3⟩:=run_append_zeros (P:=P) w base t tn o.type e i z kq kn ht htn hi hz hsize hby hzs h1z v n xs hown k hk hbase
 exact Lib.wpList_append_run w hgd s x t tn ho _ _ hs hx v' w' hr (h v' w' h2 h3)
end Go.Proofs.YtnfejdfjlnpldaaGreatDoor
namespace Go.Proofs.YtnfejdfjlnpldaaGreatDoor
open Go.RowKit
theorem own_cut {w:World} {B e n g cap:Nat} {l:List Value} (h:w.ownsRow B e 1 (.slice (some ⟨g,0,none⟩) n cap) n l):w.ownsRow B e 1 (.slice (some ⟨g,0,none⟩) 0 cap) ([]:List Int).length (([]:List Int).map (Value.int .u8)):=by
 obtain ⟨_,⟨h1,_⟩ | ⟨g',cap',cur,h1,hb,hg,h2,h3,h4,h5⟩⟩:=h
 · cases h1
 · injection h1 with e1 e2 e3
   cases e1
   subst e3
   exact ⟨rfl,.inr ⟨g,cap,cur,rfl,hb,hg,Nat.zero_le _,h3,h4,by simp⟩⟩
set_option maxRecDepth 100000 in
set_option maxHeartbeats 1600000 in
theorem grow_is (n:Nat) (hn:n≤100000) (w:World):Calls Tryz.prog 53 #[.slice none 0 0,.int .i64 n] w (GivesOwn [] w):=by
 obtain ⟨ti,hin,hz0,hz1,hz2⟩:=info_parts info_u8'
 have i0:(0:Int)≤(n:Int):=by omega
 by_cases h0:n=0
 · subst h0
   have d1:decide (((0:Nat):Int) > 0)=false:=by decide
   go_enter Tryz.func53,Tryz.ntmps53
   go_wp2_with fail
   go_returns
   exact ⟨_,rfl,ownU_nil,Below.refl _ _⟩
 · have i1:(0:Int) < (n:Int):=by omega
   go_enter Tryz.func53,Tryz.ntmps53
   go_wp2_with (at_builtin;refine wpList_append_zeros rfl _ _ 43 3 rfl w.heap.size 5 ti (.int .u8 0) .i64 .i64 Tryz.underlying43 Tryz.underlying3 hin hz0 hz1 hz2 rfl rfl (.slice none 0 0) 0 [] n rfl rfl ownU_nil (by omega) (Nat.le_refl _) ?_;intro va wa hoa hga)
   have hB:Below w.heap.size w wa:=(Below.refl _ w).grown hga (Nat.le_refl _) (by intro k hk;cases hk)
   obtain ⟨aa,ca,rfl,hl1,hl2⟩:∃ g c,va=.slice (some ⟨g,0,none⟩) n c∧n≤c∧c≤9223372036854775807:=by
     rcases hoa.2 with ⟨h',q⟩ | ⟨g',cap',cur,h',_,_,q1,q2,_⟩
     · omega
     · exact ⟨g',cap',by simpa using h',by omega,by unfold maxLen at q2;omega⟩
   have hoc:=own_cut (n:=n) (l:=[] ++ List.replicate n (.int .u8 0)) (by simpa using hoa)
   clear hoa hga
   have q1:¬ ((ca:Int) < 0):=by omega
   have q2:(0:Int)≤(ca:Int):=by omega
   go_wp2_with fail
   go_returns
   exact ⟨_,rfl,hoc,hB⟩
theorem flat_take_succ (xss:List (List Int)) (k:Nat) (h:k < xss.length):(xss.take (k + 1)).flatten=(xss.take k).flatten ++ xss[k]:=by
 rw [List.take_succ_eq_append_getElem h,List.flatten_append]
 simp
theorem flat_take_le (xss:List (List Int)) (k:Nat):(xss.take k).flatten.length≤xss.flatten.length:=by
 conv=>rhs;rw [← List.take_append_drop k xss]
 rw [List.flatten_append,List.length_append]
 omega
set_option maxRecDepth 100000 in
set_option maxHeartbeats 1600000 in
theorem concat_is {b n:Nat} {vs:List Value} {xss:List (List Int)} (w:World) (hb:Box w b vs) (hL:∀ (i:Nat) (v:Value) (xs:List Int),vs[i]? = some v→xss[i]? = some xs→IsL w .u8 v xs) (hv:n=vs.length) (hx:n=xss.length) (hn:n≤1000) (hs:xss.flatten.length≤100000) :
   Calls Tryz.prog 21 #[.slice (some ⟨b,0,none⟩) n n] w (GivesOwn xss.flatten w):=by
 obtain ⟨ti,hin,hz0,hz1,hz2⟩:=info_parts info_u8'
 have HL:=Lib.hid hL
 have HV:=Lib.hid hv
 have HX:=Lib.hid hx
 have HT:=fun k=>flat_take_le xss k
 have HS:=Lib.hid (flat_take_succ xss)
 have zb:=hb.lt
 clear hL hv hx
 go_enter Tryz.func21,Tryz.ntmps21
 go_wp2_with fail
 go_loopw [3,11] (fun s3 s11 wr=>∃ k:Nat,s11=.int .i64 k∧s3=.int .i64 ((xss.take k).flatten.length:Nat)∧k≤n∧Below w.heap.size w wr) (fun _ s11 _=>n - (intOf s11).toNat)
 case atStart=>exact ⟨0,rfl,rfl,by omega,Below.refl _ _⟩
 case round =>
   obtain ⟨k,rfl,rfl,hk,hB⟩:=hrel
   have hs0:=hB.size
   by_cases hlt:k < n
   case pos =>
     obtain ⟨v,hve⟩:∃ v,vs[k]? = some v:=⟨_,List.getElem?_eq_getElem (by have:=HV.out;omega)⟩
     have hkx:k < xss.length:=by have:=HX.out;omega
     have hl1:=HL.out k v _ hve (List.getElem?_eq_getElem hkx)
     have ht:=HS.out k hkx
     have c1:=cell_below hB (hb.c k v hve)
     obtain ⟨xs,hxs⟩:∃ xs,xss[k]=xs:=⟨_,rfl⟩
     rw [hxs] at hl1 ht
     obtain ⟨av,cv,rfl,hi,_⟩:=hl1
     have hi1:=hi.room
     have hi2:=hi.most
     have hle:=HT (k + 1)
     rw [ht,List.length_append] at hle
     have HE:=Lib.hid (show (((xss.take (k + 1)).flatten.length:Nat):Int)=((xss.take k).flatten.length:Nat) + (xs.length:Nat) by rw [ht,List.length_append];omega)
     obtain ⟨S,hS⟩:∃ S,(xss.take k).flatten.length=S:=⟨_,rfl⟩
     rw [hS] at hle HE ⊢
     have zr:=lt_of_cell c1
     clear hve hxs hi ht hS
     have i0:(0:Int)≤(S:Int):=by omega
     have i1:(0:Int)≤(xs.length:Int):=by omega
     have i3:(S:Int) + (xs.length:Int)≤100000:=by omega
     have i4:(k:Int) < (n:Int):=by omega
     have i5:decide ((S:Int) + (xs.length:Int) < 0)=false:=decide_eq_false (by omega)
     go_wp2_with fail
     go_roundw
     case rel=>exact ⟨k + 1,by go_num,by rw [HE.out],by omega,hB⟩
     case measure=>simp [intOf];omega
   case neg =>
     obtain rfl:k=n:=by omega
     have HK:=Lib.hid (show xss.take k=xss from List.take_of_length_le (by have:=HX.out;omega))
     rw [HK.out]
     obtain ⟨S,hS⟩:∃ S,xss.flatten.length=S:=⟨_,rfl⟩
     rw [hS] at hs ⊢
     have HSS:=Lib.hid hS
     clear hS
     go_wp2_with fail
     refine (grow_is S hs _).mono ?_
     rintro e w1 ⟨v1,rfl,ho1,hb1⟩
     have hB1:=below_thru hB hb1
     have ho2:=ownR_base ho1 hB.size
     clear ho1 hb1
     go_wp2_with fail
     go_loopw [6,27] (fun s6 s27 wr=>∃ j m:Nat,s27=.int .i64 j∧j≤k∧Hid (wr.ownsRow w.heap.size 5 1 s6 m ((xss.take j).flatten.map (Value.int .u8)))∧Hid (m=(xss.take j).flatten.length)∧Below w.heap.size w wr) (fun _ s27 _=>k - (intOf s27).toNat)
     case atStart=>exact ⟨0,0,rfl,by omega,Lib.hid ho2,Lib.hid rfl,hB1⟩
     case round =>
       clear hB1 ho2 hB hs0
       obtain ⟨j,m,rfl,hj,HO,HM,hB⟩:=hrel
       have hs2:=hB.size
       by_cases hlt2:j < k
       case pos =>
         obtain ⟨v,hve⟩:∃ v,vs[j]? = some v:=⟨_,List.getElem?_eq_getElem (by have:=HV.out;omega)⟩
         have hkx:j < xss.length:=by have:=HX.out;omega
         have hl1:=(HL.out j v _ hve (List.getElem?_eq_getElem hkx)).below hB
         have ht:=HS.out j hkx
         have c1:=cell_below hB (hb.c j v hve)
         have hle:=HT (j + 1)
         obtain ⟨xs,hxs⟩:∃ xs,xss[j]=xs:=⟨_,rfl⟩
         rw [hxs] at hl1 ht
         rw [ht,List.length_append,HSS.out,← HM.out] at hle
         have HT2:=Lib.hid ht
         obtain ⟨av,cv,rfl,hi,h0⟩:=hl1
         have zr:=lt_of_cell c1
         have i4:(j:Int) < (k:Int):=by omega
         clear hve hxs ht hkx
         go_wp2_with (at_builtin;refine wpList_append_ints rfl _ _ 43 rfl w.heap.size 5 ti (.int .u8 0) 1 .u8 Tryz.underlying43 hin hz0 hz1 hz2 rfl _ m _ rfl HO.out av cv xs rfl hi h0 (by unfold maxLen;omega) (by omega) hs2 ?_;intro v4 w4 hown4 hgrow4)
         have hB4:=hB.grown hgrow4 hs2 (own_block HO.out)
         have HO4:Hid (w4.ownsRow w.heap.size 5 1 v4 (m + xs.length) ((xss.take (j + 1)).flatten.map (Value.int .u8))):=Lib.hid (by rw [HT2.out,List.map_append];exact hown4)
         have HM4:Hid (m + xs.length=(xss.take (j + 1)).flatten.length):=Lib.hid (by rw [HT2.out,List.length_append,← HM.out])
         clear hown4 hgrow4 HO hi h0
         go_wp2_with fail
         go_roundw
         case rel=>exact ⟨j + 1,m + xs.length,by go_num,by omega,HO4,HM4,hB4⟩
         case measure=>simp [intOf];omega
       case neg =>
         obtain rfl:j=k:=by omega
         go_wp2_with fail
         go_returns
         refine ⟨_,rfl,?_,hB⟩
         have h1:=HO.out
         rw [HK.out] at h1
         have h2:=HM.out
         rw [HK.out] at h2
         rwa [h2] at h1
end Go.Proofs.YtnfejdfjlnpldaaGreatDoor
namespace Go.Proofs.YtnfejdfjlnpldaaGreatDoor
open Go.RowKit
def GivesTwo (xs ys:List Int) (y w:World) (e:Ending) (w':World):Prop:=∃ v u,e=.returned (.tuple #[v,u])∧IsL y .u8 v xs∧IsL y .u8 u ys∧Below w.heap.size w w'
theorem IsL.recap {w:World} {k:IntKind} {b off n c:Nat} {xs:List Int} (h:IsL w k (.slice (some ⟨b,off,Option.none⟩) n c) xs) {a':Option Addr} {m:Nat} (hm:m≤xs.length) (ha:a'=some ⟨b,off,Option.none⟩):IsL w k (.slice a' m m) (xs.take m):=by
 subst ha
 obtain ⟨a0,c0,e,hi,_⟩:=h.taken hm
 injection e with e1 e2 e3
 subst e1 e3
 have l1:(xs.take m).length=m:=by rw [List.length_take];omega
 have q1:=hi.room
 have q2:=hi.most
 exact ⟨_,m,by rw [l1],⟨by omega,by omega,hi.cells⟩,fun q=>by cases q⟩
theorem IsL.empty {w:World} {k:IntKind} {a:Option Addr} {c:Nat} (h:c≤9223372036854775807) (h0:a=Option.none→c=0):IsL w k (.slice a 0 c) []:=⟨a,c,rfl,⟨Nat.zero_le _,h,fun q=>absurd q (by simp)⟩,h0⟩
set_option maxRecDepth 100000 in
set_option maxHeartbeats 1600000 in
theorem split_long {v:Value} {bs:List Int} (y w:World) (h1:IsL y .u8 v bs) (hl:20≤bs.length):Calls Tryz.prog 66 #[v] w (GivesTwo (bs.take 20) (bs.drop 20) y w):=by
 obtain ⟨a0,c0,rfl,hr,_⟩:=id h1
 have i1:=hr.room
 have i2:=hr.most
 have HR:=Lib.hid h1
 obtain ⟨b,off,rfl,_⟩:=h1.get 0 (by omega)
 have hmin:min (20:Int) (bs.length:Int)=20:=by omega
 have hlt:decide ((bs.length:Int) < 20)=false:=decide_eq_false (by omega)
 have hle:decide ((20:Int)≤(bs.length:Int))=true:=decide_eq_true (by omega)
 have hle2:(20:Int)≤(bs.length:Int):=by omega
 have hlc:(20:Int)≤(c0:Int):=by omega
 clear hr h1
 go_enter Tryz.func66,Tryz.ntmps66
 go_upto_region 2 with fail
 refine wp_region_held_drew (S:=fun _=>True) (by kernel_rfl) trivial (fun _=>?_)
 refine F_drew (F:=fun W=>wpAnyH _ _ _ _ _ _ _ _ W) ?_
 intro W0 hb0
 refine takeH 0 8 (v:=?vp0_1) rfl (by rfl) (by kernel_rfl) (by kernel_rfl) (by kernel_rfl) (fun _ _ _ h=>h) (Or.inl ⟨by rfl,?_⟩) (trivial) ?_
 rotate_left
 · intro wq hSq
   go_simp
   exact rfl
 try simp only [Act.put,qzA,qz0,qzS]
 refine takeH 1 9 (v:=?vp1_2) rfl (by rfl) (by kernel_rfl) (by kernel_rfl) (by kernel_rfl) (fun _ _ _ h=>h) (Or.inl ⟨by rfl,?_⟩) (trivial) ?_
 rotate_left
 · intro wq hSq
   go_simp
   exact rfl
 try simp only [Act.put,qzA,qz0,qzS]
 refine takeH 2 10 (v:=?vp2_3) rfl (by rfl) (by kernel_rfl) (by kernel_rfl) (by kernel_rfl) (fun _ _ _ h=>h) (Or.inl ⟨by rfl,?_⟩) (trivial) ?_
 rotate_left
 · intro wq hSq
   go_simp
   exact rfl
 try simp only [Act.put,qzA,qz0,qzS]
 refine takeH 3 11 (v:=?vp3_4) rfl (by rfl) (by kernel_rfl) (by kernel_rfl) (by kernel_rfl) (fun _ _ _ h=>h) (Or.inl ⟨by rfl,?_⟩) (trivial) ?_
 rotate_left
 · intro wq hSq
   go_simp
   exact rfl
 try simp only [Act.put,qzA,qz0,qzS]
 refine takeH 4 12 (v:=?vp4_5) rfl (by rfl) (by kernel_rfl) (by kernel_rfl) (by kernel_rfl) (fun _ _ _ h=>h) (Or.inl ⟨by rfl,?_⟩) (trivial) ?_
 rotate_left
 · intro wq hSq
   go_simp
   exact rfl
 try simp only [Act.put,qzA,qz0,qzS]
 refine takeH 5 13 (v:=?vp5_6) rfl (by rfl) (by kernel_rfl) (by kernel_rfl) (by kernel_rfl) (fun _ _ _ h=>h) (Or.inl ⟨by rfl,?_⟩) (trivial) ?_
 rotate_left
 · intro wq hSq
   go_simp
   exact rfl
 try simp only [Act.put,qzA,qz0,qzS]
 refine takeH 6 14 (v:=?vp6_7) rfl (by rfl) (by kernel_rfl) (by kernel_rfl) (by kernel_rfl) (fun _ _ _ h=>h) (Or.inl ⟨by rfl,?_⟩) (trivial) ?_
 rotate_left
 · intro wq hSq
   go_simp
   exact rfl
 try simp only [Act.put,qzA,qz0,qzS]
 refine takeH 7 2 (v:=?vp7_8) rfl (by rfl) (by kernel_rfl) (by kernel_rfl) (by kernel_rfl) (fun _ _ _ h=>h) (Or.inl ⟨by rfl,?_⟩) (trivial) ?_
 rotate_left
 · intro wq hSq
   go_simp
   exact rfl
 try simp only [Act.put,qzA,qz0,qzS]
 refine takeH 8 3 (v:=?vp8_9) rfl (by rfl) (by kernel_rfl) (by kernel_rfl) (by kernel_rfl) (fun _ _ _ h=>h) (Or.inl ⟨by rfl,?_⟩) (trivial) ?_
 rotate_left
 · intro wq hSq
   go_simp
   exact rfl
 try simp only [Act.put,qzA,qz0,qzS]
 refine wpAnyH_done (by kernel_rfl) ?_ _
 have HW:=HR.out
 have HB:=hb0
 clear HR hb0
 go_wp2_with fail
 all_goals go_returns
 · exact ⟨_,_,rfl,HW.recap hl rfl,HW.dropped hl rfl (by omega) (Or.inr ⟨by have:=HW.room;omega,by simp⟩),HB⟩
 · exact ⟨_,_,rfl,HW.recap hl rfl,HW.dropped hl rfl rfl (Or.inl rfl),HB⟩
set_option maxRecDepth 100000 in
set_option maxHeartbeats 1600000 in
theorem split_short {v:Value} {bs:List Int} (y w:World) (h1:IsL y .u8 v bs) (hl:bs.length < 20):Calls Tryz.prog 66 #[v] w (GivesTwo (bs.take 20) (bs.drop 20) y w):=by
 have e1:bs.take 20=bs:=List.take_of_length_le (by omega)
 have e2:bs.drop 20=[]:=List.drop_eq_nil_of_le (by omega)
 rw [e1,e2]
 clear e1 e2
 obtain ⟨a0,c0,rfl,hr,h0⟩:=id h1
 have i1:=hr.room
 have i2:=hr.most
 have HR:=Lib.hid h1
 have hmin:min (20:Int) (bs.length:Int)=(bs.length:Int):=by omega
 have hlt:decide ((bs.length:Int) < 20)=true:=decide_eq_true (by omega)
 have hle:decide ((20:Int)≤(bs.length:Int))=false:=decide_eq_false (by omega)
 have hlc:(bs.length:Int)≤(c0:Int):=by omega
 have hlp:(0:Int)≤(bs.length:Int):=by omega
 clear hr h1
 cases a0 with
 | none =>
   obtain rfl:=h0 rfl
   obtain rfl:bs=[]:=List.eq_nil_of_length_eq_zero (by omega)
   clear hl i1 i2 hlc hlp hlt hle hmin
   go_enter Tryz.func66,Tryz.ntmps66
   go_upto_region 2 with fail
   refine wp_region_held_drew (S:=fun _=>True) (by kernel_rfl) trivial (fun _=>?_)
   refine F_drew (F:=fun W=>wpAnyH _ _ _ _ _ _ _ _ W) ?_
   intro W0 hb0
   refine takeH 0 8 (v:=?vq0_1) rfl (by rfl) (by kernel_rfl) (by kernel_rfl) (by kernel_rfl) (fun _ _ _ h=>h) (Or.inl ⟨by rfl,?_⟩) (trivial) ?_
   rotate_left
   · intro wq hSq
     go_simp
     exact rfl
   try simp only [Act.put,qzA,qz0,qzS]
   refine takeH 1 9 (v:=?vq1_2) rfl (by rfl) (by kernel_rfl) (by kernel_rfl) (by kernel_rfl) (fun _ _ _ h=>h) (Or.inl ⟨by rfl,?_⟩) (trivial) ?_
   rotate_left
   · intro wq hSq
     go_simp
     exact rfl
   try simp only [Act.put,qzA,qz0,qzS]
   refine takeH 2 10 (v:=?vq2_3) rfl (by rfl) (by kernel_rfl) (by kernel_rfl) (by kernel_rfl) (fun _ _ _ h=>h) (Or.inl ⟨by rfl,?_⟩) (trivial) ?_
   rotate_left
   · intro wq hSq
     go_simp
     exact rfl
   try simp only [Act.put,qzA,qz0,qzS]
   refine takeH 3 11 (v:=?vq3_4) rfl (by rfl) (by kernel_rfl) (by kernel_rfl) (by kernel_rfl) (fun _ _ _ h=>h) (Or.inl ⟨by rfl,?_⟩) (trivial) ?_
   rotate_left
   · intro wq hSq
     go_simp
     exact rfl
   try simp only [Act.put,qzA,qz0,qzS]
   refine takeH 4 12 (v:=?vq4_5) rfl (by rfl) (by kernel_rfl) (by kernel_rfl) (by kernel_rfl) (fun _ _ _ h=>h) (Or.inl ⟨by rfl,?_⟩) (trivial) ?_
   rotate_left
   · intro wq hSq
     go_simp
     exact rfl
   try simp only [Act.put,qzA,qz0,qzS]
   refine takeH 5 13 (v:=?vq5_6) rfl (by rfl) (by kernel_rfl) (by kernel_rfl) (by kernel_rfl) (fun _ _ _ h=>h) (Or.inl ⟨by rfl,?_⟩) (trivial) ?_
   rotate_left
   · intro wq hSq
     go_simp
     exact rfl
   try simp only [Act.put,qzA,qz0,qzS]
   refine takeH 6 14 (v:=?vq6_7) rfl (by rfl) (by kernel_rfl) (by kernel_rfl) (by kernel_rfl) (fun _ _ _ h=>h) (Or.inl ⟨by rfl,?_⟩) (trivial) ?_
   rotate_left
   · intro wq hSq
     go_simp
     exact rfl
   try simp only [Act.put,qzA,qz0,qzS]
   refine takeH 7 2 (v:=?vq7_8) rfl (by rfl) (by kernel_rfl) (by kernel_rfl) (by kernel_rfl) (fun _ _ _ h=>h) (Or.inl ⟨by rfl,?_⟩) (trivial) ?_
   rotate_left
   · intro wq hSq
     go_simp
     exact rfl
   try simp only [Act.put,qzA,qz0,qzS]
   refine takeH 8 3 (v:=?vq8_9) rfl (by rfl) (by kernel_rfl) (by kernel_rfl) (by kernel_rfl) (fun _ _ _ h=>h) (Or.inl ⟨by rfl,?_⟩) (trivial) ?_
   rotate_left
   · intro wq hSq
     go_simp
     exact rfl
   try simp only [Act.put,qzA,qz0,qzS]
   refine wpAnyH_done (by kernel_rfl) ?_ _
   have HB:=hb0
   clear HR hb0
   go_wp2_with fail
   go_returns
   exact ⟨_,_,rfl,IsL.none,IsL.none,HB⟩
 | some ad =>
   by_cases hz:bs.length=0
   · obtain rfl:bs=[]:=List.eq_nil_of_length_eq_zero hz
     clear h0 hz hl i1 hlc hlp hlt hle hmin HR
     go_enter Tryz.func66,Tryz.ntmps66
     go_upto_region 2 with fail
     refine wp_region_held_drew (S:=fun _=>True) (by kernel_rfl) trivial (fun _=>?_)
     refine F_drew (F:=fun W=>wpAnyH _ _ _ _ _ _ _ _ W) ?_
     intro W0 hb0
     refine takeH 0 8 (v:=?vr0_1) rfl (by rfl) (by kernel_rfl) (by kernel_rfl) (by kernel_rfl) (fun _ _ _ h=>h) (Or.inl ⟨by rfl,?_⟩) (trivial) ?_
     rotate_left
     · intro wq hSq
       go_simp
       exact rfl
     try simp only [Act.put,qzA,qz0,qzS]
     refine takeH 1 9 (v:=?vr1_2) rfl (by rfl) (by kernel_rfl) (by kernel_rfl) (by kernel_rfl) (fun _ _ _ h=>h) (Or.inl ⟨by rfl,?_⟩) (trivial) ?_
     rotate_left
     · intro wq hSq
       go_simp
       exact rfl
     try simp only [Act.put,qzA,qz0,qzS]
     refine takeH 2 10 (v:=?vr2_3) rfl (by rfl) (by kernel_rfl) (by kernel_rfl) (by kernel_rfl) (fun _ _ _ h=>h) (Or.inl ⟨by rfl,?_⟩) (trivial) ?_
     rotate_left
     · intro wq hSq
       go_simp
       exact rfl
     try simp only [Act.put,qzA,qz0,qzS]
     refine takeH 3 11 (v:=?vr3_4) rfl (by rfl) (by kernel_rfl) (by kernel_rfl) (by kernel_rfl) (fun _ _ _ h=>h) (Or.inl ⟨by rfl,?_⟩) (trivial) ?_
     rotate_left
     · intro wq hSq
       go_simp
       exact rfl
     try simp only [Act.put,qzA,qz0,qzS]
     refine takeH 4 12 (v:=?vr4_5) rfl (by rfl) (by kernel_rfl) (by kernel_rfl) (by kernel_rfl) (fun _ _ _ h=>h) (Or.inl ⟨by rfl,?_⟩) (trivial) ?_
     rotate_left
     · intro wq hSq
       go_simp
       exact rfl
     try simp only [Act.put,qzA,qz0,qzS]
     refine takeH 5 13 (v:=?vr5_6) rfl (by rfl) (by kernel_rfl) (by kernel_rfl) (by kernel_rfl) (fun _ _ _ h=>h) (Or.inl ⟨by rfl,?_⟩) (trivial) ?_
     rotate_left
     · intro wq hSq
       go_simp
       exact rfl
     try simp only [Act.put,qzA,qz0,qzS]
     refine takeH 6 14 (v:=?vr6_7) rfl (by rfl) (by kernel_rfl) (by kernel_rfl) (by kernel_rfl) (fun _ _ _ h=>h) (Or.inl ⟨by rfl,?_⟩) (trivial) ?_
     rotate_left
     · intro wq hSq
       go_simp
       exact rfl
     try simp only [Act.put,qzA,qz0,qzS]
     refine takeH 7 2 (v:=?vr7_8) rfl (by rfl) (by kernel_rfl) (by kernel_rfl) (by kernel_rfl) (fun _ _ _ h=>h) (Or.inl ⟨by rfl,?_⟩) (trivial) ?_
     rotate_left
     · intro wq hSq
       go_simp
       exact rfl
     try simp only [Act.put,qzA,qz0,qzS]
     refine takeH 8 3 (v:=?vr8_9) rfl (by rfl) (by kernel_rfl) (by kernel_rfl) (by kernel_rfl) (fun _ _ _ h=>h) (Or.inl ⟨by rfl,?_⟩) (trivial) ?_
     rotate_left
     · intro wq hSq
       go_simp
       exact rfl
     try simp only [Act.put,qzA,qz0,qzS]
     refine wpAnyH_done (by kernel_rfl) ?_ _
     have HB:=hb0
     clear hb0
     go_wp2_with fail
     all_goals go_returns
     all_goals exact ⟨_,_,rfl,IsL.empty (by omega) (by simp),IsL.empty (by omega) (by simp),HB⟩
   · obtain ⟨b,off,e,_⟩:=HR.out.get 0 (by omega)
     cases e
     clear h0
     go_enter Tryz.func66,Tryz.ntmps66
     go_upto_region 2 with fail
     refine wp_region_held_drew (S:=fun _=>True) (by kernel_rfl) trivial (fun _=>?_)
     refine F_drew (F:=fun W=>wpAnyH _ _ _ _ _ _ _ _ W) ?_
     intro W0 hb0
     refine takeH 0 8 (v:=?vs0_1) rfl (by rfl) (by kernel_rfl) (by kernel_rfl) (by kernel_rfl) (fun _ _ _ h=>h) (Or.inl ⟨by rfl,?_⟩) (trivial) ?_
     rotate_left
     · intro wq hSq
       go_simp
       exact rfl
     try simp only [Act.put,qzA,qz0,qzS]
     refine takeH 1 9 (v:=?vs1_2) rfl (by rfl) (by kernel_rfl) (by kernel_rfl) (by kernel_rfl) (fun _ _ _ h=>h) (Or.inl ⟨by rfl,?_⟩) (trivial) ?_
     rotate_left
     · intro wq hSq
       go_simp
       exact rfl
     try simp only [Act.put,qzA,qz0,qzS]
     refine takeH 2 10 (v:=?vs2_3) rfl (by rfl) (by kernel_rfl) (by kernel_rfl) (by kernel_rfl) (fun _ _ _ h=>h) (Or.inl ⟨by rfl,?_⟩) (trivial) ?_
     rotate_left
     · intro wq hSq
       go_simp
       exact rfl
     try simp only [Act.put,qzA,qz0,qzS]
     refine takeH 3 11 (v:=?vs3_4) rfl (by rfl) (by kernel_rfl) (by kernel_rfl) (by kernel_rfl) (fun _ _ _ h=>h) (Or.inl ⟨by rfl,?_⟩) (trivial) ?_
     rotate_left
     · intro wq hSq
       go_simp
       exact rfl
     try simp only [Act.put,qzA,qz0,qzS]
     refine takeH 4 12 (v:=?vs4_5) rfl (by rfl) (by kernel_rfl) (by kernel_rfl) (by kernel_rfl) (fun _ _ _ h=>h) (Or.inl ⟨by rfl,?_⟩) (trivial) ?_
     rotate_left
     · intro wq hSq
       go_simp
       exact rfl
     try simp only [Act.put,qzA,qz0,qzS]
     refine takeH 5 13 (v:=?vs5_6) rfl (by rfl) (by kernel_rfl) (by kernel_rfl) (by kernel_rfl) (fun _ _ _ h=>h) (Or.inl ⟨by rfl,?_⟩) (trivial) ?_
     rotate_left
     · intro wq hSq
       go_simp
       exact rfl
     try simp only [Act.put,qzA,qz0,qzS]
     refine takeH 6 14 (v:=?vs6_7) rfl (by rfl) (by kernel_rfl) (by kernel_rfl) (by kernel_rfl) (fun _ _ _ h=>h) (Or.inl ⟨by rfl,?_⟩) (trivial) ?_
     rotate_left
     · intro wq hSq
       go_simp
       exact rfl
     try simp only [Act.put,qzA,qz0,qzS]
     refine takeH 7 2 (v:=?vs7_8) rfl (by rfl) (by kernel_rfl) (by kernel_rfl) (by kernel_rfl) (fun _ _ _ h=>h) (Or.inl ⟨by rfl,?_⟩) (trivial) ?_
     rotate_left
     · intro wq hSq
       go_simp
       exact rfl
     try simp only [Act.put,qzA,qz0,qzS]
     refine takeH 8 3 (v:=?vs8_9) rfl (by rfl) (by kernel_rfl) (by kernel_rfl) (by kernel_rfl) (fun _ _ _ h=>h) (Or.inl ⟨by rfl,?_⟩) (trivial) ?_
     rotate_left
     · intro wq hSq
       go_simp
       exact rfl
     try simp only [Act.put,qzA,qz0,qzS]
     refine wpAnyH_done (by kernel_rfl) ?_ _
     have HW:=HR.out
     have HB:=hb0
     clear HR hb0
     go_wp2_with fail
     all_goals go_returns
     · exact ⟨_,_,rfl,(by have:=HW.recap (Nat.le_refl _) rfl;rwa [List.take_length] at this),(by have:=HW.dropped (n':=0) (c':=0) (Nat.le_refl _) (by omega) (by omega) (Or.inr ⟨by omega,Option.some_ne_none ⟨b,off,none⟩⟩);rwa [List.drop_length] at this),HB⟩
     · exact ⟨_,_,rfl,(by have:=HW.recap (Nat.le_refl _) rfl;rwa [List.take_length] at this),(by have:=HW.dropped (n':=0) (c':=c0 - bs.length) (Nat.le_refl _) (by omega) (by omega) (Or.inl rfl);rwa [List.drop_length] at this),HB⟩
theorem split_is {v:Value} {bs:List Int} (y w:World) (h1:IsL y .u8 v bs):Calls Tryz.prog 66 #[v] w (GivesTwo (bs.take 20) (bs.drop 20) y w):=by
 by_cases hl:20≤bs.length
 · exact split_long y w h1 hl
 · exact split_short y w h1 (by omega)
end Go.Proofs.YtnfejdfjlnpldaaGreatDoor
namespace Go.Proofs.YtnfejdfjlnpldaaGreatDoor
open Go.RowKit
set_option maxRecDepth 100000 in
set_option maxHeartbeats 1600000 in
theorem rword_is {b i:Nat} {v:Value} {fs:List Fd} {f:Fd} (w:World) (hc:w.cell? ⟨b,0,none⟩=some v) (h1:IsR LF w v fs) (hi:fs[i]? = some f) (hn:f.n≤4294967295) (him:i≤1000):Calls Tryz.prog 67 #[.int .i64 i,.pointer (some ⟨b,0,none⟩)] w fun e w'=>e=.returned (.int .u32 f.n)∧w'=w:=by
 obtain ⟨a0,c0,rfl,hr⟩:=id h1
 have i1:=hr.room
 have i2:=hr.most
 obtain ⟨b1,off,rfl,hR⟩:=h1.get 34 rfl hi
 have c1:=hR 1 (.int .u64 f.n) rfl
 have il:=(List.getElem?_eq_some_iff.1 hi).1
 have hw:IntKind.u32.wrap f.n=f.n:=by have:=f.hn;rw [IntKind.wrap_u32];omega
 obtain ⟨n,hnn⟩:∃ n,f.n=n:=⟨_,rfl⟩
 rw [hnn] at c1 hw ⊢
 have zb:=lt_of_cell hc
 have zc:=lt_of_cell c1
 have i3:(i:Int) < (fs.length:Int):=by omega
 have i4:(0:Int)≤(i:Int):=by omega
 clear hr h1 hR hi hn hnn
 go_enter Tryz.func67,Tryz.ntmps67
 go_wp2_with fail
 go_returns
 exact ⟨rfl,rfl⟩
theorem list32 {l:List Int} (h:l.length=32):∃ x0 x1 x2 x3 x4 x5 x6 x7 x8 x9 x10 x11 x12 x13 x14 x15 x16 x17 x18 x19 x20 x21 x22 x23 x24 x25 x26 x27 x28 x29 x30 x31,l=[x0,x1,x2,x3,x4,x5,x6,x7,x8,x9,x10,x11,x12,x13,x14,x15,x16,x17,x18,x19,x20,x21,x22,x23,x24,x25,x26,x27,x28,x29,x30,x31]:=by
 match l,h with
 | [x0,x1,x2,x3,x4,x5,x6,x7,x8,x9,x10,x11,x12,x13,x14,x15,x16,x17,x18,x19,x20,x21,x22,x23,x24,x25,x26,x27,x28,x29,x30,x31],_=>exact ⟨x0,x1,x2,x3,x4,x5,x6,x7,x8,x9,x10,x11,x12,x13,x14,x15,x16,x17,x18,x19,x20,x21,x22,x23,x24,x25,x26,x27,x28,x29,x30,x31,rfl⟩
set_option maxRecDepth 100000 in
theorem build_tok (t u e x:Int) {g:List Int} (h:g.length=32) (W:World):(Instr.build 27 #[(0,.int .u32 t),(1,.int .u32 u),(2,.int .u32 e),(3,.int .u64 x),(4,.agg (g.map (Value.int .u8)).toArray)]).run Tryz.prog W=.ok (.agg (.int .u32 t :: .int .u32 u :: .int .u32 e :: .int .u64 x :: g.map (Value.int .u8)).toArray) W:=by
 obtain ⟨x0,x1,x2,x3,x4,x5,x6,x7,x8,x9,x10,x11,x12,x13,x14,x15,x16,x17,x18,x19,x20,x21,x22,x23,x24,x25,x26,x27,x28,x29,x30,x31,rfl⟩:=list32 h
 kernel_rfl
theorem yieldsIf_build {P:Program} {ops:Array Oper} {S:World→Prop} {op:Oper} {a:Act} (hw:Region.wanted op (yielded ops a.tmps)=true) (t:TypeId) (xs:Array (Nat × Operand)) (ho:op.op=.build t xs) {us:Array (Nat × Value)} {v:Value}
   (hx:(xs.toList.map fun p=>(p.1,a.eval p.2))=us.toList) (hr:∀ W,(Instr.build t us).run P W=.ok v W):YieldsIf P ops S op v a :=
 .inl ⟨hw,fun w _=>by
   have hx':(xs.map fun (i,x)=>(i,a.eval x))=us:=by
     apply Array.ext'
     rw [Array.toList_map,← hx]
   subst hx'
   unfold execOp
   simp only [ho,Sem.run_bind,hr,Result.andThen_ok,Sem.run_pure]⟩
def zeroT:List Value:=tcell Nums.zero zeroD
theorem z32:zeroD.length=32:=by decide
set_option maxRecDepth 100000 in
set_option maxHeartbeats 3200000 in
theorem tread_ok (k:Nums) {g:List Int} (hg:g.length=32) {v:Value} (w:World) (h1:IsL w .u8 v (k.msg ++ g)):Calls Tryz.prog 34 #[v] w fun e w'=>e=.returned (.tuple #[.agg (tcell k g).toArray,.int .i64 0])∧Below w.heap.size w w':=by
 have hx:Box (w.alloc (.cells zeroT.toArray 27)) w.heap.size zeroT:=Box.newc rfl rfl
 have hB:Below w.heap.size w (w.alloc (.cells zeroT.toArray 27)):=by go_grown
 have hm:=k.msg_len
 have C:=fun W=>split_is w W h1
 rw [List.take_left' hm,List.drop_left' hm] at C
 have R:=fun (W:World) (a b:Value) (h1:IsL W .u8 a [4,4,4,5]) (h2:IsL W .u8 b k.msg)=>read_is W h1 h2 (by decide) k.msg_byts
 rw [k.rea.1,k.rea.2] at R
 obtain ⟨M,hM⟩:∃ M,k.msg=M:=⟨_,rfl⟩
 rw [hM] at C R hm
 have HM:=Lib.hid hm
 have HG:=Lib.hid hg
 have hq:∀ W:World,(Op.equalIn 10000 132 (.agg #[.int .i64 20,.int .i64 32]) (.agg #[.int .i64 20,.int .i64 32])).run Tryz.prog W=.ok true W:=fun W =>
   eq_ints W 9998 Tryz.underlying132 Tryz.underlying3 (by kernel_rfl) [20,32] [20,32] rfl rfl
 have BT:=fun W=>build_tok k.t k.u k.e k.x HG.out W
 have ST:=Lib.hid (size_tok k HG.out)
 have LT:=Lib.hid (len_tok Nums.zero k z32 HG.out)
 have OT:=Lib.hid (tcell_one k g)
 have HV:tcell k g=.int .u32 k.t :: .int .u32 k.u :: .int .u32 k.e :: .int .u64 k.x :: g.map (Value.int .u8):=rfl
 rw [← HV] at BT
 clear HV
 obtain ⟨V,hV⟩:∃ V,tcell k g=V:=⟨_,rfl⟩
 rw [hV] at BT ST LT OT ⊢
 clear hV
 clear hM hm hg h1
 go_enter Tryz.func34,Tryz.ntmps34
 go_wp2_with fail
 refine (C _).mono ?_
 rintro e w1 ⟨v1,v2,rfl,hv1,hv2,hb1⟩
 have hx1:=hx.below hb1
 have hB1:=below_thru hB hb1
 have hs1:=hB1.size
 have hzx:=hx1.lt
 obtain ⟨a1,c1,rfl,i1,_⟩:=id hv1
 obtain ⟨a2,c2,rfl,i2,_⟩:=id hv2
 obtain ⟨b2,o2,rfl,hr2⟩:=IsL.rangeOf hv2 (by have:=HG.out;omega)
 have zb2:b2 < w.heap.size:=lt_of_cell (hr2 0 _ (List.getElem?_eq_getElem (by simp [HG.out])))
 have ic1:=i1.room
 have ic2:=i2.room
 have im1:=i1.most
 have im2:=i2.most
 have HV1:=Lib.hid (hv1.below hB1)
 have hg1:=range_below hr2 hB1
 rw [HM.out] at ic1 ⊢
 rw [HG.out] at ic2 ⊢
 have HV1:Hid (IsL w1 .u8 (.slice a1 20 c1) M):=Lib.hid (by have:=HV1.out;rwa [HM.out] at this)
 have hA:∀ W,(Instr.arrayAt 23 (.slice (some ⟨b2,o2,none⟩) 32 c2)).run Tryz.prog W=.ok (.pointer (some ⟨b2,o2,none⟩)) W:=fun W=>run_arrayAt W 23 _ 32 _ 32 c2 Tryz.underlying23 (Nat.le_refl _)
 clear hx hB hb1 hv1 hv2 i1 i2 hr2 C
 go_wp2_with fail
 have hkin:IsL (w1.alloc (.cells #[.int .u8 4,.int .u8 4,.int .u8 4,.int .u8 5] 5)) .u8 (.slice (some ⟨w1.heap.size,0,none⟩) 4 4) [4,4,4,5]:=IsL.built [4,4,4,5] rfl rfl rfl rfl (by decide)
 refine (R _ _ _ hkin (HV1.out.alloc _)).mono ?_
 rintro e w2 ⟨vr,rfl,hor,hb2⟩
 have hBw:Below w1.heap.size w1 w2:=below_thru (by go_grown) hb2
 have hx2:=hx1.below hBw
 have hB2:=below_thru hB1 hBw
 have hg2:=range_below hg1 hBw
 have hrow:=IsR.own hor rfl rfl
 have hob:=ownR_block hor
 have hs2:=hB2.size
 have f0:∃ f,k.row[0]? = some f∧f.n=k.t∧f.n≤4294967295:=⟨_,rfl,rfl,k.ht.2⟩
 have f1:∃ f,k.row[1]? = some f∧f.n=k.u∧f.n≤4294967295:=⟨_,rfl,rfl,k.hu.2⟩
 have f2:∃ f,k.row[2]? = some f∧f.n=k.e∧f.n≤4294967295:=⟨_,rfl,rfl,k.he.2⟩
 have f3:∃ f,k.row[3]? = some f∧f.n=k.x:=⟨_,rfl,rfl⟩
 have hfl:k.row.length=4:=rfl
 obtain ⟨fs,hfs⟩:∃ fs,k.row=fs:=⟨_,rfl⟩
 rw [hfs] at hrow f0 f1 f2 f3 hfl
 obtain ⟨a3,c3,rfl,hrr⟩:=id hrow
 obtain ⟨f3,e3,q3⟩:=f3
 obtain ⟨b4,o4,rfl,hR4⟩:=hrow.get 34 rfl e3
 have zb4:w.heap.size < b4:=by have:=hob b4 rfl;simp at this;omega
 have c4:=hR4 1 (.int .u64 k.x) (by rw [← q3];rfl)
 have ir1:=hrr.room
 have ir2:=hrr.most
 rw [hfl] at ir1 ⊢
 have hrow:IsR LF w2 (.slice (some ⟨b4,o4,none⟩) 4 c3) fs:=by rwa [hfl] at hrow
 clear hx1 hB1 hg1 hBw hb2 hor R hkin HV1 hfs hrr hR4 e3 q3 hob
 have hIG:=Lib.hid (show (Tryz.prog.info? 23).map (·.size)=some (g.map (Value.int .u8)).length by rw [sizeDig,List.length_map,HG.out])
 go_upto_region 6 with fail
 refine wp_region_held_drew (S:=fun W=>W.cell? ⟨w2.heap.size,0,none⟩=some (.slice (some ⟨b4,o4,none⟩) 4 c3)∧W.cell? ⟨b4,o4 + 3 * 34 + 1,none⟩=some (.int .u64 k.x)∧W.rangeAt b2 o2 (g.map (Value.int .u8))) (by kernel_rfl) ⟨(Box.newc (l:=[.slice (some ⟨b4,o4,none⟩) 4 c3]) rfl rfl).c 0 _ rfl,cell_alloc c4,range_cells hg2 (fun b o v h=>cell_alloc h)⟩ (fun _=>?_)
 have hX:Below w2.heap.size w2 (w2.alloc (.cells #[.slice (some ⟨b4,o4,none⟩) 4 c3] 76)):=(Below.refl _ _).alloc (Nat.le_refl _) _
 have cX:=(Box.newc (l:=[.slice (some ⟨b4,o4,none⟩) 4 c3]) (w:=w2) (t:=76) rfl rfl).c 0 _ rfl
 have zX:w2.heap.size < (w2.alloc (.cells #[.slice (some ⟨b4,o4,none⟩) 4 c3] 76)).heap.size:=by simp
 refine F_drew (F:=fun W=>wpAnyH _ _ _ _ _ _ _ _ W) ?_
 intro W0 hb0
 have hW0:Below w2.heap.size w2 W0:=below_thru hX hb0
 have hx0:=And.intro (cell_below hb0 cX) (And.intro (cell_below hW0 c4) (range_below hg2 hW0))
 have zx2:=hx2.lt;have ht0:=hx2.below hW0;have hB0:=below_thru hB2 hW0;have hr0:=hrow.below hW0
 clear hx2 hg2 hB2 c4 cX hb0 hX hrow zX
 refine takeH 0 29 (v:=?vt0_1) rfl (by rfl) (by kernel_rfl) (by kernel_rfl) (by kernel_rfl) (fun _ _ _ h=>h) (Or.inl ⟨by rfl,?_⟩) (hx0) ?_
 rotate_left
 · intro wq hSq
   go_simp
   exact rfl
 try simp only [Act.put,qzA,qz0,qzS]
 refine takeH 2 31 (v:=?vt2_2) rfl (by rfl) (by kernel_rfl) (by kernel_rfl) (by kernel_rfl) (fun _ _ _ h=>h) (Or.inl ⟨by rfl,?_⟩) (hx0) ?_
 rotate_left
 · intro wq hSq
   go_simp
   exact rfl
 try simp only [Act.put,qzA,qz0,qzS]
 refine takeH 4 33 (v:=?vt4_3) rfl (by rfl) (by kernel_rfl) (by kernel_rfl) (by kernel_rfl) (fun _ _ _ h=>h) (Or.inl ⟨by rfl,?_⟩) (hx0) ?_
 rotate_left
 · intro wq hSq
   go_simp
   exact rfl
 try simp only [Act.put,qzA,qz0,qzS]
 refine takeH 6 35 (v:=?vt6_4) rfl (by rfl) (by kernel_rfl) (by kernel_rfl) (by kernel_rfl) (fun _ _ _ h=>h) (Or.inl ⟨by rfl,?_⟩) (hx0) ?_
 rotate_left
 · intro wq hSq
   have cq:=hSq.1
   have zq:=lt_of_cell cq
   go_simp
   exact rfl
 try simp only [Act.put,qzA,qz0,qzS]
 refine takeH 7 36 (v:=?vt7_5) rfl (by rfl) (by kernel_rfl) (by kernel_rfl) (by kernel_rfl) (fun _ _ _ h=>h) (Or.inl ⟨by rfl,?_⟩) (hx0) ?_
 rotate_left
 · intro wq hSq
   go_simp
   exact rfl
 try simp only [Act.put,qzA,qz0,qzS]
 refine takeH 8 37 (v:=?vt8_6) rfl (by rfl) (by kernel_rfl) (by kernel_rfl) (by kernel_rfl) (fun _ _ _ h=>h) (Or.inl ⟨by rfl,?_⟩) (hx0) ?_
 rotate_left
 · intro wq hSq
   go_simp
   exact rfl
 try simp only [Act.put,qzA,qz0,qzS]
 refine takeH 9 38 (v:=?vt9_7) rfl (by rfl) (by kernel_rfl) (by kernel_rfl) (by kernel_rfl) (fun _ _ _ h=>h) (Or.inl ⟨by rfl,?_⟩) (hx0) ?_
 rotate_left
 · intro wq hSq
   have cq:=hSq.2.1
   have zq:=lt_of_cell cq
   go_simp
   exact rfl
 try simp only [Act.put,qzA,qz0,qzS]
 refine takeH 10 39 (v:=?vt10_8) rfl (by rfl) (by kernel_rfl) (by kernel_rfl) (by kernel_rfl) (fun _ _ _ h=>h) (Or.inl ⟨by rfl,?_⟩) (hx0) ?_
 rotate_left
 · intro wq hSq
   go_simp
   exact rfl
 try simp only [Act.put,qzA,qz0,qzS]
 refine takeH 11 40 (v:=?vt11_9) rfl (by rfl) (by kernel_rfl) (by kernel_rfl) (by kernel_rfl) (fun _ _ _ h=>h) (Or.inl ⟨by rfl,?_⟩) (hx0) ?_
 rotate_left
 · intro wq hSq
   go_simp
   exact rfl
 try simp only [Act.put,qzA,qz0,qzS]
 refine takeH 12 41 (v:=.agg (g.map (Value.int .u8)).toArray) rfl (by rfl) (by kernel_rfl) (by kernel_rfl) (by kernel_rfl) (fun _ _ _ h=>h) (yieldsIf_load_mid (by rfl) _ _ rfl _ _ rfl (g.map (Value.int .u8)) _ (fun wq hq=>hq.2.2) Tryz.underlying23 rfl hIG.out) (hx0) ?_
 try simp only [Act.put,qzA,qz0,qzS]
 refine wpAnyH_ready (rs:=[1]) (by kernel_rfl) (by simp) (AllReadyH.cons rfl (fun K hK=>?_) AllReadyH.nil)
 obtain ⟨f0w,e0w,q0w,l0w⟩:=f0
 have C0:=rword_is W0 hx0.1 hr0 e0w l0w (by omega)
 rw [q0w] at C0
 clear q0w e0w l0w
 go_simp
 refine C0.mono ?_
 rintro e W10 ⟨rfl,rfl⟩
 clear C0
 refine hK.out _ _ hx0 (fun _=>?_);clear hK K
 refine wpAnyH_ready (rs:=[3]) (by kernel_rfl) (by simp) (AllReadyH.cons rfl (fun K hK=>?_) AllReadyH.nil)
 obtain ⟨f1w,e1w,q1w,l1w⟩:=f1
 have C1:=rword_is W10 hx0.1 hr0 e1w l1w (by omega)
 rw [q1w] at C1
 clear q1w e1w l1w
 go_simp
 refine C1.mono ?_
 rintro e W11 ⟨rfl,rfl⟩
 clear C1
 refine hK.out _ _ hx0 (fun _=>?_);clear hK K
 refine wpAnyH_ready (rs:=[5]) (by kernel_rfl) (by simp) (AllReadyH.cons rfl (fun K hK=>?_) AllReadyH.nil)
 obtain ⟨f2w,e2w,q2w,l2w⟩:=f2
 have C2:=rword_is W11 hx0.1 hr0 e2w l2w (by omega)
 rw [q2w] at C2
 clear q2w e2w l2w
 go_simp
 refine C2.mono ?_
 rintro e W12 ⟨rfl,rfl⟩
 clear C2
 refine hK.out _ _ hx0 (fun _=>?_);clear hK K
 refine takeH 13 42 (v:=.agg V.toArray) rfl (by rfl) (by kernel_rfl) (by kernel_rfl) (by kernel_rfl) (fun _ _ _ h=>h) (yieldsIf_build (by rfl) _ _ rfl (us:=#[(0,.int .u32 k.t),(1,.int .u32 k.u),(2,.int .u32 k.e),(3,.int .u64 k.x),(4,.agg (g.map (Value.int .u8)).toArray)]) (by rfl) BT) (hx0) ?_
 try simp only [Act.put,qzA,qz0,qzS]
 refine wpAnyH_ready (rs:=[14]) (by kernel_rfl) (by simp) (AllReadyH.cons rfl (fun K hK=>?_) AllReadyH.nil)
 refine step_store_box0 rfl rfl _ _ _ rfl ht0 rfl rfl ST.out LT.out OT.out (fun W13 hW=>?_)
 have hx13:=And.intro (hW.cell _ _ _ (by omega) hx0.1) (And.intro (hW.cell _ _ _ (by omega) hx0.2.1) (fun j v hv=>hW.cell _ _ _ (by omega) (hx0.2.2 j v hv):W13.rangeAt b2 o2 (g.map (Value.int .u8))))
 refine hK.out _ _ hx13 (fun _=>?_);clear hK K
 refine takeH 15 3 (v:=?vt15_14) rfl (by rfl) (by kernel_rfl) (by kernel_rfl) (by kernel_rfl) (fun _ _ _ h=>h) (Or.inl ⟨by rfl,?_⟩) (hx13) ?_
 rotate_left
 · intro wq hSq
   go_simp
   exact rfl
 try simp only [Act.put,qzA,qz0,qzS]
 refine wpAnyH_done (by kernel_rfl) ?_ _
 go_wp2_with fail
 exact bodyPost_ret (results_box2 Tryz.results34 hW.box rfl rfl Tryz.underlying27 rfl ST.out) rfl ⟨rfl,hW.below _ _ (Nat.le_refl _) hB0⟩
end Go.Proofs.YtnfejdfjlnpldaaGreatDoor
