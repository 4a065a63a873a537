import Derived.Test.YtnfejdfjlnpldaaGreatDoorIdPkB
import Derived.Test.YtnfejdfjlnpldaaGreatDoorIdPkC
set_option maxHeartbeats 6400000
set_option maxRecDepth 100000
namespace Go.Proofs.YtnfejdfjlnpldaaGreatDoor
open Go.RowKit Go.Shelf
attribute [local go_sem] Oper.semAt_some
theorem Box.same12 {w w':World} {b:Nat} {vs:List Value} (h:Box w b vs) (hh:w'.heap[b]? = w.heap[b]?) (hs:w.heap.size≤w'.heap.size):Box w' b vs :=
 ⟨fun i v e=>(World.cell?_of_block hh).trans (h.c i v e),fun i v e=>(World.frozen?_of_block hh).trans (h.f i v e),Nat.lt_of_lt_of_le h.lt hs⟩
theorem heap_own {β:Type} {B D:Nat} (o:Option Obj) (hD:D < B):OwnFrom B (fun (_:β) W=>W.heap[D]? = o∧D < W.heap.size):=fun _ X Y row hs hg hr =>
 ⟨(hg.block D hs.2 (fun e=>by have:=(hr D e.symm).1;omega)).trans hs.1,Nat.lt_of_lt_of_le hs.2 hg.size⟩
theorem seen_own {β:Type} {B b:Nat} (n:β→Nat) (ks:β→List (List Int)) (hb:b < B):OwnFrom B (fun s W=>SeenM W b (n s) (ks s)):=fun _ X Y row hs hg hr=>hs.kept hg (fun e=>by have:=(hr b e.symm).1;omega)
def calm (Q:Exit→Act→World→Prop):Exit→Act→World→Prop
 | .panic _,_,_=>False
 | .outgrown,_,_=>False
 | e,a,w=>Q e a w
theorem calm_n {Q:Exit→Act→World→Prop} {a:Act} {w:World} (h:Q .normal a w):calm Q .normal a w:=h
theorem calm_le {Q:Exit→Act→World→Prop}:∀ (e:Exit) (a:Act) (w:World),calm Q e a w→Q e a w
 | .normal,_,_,h=>h
 | .ret,_,_,h=>h
 | .exit _,_,_,h=>h
 | .goto _,_,_,h=>h
 | .panic _,_,_,h=>h.elim
 | .outgrown,_,_,h=>h.elim
theorem region_held_calm {F:Fence} {n:Nat} {P:Program} {ops:Array Oper} {Q:Exit→Act→World→Prop} {S:World→Prop} {id:Nat} {a:Act} {w:World} (hF:Wd F) (hnd:noDef ops.toList=true) (hm:P.follows .mixedOrders=true) (hS:S w.drew)
   (h:S w.drew→wpAnyH P .any ops (calm Q) S ops.size (Array.replicate ops.size false) a w.drew):(Code.region id ops true).wpIn F n P Q a w :=
 Code.wpIn_mono calm_le (region_held_in hF (fun ⟨_,_,h⟩=>h) hnd hm hS h)
theorem size_own {β:Type} {B k:Nat}:OwnFrom B (fun (_:β) W=>k≤W.heap.size):=fun _ _ _ _ hs hg _=>Nat.le_trans hs hg.size
theorem stored_new {w W1:World} {c:Array Value} {t:TypeId} {F:List Value} (h:Stored (w.alloc (.cells c t)) w.heap.size F W1):Below w.heap.size w W1:=h.below _ _ (Nat.le_refl _) ((Below.refl _ _).alloc (Nat.le_refl _) _)
set_option maxRecDepth 100000 in
set_option maxHeartbeats 6400000 in
theorem pchk_x {v:Value} {ts:List Tk} {cs:List Cmd} {q:Int} (w:World) (h1:IsD w v ts cs) (hq:ChkD ts cs q) (hm:ts.length + cs.length≤100):CallsIn Fence.wide 3 Tryz.prog 45 #[v] w fun e w'=>e=.returned (.int .i64 q)∧Below w.heap.size w w':=by
 obtain ⟨n,hn⟩:∃ n,ts.length + cs.length=n:=⟨_,rfl⟩
 have SZ:=fun (W:World) (h:IsD W v ts cs)=>psize_is W h hn (by omega)
 have HD:=Lib.hid h1
 obtain ⟨v1,v2,rfl,g1,g2⟩:=id h1
 obtain ⟨a1,c1,rfl,hr1⟩:=id g1;obtain ⟨a2,c2,rfl,hr2⟩:=id g2
 have H1:=Lib.hid g1;have H2:=Lib.hid g2
 have HM:=Lib.hid hm;have HQ:=Lib.hid hq
 have d1:decide ((100:Int) < (n:Int))=false:=decide_eq_false (by omega)
 clear hr1 hr2 g1 g2 h1 hn hm hq
 refine callsIn_of_wp_marks Tryz.func45 rfl trivial ?_ rfl
 simp only [Tryz.ntmps45,List.size_toArray,List.length_cons,List.length_nil,Nat.reduceAdd,Nat.reduceSub,Array.replicate_succ,Array.replicate_zero,List.push_toArray,List.append_toArray,List.nil_append,List.cons_append]
 gi_wp2_with (refine in_load_box rfl _ _ rfl (Box.alloc (Box.newc (l:=[.slice a1 ts.length c1,.slice a2 cs.length c2]) rfl rfl) _) rfl Tryz.underlying62 rfl (size_id12 _ _) ?_)
 refine ⟨trivial,?_⟩
 refine (callsIn_wide.2 (SZ _ (HD.out.below (((Below.refl _ _).alloc (Nat.le_refl _) _).alloc (by simp) _)))).mono ?_
 rintro e w1 ⟨rfl,hb⟩
 have x_d1:Box w1 w.heap.size [.slice a1 ts.length c1,.slice a2 cs.length c2]:=Box.below (Box.alloc (Box.newc rfl rfl) _) hb
 have x_e1:Box w1 (w.heap.size + 1) [.int .i64 0]:=Box.below (Box.newc rfl (by simp)) hb
 have hB1:Below w.heap.size w w1:=below_thru (((Below.refl _ w).alloc (Nat.le_refl _) _).alloc (by simp) _) hb
 have hs1:=hB1.size
 clear hb
 gi_wp2_with (refine in_load_box rfl _ _ rfl x_d1 rfl Tryz.underlying62 rfl (size_id12 _ _) ?_)
 refine ⟨trivial,?_⟩
 refine (callsIn_wide.2 (pmint_is _ _ _)).mono ?_
 rintro e w2 ⟨rfl,rfl⟩
 clear d1
 gi_wp2
 have x_n:Box (w1.alloc (.cells #[.slice a1 ts.length c1,.slice a2 cs.length c2] 62)) w1.heap.size [.slice a1 ts.length c1,.slice a2 cs.length c2]:=Box.newc rfl rfl
 have hN:Below w1.heap.size w1 (w1.alloc (.cells #[.slice a1 ts.length c1,.slice a2 cs.length c2] 62)):=(Below.refl _ _).alloc (Nat.le_refl _) _
 have hsz:(w1.alloc (.cells #[.slice a1 ts.length c1,.slice a2 cs.length c2] 62)).heap.size=w1.heap.size + 1:=by simp
 obtain ⟨W0,hW0⟩:∃ W0,w1.alloc (.cells #[.slice a1 ts.length c1,.slice a2 cs.length c2] 62)=W0:=⟨_,rfl⟩
 rw [hW0] at x_n hN hsz ⊢
 clear hW0
 have x_d2:=x_d1.below hN;have x_e2:=x_e1.below hN
 have hB2:=below_thru hB1 hN
 have K1:=Lib.hid (H1.out.below hB1);have K2:=Lib.hid (H2.out.below hB1)
 have ltd:=x_d1.lt;have lte:=x_e1.lt
 clear x_d1 x_e1
 refine wpIn_rangeFunc_ownH (n:=3) rfl (by decide) (gf:=73) (lb:=#[.pointer (some ⟨w1.heap.size,0,none⟩)]) rfl trivial (enters_of Tryz.func73 (by kernel_rfl) rfl)
   (minted_stops 2 w1.heap.size w1 W0 K1 K2 hN x_n) KpB.t (KpB.b (by omega) (by omega)) (Below.refl _ _) (fun _=>rfl)
   (fun pre W=>Hid (∀ y ∈ pre,y.1.Ok)∧Box W w.heap.size [.slice a1 ts.length c1,.slice a2 cs.length c2]∧Box W (w.heap.size + 1) [.int .i64 0]∧Below w.heap.size w W∧W0.heap.size≤W.heap.size)
   (fun c pre W=>(c=.ret∧Hid (∃ y ∈ pre,¬ y.1.Ok))∧Box W (w.heap.size + 1) [.int .i64 8]∧Below w.heap.size w W)
   (OwnFrom.and (ownFrom_pure _ _) (OwnFrom.and (box_own _ _ _) (OwnFrom.and (box_own _ _ _) (OwnFrom.and (ownFrom_below (Nat.le_refl _) (by omega)) size_own))))
   (fun c=>OwnFrom.and (ownFrom_pure _ _) (OwnFrom.and (box_own _ _ _) (ownFrom_below (Nat.le_refl _) (by omega))))
   ⟨Lib.hid (fun y hy=>by cases hy),x_d2,x_e2,hB2,Nat.le_refl _⟩
   (fun x a' W=>∃ Bx,Box W Bx (mcell x.1)∧a'={ tmps:=#[.agg #[.slice a1 ts.length c1,.slice a2 cs.length c2],.pointer (some ⟨w.heap.size,0,none⟩),.pointer (some ⟨w.heap.size + 1,0,none⟩),.pointer (some ⟨Bx,0,none⟩),undef,undef,undef,.agg #[.slice a1 ts.length c1,.slice a2 cs.length c2],.int .i64 n,.bool false,.agg #[.slice a1 ts.length c1,.slice a2 cs.length c2],.func (.func 73) #[] #[.pointer (some ⟨w1.heap.size,0,none⟩)],.agg (mcell x.1).toArray,undef,undef,undef,undef,undef,undef,undef,undef,undef,undef,undef,undef,undef,undef],defers:=[] })
   (fun x a' _ X Y row hs hg hr=>by obtain ⟨Bx,h1,h2⟩:=hs;exact ⟨Bx,h1.own12 hg (fun r e=>(hr r e).2),h2⟩)
   ?assign ?body ?done ?stop
 case assign =>
   rintro l pre x W K ⟨hp,xd,xe,hB,hz⟩ hK
   have SF:=Lib.hid (size_frm x.1);have LF:=Lib.hid (len_frm Frm.zero x.1);have OF:=Lib.hid (one_frm x.1)
   unfold mfV
   obtain ⟨F,hF⟩:∃ F,mcell x.1=F:=⟨_,rfl⟩
   rw [hF] at SF LF OF hK ⊢
   gi_wp2_with (refine in_store_box (cs:=F) rfl _ _ _ rfl (Box.newc (l:=mcell Frm.zero) rfl rfl) rfl rfl SF.out LF.out OF.out ?_;intro W1 hW1)
   have hN1:=stored_new hW1
   exact hK _ _ ((KeepsOthers.of_below hN1).from _) (KpB.of_below hN1 (by omega) (by omega)) ⟨hp,xd.below hN1,xe.below hN1,below_thru hB hN1,Nat.le_trans hz hN1.size⟩ ⟨W.heap.size,hW1.box,rfl⟩
 case body =>
   rintro l pre x a' W hl ⟨r,hr⟩ ⟨hp,xd,xe,hB,hz⟩ ⟨Bx,xb,rfl⟩ hlt
   have SF:=Lib.hid (size_frm x.1)
   by_cases hok:x.1.Ok
   · have CK:=fun W=>chk_is x.1 (q:=0) (Lib.hid (Or.inl ⟨rfl,hok⟩)) W
     have HP:=Lib.hid (show ∀ y ∈ pre ++ [x],y.1.Ok from fun y hy=>by
       rcases List.mem_append.1 hy with h | h
       · exact hp.out y h
       · rw [List.mem_singleton.1 h];exact hok)
     obtain ⟨F,hF⟩:∃ F,mcell x.1=F:=⟨_,rfl⟩
     rw [hF] at SF CK xb ⊢
     gi_wp2_with (refine in_load_box rfl _ _ rfl xb rfl Tryz.underlying37 rfl SF.out ?_)
     refine ⟨trivial,?_⟩
     refine (CallsIn.inRound l (callsIn_wide.2 (CK _))).mono ?_
     rintro e W2 ⟨rfl,hb⟩
     gi_wp2
     exact ⟨(KeepsOthers.of_below hb).from _,KpB.of_below hb (by omega) (by omega),HP,xd.below hb,xe.below hb,below_thru hB hb,Nat.le_trans hz hb.size⟩
   · have CK:=fun W=>chk_is x.1 (q:=8) (Lib.hid (Or.inr ⟨rfl,hok⟩)) W
     have HP:Hid (∃ y ∈ pre ++ [x],¬ y.1.Ok):=Lib.hid ⟨x,by simp,hok⟩
     obtain ⟨F,hF⟩:∃ F,mcell x.1=F:=⟨_,rfl⟩
     rw [hF] at SF CK xb ⊢
     gi_wp2_with (refine in_load_box rfl _ _ rfl xb rfl Tryz.underlying37 rfl SF.out ?_)
     refine ⟨trivial,?_⟩
     refine (CallsIn.inRound l (callsIn_wide.2 (CK _))).mono ?_
     rintro e W2 ⟨rfl,hb⟩
     have xe2:=xe.below hb
     have ce:=xe2.c 0 _ rfl;have fe:=xe2.f 0 _ rfl;have le:=xe2.lt
     gi_wp2
     exact ⟨((KeepsOthers.of_below hb).trans (KeepsOthers.setCell _ _ _)).from _,⟨rfl,HP⟩,xe2.set 0 _,(below_thru hB hb).setCell (p:=⟨w.heap.size + 1,0,none⟩) (by simp) _⟩
 case stop =>
   rintro D c pre W hD hpre ⟨⟨rfl,hbad⟩,xe,hB⟩ hK
   gi_wp2
   refine ⟨by simp,.inl ⟨_,_,rfl,run_takeDeferred hK,?_⟩⟩
   have hc5:=cell_kept (xe.c 0 _ rfl) (grownBy_putObj' _ D (.deferred none)) (fun r e=>by cases e;exact ⟨_,hK,rfl⟩)
   have HX:(8:Int)=q:=by
     obtain ⟨y,hy,hn⟩:=hbad.out
     exact ChkD.uniq (chk_bad HM.out (hpre.subset (List.mem_map_of_mem hy)) hn) HQ.out
   refine ⟨.int .i64 8,?_,ret_i12 HX,hB.trans (belowK_b (w:=w) (Nat.le_refl _) W D _ _ (by omega) hK rfl rfl)⟩
   simp [results,Tryz.f45,go_sem,hc5]
 case done =>
   rintro D ys W3 hD hys ⟨hp,xd,xe,hB3,hz⟩ hK1
   have HG:=Lib.hid (show ∀ f ∈ mnt ts cs,f.Ok from fun f hf=>by
     rw [← hys] at hf
     obtain ⟨y,hy,rfl⟩:=List.mem_map.1 hf
     exact hp.out y hy)
   have hD3:=(Array.getElem?_eq_some_iff.1 hK1).1
   have hs3:=hB3.size
   clear hp hys K1 K2 hN x_n hB1 hB2 x_d2 x_e2
   have hmm:=@run_makeMap Tryz.prog
   gi_wp2_with (refine in_load_box rfl _ _ rfl ((xd.alloc _).alloc _) rfl Tryz.underlying62 rfl (size_id12 _ _) ?_)
   refine ⟨trivial,?_⟩
   refine (callsIn_wide.2 (pmint_is _ _ _)).mono ?_
   rintro e w4 ⟨rfl,rfl⟩
   clear hmm
   gi_wp2
   have bx:∀ (X Y Z:Obj),Below W3.heap.size W3 (((W3.alloc X).alloc Y).alloc Z):=fun X Y Z=>(((Below.refl _ W3).alloc (Nat.le_refl _) _).alloc (by simp) _).alloc (by simp;omega) _
   have m_s:SeenM (((W3.alloc (.map #[] 0)).alloc (.cells #[.map (some W3.heap.size)] 140)).alloc (.cells #[.slice a1 ts.length c1,.slice a2 cs.length c2] 62)) W3.heap.size 0 []:=((SeenM.made W3).kept (World.grownBy_alloc _ _ none) (by simp)).kept (World.grownBy_alloc _ _ none) (by simp)
   have x_s:Box (((W3.alloc (.map #[] 0)).alloc (.cells #[.map (some W3.heap.size)] 140)).alloc (.cells #[.slice a1 ts.length c1,.slice a2 cs.length c2] 62)) (W3.heap.size + 1) [.map (some W3.heap.size)]:=Box.alloc (Box.newc rfl (by simp)) _
   have x_n:Box (((W3.alloc (.map #[] 0)).alloc (.cells #[.map (some W3.heap.size)] 140)).alloc (.cells #[.slice a1 ts.length c1,.slice a2 cs.length c2] 62)) (W3.heap.size + 1 + 1) [.slice a1 ts.length c1,.slice a2 cs.length c2]:=Box.newc rfl (by simp)
   have hN:=bx (.map #[] 0) (.cells #[.map (some W3.heap.size)] 140) (.cells #[.slice a1 ts.length c1,.slice a2 cs.length c2] 62)
   have hsz2:(((W3.alloc (.map #[] 0)).alloc (.cells #[.map (some W3.heap.size)] 140)).alloc (.cells #[.slice a1 ts.length c1,.slice a2 cs.length c2] 62)).heap.size=W3.heap.size + 3:=by simp
   obtain ⟨W5,hW5⟩:∃ W5,((W3.alloc (.map #[] 0)).alloc (.cells #[.map (some W3.heap.size)] 140)).alloc (.cells #[.slice a1 ts.length c1,.slice a2 cs.length c2] 62)=W5:=⟨_,rfl⟩
   rw [hW5] at m_s x_s x_n hN hsz2 ⊢
   clear hW5 bx
   have K1:=Lib.hid (H1.out.below hB3);have K2:=Lib.hid (H2.out.below hB3)
   have ltd:=xd.lt;have lte:=xe.lt
   refine wpIn_rangeFunc_ownH (n:=3) rfl (by decide) (gf:=73) (lb:=#[.pointer (some ⟨W3.heap.size + 1 + 1,0,none⟩)]) rfl trivial (enters_of Tryz.func73 (by kernel_rfl) rfl)
     (minted_stops 2 (W3.heap.size + 1 + 1) W3 W5 K1 K2 hN x_n) KpB.t (KpB.b (by omega) (by omega)) (Below.refl _ _) (fun _=>rfl)
     (fun pre W=>Hid ((pre.map (fun y=>y.1.key)).Nodup)∧SeenM W W3.heap.size pre.length (pre.map (fun y=>y.1.key))∧Box W (W3.heap.size + 1) [.map (some W3.heap.size)]∧Below W3.heap.size W3 W∧W5.heap.size≤W.heap.size)
     (fun c pre W=>(c=.ret∧Hid (¬ (pre.map (fun y=>y.1.key)).Nodup))∧Box W (w.heap.size + 1) [.int .i64 14]∧(W.heap[D]? = some (.deferred (some []))∧D < W.heap.size)∧Below w.heap.size w W)
     (OwnFrom.and (ownFrom_pure _ _) (OwnFrom.and (seen_own _ _ (by omega)) (OwnFrom.and (box_own _ _ _) (OwnFrom.and (ownFrom_below (Nat.le_refl _) (by omega)) size_own))))
     (fun c=>OwnFrom.and (ownFrom_pure _ _) (OwnFrom.and (box_own _ _ _) (OwnFrom.and (heap_own _ (by omega)) (ownFrom_below (Nat.le_refl _) (by omega)))))
     ⟨Lib.hid List.nodup_nil,m_s,x_s,hN,Nat.le_refl _⟩
     (fun x a' W=>∃ Bx,Box W Bx (mcell x.1)∧a'={ tmps:=#[.agg #[.slice a1 ts.length c1,.slice a2 cs.length c2],.pointer (some ⟨w.heap.size,0,none⟩),.pointer (some ⟨w.heap.size + 1,0,none⟩),undef,.pointer (some ⟨W3.heap.size + 1,0,none⟩),.pointer (some ⟨Bx,0,none⟩),undef,.agg #[.slice a1 ts.length c1,.slice a2 cs.length c2],.int .i64 n,.bool false,.agg #[.slice a1 ts.length c1,.slice a2 cs.length c2],.func (.func 73) #[] #[.pointer (some ⟨w1.heap.size,0,none⟩)],undef,undef,undef,undef,.map (some W3.heap.size),.agg #[.slice a1 ts.length c1,.slice a2 cs.length c2],.func (.func 73) #[] #[.pointer (some ⟨W3.heap.size + 1 + 1,0,none⟩)],.agg (mcell x.1).toArray,undef,undef,undef,undef,undef,undef,undef],defers:=[] })
     (fun x a' _ X Y row hs hg hr=>by obtain ⟨Bx,h1,h2⟩:=hs;exact ⟨Bx,h1.own12 hg (fun r e=>(hr r e).2),h2⟩)
     ?assign2 ?body2 ?done2 ?stop2
   case assign2 =>
     rintro l pre x W K ⟨hp,hm,xs,hB,hz⟩ hK
     have SF:=Lib.hid (size_frm x.1);have LF:=Lib.hid (len_frm Frm.zero x.1);have OF:=Lib.hid (one_frm x.1)
     unfold mfV
     obtain ⟨F,hF⟩:∃ F,mcell x.1=F:=⟨_,rfl⟩
     rw [hF] at SF LF OF hK ⊢
     gi_wp2_with (refine in_store_box (cs:=F) rfl _ _ _ rfl (Box.newc (l:=mcell Frm.zero) rfl rfl) rfl rfl SF.out LF.out OF.out ?_;intro W1 hW1)
     have hN1:=stored_new hW1
     exact hK _ _ ((KeepsOthers.of_below hN1).from _) (KpB.of_below hN1 (by omega) (by omega)) ⟨hp,hm.kept (grown_none hN1) (by simp),xs.below hN1,below_thru hB hN1,Nat.le_trans hz hN1.size⟩ ⟨W.heap.size,hW1.box,rfl⟩
   case body2 =>
     rintro l pre x a' W hl ⟨r,hr⟩ ⟨hp,hm,xs,hB,hz⟩ ⟨Bx,xb,rfl⟩ hlt
     have SF:=Lib.hid (size_frm x.1)
     have hok:=HG.out x.1 x.2
     have MS:=fun W=>pmsg_is x.1 hok W
     have hkb:=key_byts x.1;have hkl:=key_len hok
     have hN':=mnt_len ts cs
     have HPL:=Lib.hid (show pre.length < 1000 by have:=HM.out;omega)
     clear hlt hN' hok
     have HKM:=Lib.hid (show x.1.key ∈ pre.map (fun y=>y.1.key)→¬ ((pre ++ [x]).map (fun y=>y.1.key)).Nodup from fun h hn=>by
       rw [List.map_append,List.nodup_append] at hn
       exact hn.2.2 _ h _ (by simp) rfl)
     have HKN:=Lib.hid (show x.1.key ∉ pre.map (fun y=>y.1.key)→((pre ++ [x]).map (fun y=>y.1.key)).Nodup from fun h=>by
       rw [List.map_append,List.nodup_append]
       exact ⟨hp.out,by simp,fun a ha b hb e=>h (by simp at hb;rw [← hb,← e];exact ha)⟩)
     have HKS:=Lib.hid (show pre.map (fun y=>y.1.key) ++ [x.1.key]=(pre ++ [x]).map (fun y=>y.1.key)∧pre.length + 1=(pre ++ [x]).length from by simp)
     obtain ⟨ks,hks⟩:∃ ks,pre.map (fun y=>y.1.key)=ks:=⟨_,rfl⟩
     obtain ⟨kx,hkx⟩:∃ k,x.1.key=k:=⟨_,rfl⟩
     rw [hks] at HKM HKN HKS hm
     rw [hkx] at HKM HKN HKS MS hkb hkl
     clear hks hkx hp
     obtain ⟨F,hF⟩:∃ F,mcell x.1=F:=⟨_,rfl⟩
     rw [hF] at SF MS xb ⊢
     gi_wp2_with (refine in_load_box rfl _ _ rfl xb rfl Tryz.underlying37 rfl SF.out ?_)
     refine ⟨trivial,?_⟩
     refine (CallsIn.inRound l (callsIn_wide.2 (MS _))).mono ?_
     rintro e W2 ⟨rfl,hb⟩
     have hm2:=hm.kept (grown_none hb) (by simp)
     have xs2:=xs.below hb
     have cs2:=xs2.c 0 _ rfl;have zs2:=xs2.lt
     have hlk:=hm2.look hkb (by omega)
     have hB5:=below_thru hB hb
     have hz5:=Nat.le_trans hz hb.size
     by_cases hin:kx ∈ ks
     · have hdk:decide (kx ∈ ks)=true:=decide_eq_true hin
       rw [hdk] at hlk
       have xe2:=(xe.below hB5)
       have ce:=xe2.c 0 _ rfl;have fe:=xe2.f 0 _ rfl;have le:=xe2.lt
       have HD:=Lib.hid ((hB5.block D hD3).trans hK1)
       have HX:=Lib.hid (HKM.out hin)
       clear hin hdk HKM HKN HKS
       gi_wp2
       exact ⟨((KeepsOthers.of_below hb).trans (KeepsOthers.setCell _ _ _)).from _,⟨rfl,HX⟩,xe2.set 0 _,⟨(KeepsOthers.setCell _ _ _).same D _ HD.out rfl,by have:=hB5.size;simp;omega⟩,(hB3.trans (hB5.mono hs3)).setCell (p:=⟨w.heap.size + 1,0,none⟩) (by simp) _⟩
     · have hdk:decide (kx ∈ ks)=false:=decide_eq_false hin
       rw [hdk] at hlk
       obtain ⟨W6,hst,hm6,hg6⟩:=hm2.store hkb (by omega) HPL.out
       have HX:=Lib.hid (HKN.out hin)
       clear hin hdk HKM HKN
       gi_wp2
       have hKF:KeepsFrom W5.heap.size W2 W6:=KeepsFrom.of_grownBy hg6 (fun j e=>by cases e;omega)
       have hBl:Below W3.heap.size W2 W6:=(Below.refl _ _).grown hg6 (by omega) (fun k e=>by cases e;exact Nat.le_refl _)
       exact ⟨((KeepsOthers.of_below hb).from _).trans hKF,⟨((hb.mono (by omega)).trans hBl),(hg6.block _ (by omega) (by simp;omega)).trans (hb.block _ (by omega))⟩,HX,by rw [← HKS.out.1,← HKS.out.2];exact hm6,xs2.same12 (hg6.block _ (by omega) (by simp)) hg6.size,hB5.trans hBl,Nat.le_trans hz5 hg6.size⟩
   case stop2 =>
     rintro D2 c pre W hD2 hpre ⟨⟨rfl,hbad⟩,xe5,⟨hK1',hD1⟩,hB5⟩ hK
     gi_wp2
     refine ⟨by simp,.inl ⟨_,_,rfl,run_takeDeferred hK,?_⟩⟩
     have hK1'':(W.putObj D2 (.deferred none)).heap[D]? = some (.deferred (some [])):=(World.putObj_heap_other (by omega)).trans hK1'
     refine ⟨by simp,.inl ⟨_,_,rfl,run_takeDeferred hK1'',?_⟩⟩
     have hc5:=cell_kept (xe5.c 0 _ rfl) (grownBy_putObj' _ D2 (.deferred none)) (fun r e=>by cases e;exact ⟨_,hK,rfl⟩)
     have hc6:=cell_kept hc5 (grownBy_putObj' _ D (.deferred none)) (fun r e=>by cases e;exact ⟨_,hK1'',rfl⟩)
     have HX:(14:Int)=q:=ChkD.uniq (chk_twice HM.out HG.out hpre (by rw [List.map_map];exact hbad.out)) HQ.out
     refine ⟨.int .i64 14,?_,ret_i12 HX,(hB5.trans (belowK_b (w:=w) (Nat.le_refl _) W D2 _ _ (by omega) hK rfl rfl)).trans (belowK_b (w:=w) (Nat.le_refl _) _ D _ _ (by omega) hK1'' rfl rfl)⟩
     simp [results,Tryz.f45,go_sem,hc6]
   case done2 =>
     rintro D2 ys W hD2 hys2 ⟨hp,hm,xs,hB,hz⟩ hK
     have HX:Hid ((0:Int)=q):=Lib.hid (by
       refine ChkD.uniq (chk_ok HM.out HG.out ?_) HQ.out
       rw [← hys2,List.map_map]
       exact hp.out)
     have xe2:=xe.below hB
     have hK1':=(hB.block D hD3).trans hK1
     have hB6:=hB3.trans (hB.mono hs3)
     have ce:=xe2.c 0 _ rfl;have fe:=xe2.f 0 _ rfl;have le:=xe2.lt
     clear hp hys2 hm xs
     gi_wp2
     have xf:=xe2.set 0 (.int .i64 0)
     have hKa:=(KeepsOthers.setCell W ⟨w.heap.size + 1,0,none⟩ (.int .i64 0)).same D2 _ hK rfl
     have hKb:=(KeepsOthers.setCell W ⟨w.heap.size + 1,0,none⟩ (.int .i64 0)).same D _ hK1' rfl
     have hB7:=hB6.setCell (p:=⟨w.heap.size + 1,0,none⟩) (by simp) (.int .i64 0)
     refine ⟨by simp,.inl ⟨_,_,rfl,run_takeDeferred hKa,?_⟩⟩
     have hK1'':=(World.putObj_heap_other (o:=.deferred none) (show D ≠ D2 by omega)).trans hKb
     refine ⟨by simp,.inl ⟨_,_,rfl,run_takeDeferred hK1'',?_⟩⟩
     have hc5:=cell_kept (xf.c 0 _ rfl) (grownBy_putObj' _ D2 (.deferred none)) (fun r e=>by cases e;exact ⟨_,hKa,rfl⟩)
     have hc6:=cell_kept hc5 (grownBy_putObj' _ D (.deferred none)) (fun r e=>by cases e;exact ⟨_,hK1'',rfl⟩)
     refine ⟨.int .i64 0,?_,ret_i12 HX.out,(hB7.trans (belowK_b (w:=w) (Nat.le_refl _) _ D2 _ _ (by omega) hKa rfl rfl)).trans (belowK_b (w:=w) (Nat.le_refl _) _ D _ _ (by omega) hK1'' rfl rfl)⟩
     simp [results,Tryz.f45,go_sem,hc6]
set_option maxRecDepth 100000 in
set_option maxHeartbeats 6400000 in
theorem pchk_m {v:Value} {ts:List Tk} {cs:List Cmd} {q:Int} (w:World) (h1:IsD w v ts cs) (hl:ts.length + cs.length≤200) (hq:ChkD ts cs q) (hm:100 < ts.length + cs.length):Calls Tryz.prog 45 #[v] w fun e w'=>e=.returned (.int .i64 q)∧Below w.heap.size w w':=by
 obtain ⟨n,hn⟩:∃ n,ts.length + cs.length=n:=⟨_,rfl⟩
 have SZ:=fun (W:World) (h:IsD W v ts cs)=>psize_is W h hn (by omega)
 have HX:=Lib.hid (ChkD.uniq (chk_many hm) hq)
 have d1:decide ((100:Int) < (n:Int))=true:=decide_eq_true (by omega)
 have HD:=Lib.hid h1
 obtain ⟨v1,v2,rfl,g1,g2⟩:=id h1
 clear g1 g2 h1 hn hm hq hl
 go_enter Tryz.func45,Tryz.ntmps45
 go_upto_region 1 with fail
 refine F_gen (F:=fun W=>Code.wp _ _ _ _ W) (J:=fun W=>Box W w.heap.size [v1,v2]∧Box W (w.heap.size + 1) [.int .i64 0]∧Below w.heap.size w W) (And.intro (Box.alloc (Box.newc rfl rfl) _) (And.intro (Box.newc rfl (by simp)) (by go_grown))) ?_
 intro w0 ⟨x_d,x_e,hB0⟩
 go_wp2_with (refine wpList_load_box9 rfl _ _ rfl x_d rfl Tryz.underlying62 rfl (size_id12 _ _) ?_)
 refine (SZ _ (HD.out.below hB0)).mono ?_
 rintro e w1 ⟨rfl,hb⟩
 have xe2:=x_e.below hb
 have ce:=xe2.c 0 _ rfl;have fe:=xe2.f 0 _ rfl;have le:=xe2.lt
 have hB1:=below_thru hB0 hb
 clear x_d x_e hb hB0
 go_wp2_with fail
 have xf:=xe2.set 0 (.int .i64 4)
 have hc6:=xf.c 0 _ rfl
 refine bodyPost_ret (v:=.int .i64 4) ?_ rfl ⟨ret_i12 HX.out,hB1.setCell (p:=⟨w.heap.size + 1,0,none⟩) (by simp) (.int .i64 4)⟩
 simp [results,Tryz.f45,go_sem,hc6]
theorem pchk_is {v:Value} {ts:List Tk} {cs:List Cmd} {q:Int} (w:World) (h1:IsD w v ts cs) (hl:ts.length + cs.length≤180) (hq:ChkD ts cs q):Calls Tryz.prog 45 #[v] w fun e w'=>e=.returned (.int .i64 q)∧Below w.heap.size w w':=by
 by_cases hm:ts.length + cs.length≤100
 · exact callsIn_wide.1 (pchk_x w h1 hq hm)
 · exact pchk_m w h1 (by omega) hq (by omega)
end Go.Proofs.YtnfejdfjlnpldaaGreatDoor
