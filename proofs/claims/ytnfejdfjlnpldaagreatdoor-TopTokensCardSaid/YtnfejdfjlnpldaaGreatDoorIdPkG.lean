import Derived.Test.YtnfejdfjlnpldaaGreatDoorIdPkE
import Derived.Test.YtnfejdfjlnpldaaGreatDoorGB1
import Derived.Test.YtnfejdfjlnpldaaGreatDoorGF2
import Derived.Test.YtnfejdfjlnpldaaGreatDoorGXR
set_option maxHeartbeats 6400000
set_option maxRecDepth 100000
namespace Go.Proofs.YtnfejdfjlnpldaaGreatDoor
open Go.RowKit
theorem put_c_of {ts us:List Tk} {cs ds:List Cmd} {c:Cmd} {q p:Int} {b:Bool} (h:PutC ts cs c us ds q) (hf:FndF ts cs (Frm.cmd c) b p):(p ≠ 0∧q=p∧us=[]∧ds=[])∨(p=0∧q=0∧b=true∧us=ts∧ds=cs)∨(p=0∧q=0∧b=false∧us=ts∧ds=cs ++ [c]):=by
 rcases h with ⟨hn,hq,rfl,rfl⟩ | ⟨hq,r,hx,hr⟩
 · rcases hf with ⟨_,hp,_⟩ | ⟨_,hp,_⟩ | ⟨hp,_⟩
   · exact Or.inl ⟨hq.uniq hp ▸ hn,hq.uniq hp,rfl,rfl⟩
   · exact absurd (hq.uniq hp) hn
   · exact absurd (hq.uniq hp) hn
 · have hk:=hq.zero_inv.2.2
   rcases hf with ⟨hn,hp,_⟩ | ⟨rfl,_,hno,_⟩ | ⟨_,hok,hf⟩
   · exact absurd (hp.uniq hq) hn
   · rcases hx with ⟨rfl,_,rfl⟩ | ⟨hg,_⟩
     · rcases hr with ⟨_,rfl,rfl⟩ | ⟨h,_⟩
       · exact Or.inl ⟨by decide,rfl,rfl,rfl⟩
       · cases h
     · exact absurd ((Frm.cmd_iff c).2 hg) hno
   · rcases hx with ⟨_,hg,_⟩ | ⟨_,hx⟩
     · exact absurd ((Frm.cmd_iff c).1 hok) hg
     · have hmem:Frm.cmd c ∈ mnt ts cs↔c ∈ cs:=cmd_mem
       have hco:c.Ok:=(Frm.cmd_iff c).1 hok
       have hdo:∀ d ∈ cs,d.Ok:=fun d hd=>(Frm.cmd_iff d).1 (hq.zero_inv.2.1 _ (cmd_mem.2 hd))
       have hall:(∀ u ∈ cs,u.bare ≠ c.bare)→∀ m ∈ mnt ts cs,m.key ≠ (Frm.cmd c).key:=fun h m hm e=>by
         rcases mem_mnt.1 hm with ⟨u,hu,rfl⟩ | ⟨d,hd,rfl⟩
         · exact key_tc u hco e
         · exact h d hd ((key_cc (hdo d hd) hco).1 e)
       rcases hx with ⟨rfl,⟨u,hu,e,hne⟩,rfl⟩ | ⟨rfl,hm,rfl⟩ | ⟨hno,hx⟩
       · have hu2:Frm.cmd u ∈ mnt ts cs:=cmd_mem.2 hu
         rcases hf with ⟨rfl,h1,_⟩ | ⟨rfl,_,_⟩ | ⟨h1,_⟩
         · exact absurd (cmd_inj12 (nodup_inj12 hk hu2 h1 ((key_cc (hdo u hu) hco).2 e))) hne
         · rcases hr with ⟨_,rfl,rfl⟩ | ⟨h,_⟩
           · exact Or.inl ⟨by decide,rfl,rfl,rfl⟩
           · cases h
         · exact absurd ((key_cc (hdo u hu) hco).2 e) (h1 _ hu2)
       · rcases hr with ⟨h,_⟩ | ⟨h,rfl⟩
         · cases h
         · cases h
           rcases hf with ⟨rfl,_,rfl⟩ | ⟨_,⟨m,h1,h2,h3⟩,_⟩ | ⟨h1,_⟩
           · exact Or.inr (Or.inl ⟨rfl,rfl,rfl,rfl,rfl⟩)
           · exact absurd (nodup_inj12 hk h1 (hmem.2 hm) h2) h3
           · exact absurd rfl (h1 _ (hmem.2 hm))
       · have ha:=hall hno
         rcases hf with ⟨_,h1,_⟩ | ⟨_,⟨m,h1,h2,_⟩,_⟩ | ⟨_,rfl,hs⟩
         · exact absurd rfl (ha _ h1)
         · exact absurd h2 (ha m h1)
         · rcases hx with ⟨rfl,h1,rfl⟩ | ⟨rfl,h1,rfl⟩
           · rcases hs with ⟨rfl,_⟩ | ⟨_,h2⟩
             · rcases hr with ⟨_,rfl,rfl⟩ | ⟨h,_⟩
               · exact Or.inl ⟨by decide,rfl,rfl,rfl⟩
               · cases h
             · omega
           · rcases hs with ⟨_,h2⟩ | ⟨rfl,_⟩
             · omega
             · rcases hr with ⟨h,_⟩ | ⟨h,rfl⟩
               · cases h
               · cases h
                 exact Or.inr (Or.inr ⟨rfl,rfl,rfl,rfl,rfl⟩)
set_option maxRecDepth 100000 in
set_option maxHeartbeats 6400000 in
theorem pcmd_a {v:Value} {ts:List Tk} {cs:List Cmd} (c:Cmd) (hl:ts.length + cs.length≤180) {b:Bool} {q:Int} (hf:FndF ts cs (Frm.cmd c) b q) (hn:q ≠ 0) (w:World) (h1:IsD w v ts cs):Calls Tryz.prog 32 #[v,.agg (ccell c).toArray] w (GivesDE [] [] q w):=by
 have FD:=fun (W:World) (u:Value) (h:IsD W u ts cs)=>pfnd_is (Frm.cmd c) hl hf W h;have OT:=fun W=>pofcmd_is c W;have CP:=fun (W:World) (u:Value) (h:IsD W u ts cs)=>pcop_is W h (by omega);have BI:=fun W=>build_i0 W;have SI:=Lib.hid size_i0;have OI:=Lib.hid one_i0
 have SV:=Lib.hid (size_cmd c);have SF:=Lib.hid (size_frm (Frm.cmd c));have HLL:=Lib.hid hl
 have d1:(q != 0)=true:=by rw [bne_iff_ne];exact hn
 clear hn
 have HD:=Lib.hid h1
 obtain ⟨v1,v2,rfl,g1,g2⟩:=id h1
 obtain ⟨a1,c1,rfl,hr1⟩:=id g1;obtain ⟨a2,c2,rfl,hr2⟩:=id g2
 have m1:=hr1.most;have r1:=hr1.room;have m2:=hr2.most;have r2:=hr2.room;have H1:=Lib.hid g1;have H2:=Lib.hid g2
 clear hr1 hr2 g1 g2 h1
 obtain ⟨F,hF⟩:∃ X,mcell (Frm.cmd c)=X:=⟨_,rfl⟩;rw [hF] at FD OT SF;clear hF
 obtain ⟨V,hV⟩:∃ X,(ccell c)=X:=⟨_,rfl⟩;rw [hV] at SV OT ⊢;clear hV hl hf
 go_enter Tryz.func32,Tryz.ntmps32
 go_upto_region 1 with fail
 refine F_gen (F:=fun W=>Code.wp _ _ _ _ W) (J:=fun W=>Box W (w.heap.size) ([.slice a1 ts.length c1,.slice a2 cs.length c2])∧Box W (w.heap.size + 1) (V)∧Box W (w.heap.size + 2) (id0)∧Below w.heap.size w W) (And.intro (Box.alloc (Box.alloc (Box.newc rfl rfl) _) _) (And.intro (Box.alloc (Box.newc rfl (by simp)) _) (And.intro (Box.newc rfl (by simp)) (by go_grown)))) ?_
 intro w0 ⟨e_d,e_c,e_r,hB0⟩
 have hs0:=hB0.size
 have x_d0:=e_d;clear e_d
 have x_c0:=e_c;clear e_c
 have x_r0:=e_r;clear e_r
 refine wp_region_held_drew (S:=fun W=>Box W (w.heap.size) ([.slice a1 ts.length c1,.slice a2 cs.length c2])∧Box W (w.heap.size + 1) (V)∧Box W (w.heap.size + 2) (id0)) (by kernel_rfl) (And.intro (x_d0).drew (And.intro (x_c0).drew (x_r0).drew)) (fun _=>?_)
 refine F_drew (F:=fun W=>wpAnyH _ _ _ _ _ _ _ _ W) ?_
 intro Wp0 hbp0
 clear hs0
 have x_d_p0:Box Wp0 (w.heap.size) ([.slice a1 ts.length c1,.slice a2 cs.length c2]):=Box.below x_d0 hbp0
 have x_c_p0:Box Wp0 (w.heap.size + 1) (V):=Box.below x_c0 hbp0
 have x_r_p0:Box Wp0 (w.heap.size + 2) (id0):=Box.below x_r0 hbp0
 have Bp0:=below_thru hB0 hbp0
 clear x_d0 x_c0 x_r0 hB0 hbp0
 refine takeH 0 9 (v:=.agg ([.slice a1 ts.length c1,.slice a2 cs.length c2]).toArray) rfl (by rfl) (by kernel_rfl) (by kernel_rfl) (by kernel_rfl) (fun _ _ _ h=>h) (yieldsIf_load_mid (by rfl) _ _ rfl _ _ rfl ([.slice a1 ts.length c1,.slice a2 cs.length c2]) _ (fun wq hq=>Box.range (hq.1)) Tryz.underlying62 rfl (size_id12 _ _)) ((And.intro x_d_p0 (And.intro x_c_p0 x_r_p0))) ?_
 try simp only [Act.put,qzA,qz0,qzS]
 refine takeH 1 10 (v:=.agg (V).toArray) rfl (by rfl) (by kernel_rfl) (by kernel_rfl) (by kernel_rfl) (fun _ _ _ h=>h) (yieldsIf_load_mid (by rfl) _ _ rfl _ _ rfl (V) _ (fun wq hq=>Box.range (hq.2.1)) Tryz.underlying35 rfl SV.out) ((And.intro x_d_p0 (And.intro x_c_p0 x_r_p0))) ?_
 try simp only [Act.put,qzA,qz0,qzS]
 refine wpAnyH_ready (rs:=[2]) (by kernel_rfl) (by simp) (AllReadyH.cons rfl (fun K hK=>?_) AllReadyH.nil)
 go_simp
 refine (OT _).mono ?_
 rintro e Wp1 ⟨rfl,hbp1⟩
 have x_d_p1:Box Wp1 (w.heap.size) ([.slice a1 ts.length c1,.slice a2 cs.length c2]):=Box.below x_d_p0 hbp1
 have x_c_p1:Box Wp1 (w.heap.size + 1) (V):=Box.below x_c_p0 hbp1
 have x_r_p1:Box Wp1 (w.heap.size + 2) (id0):=Box.below x_r_p0 hbp1
 have Bp1:=below_thru Bp0 hbp1
 clear x_d_p0 x_c_p0 x_r_p0 Bp0 hbp1
 refine hK.out _ _ (And.intro x_d_p1 (And.intro x_c_p1 x_r_p1)) (fun _=>?_);clear hK K
 refine wpAnyH_ready (rs:=[3]) (by kernel_rfl) (by simp) (AllReadyH.cons rfl (fun K hK=>?_) AllReadyH.nil)
 go_simp
 refine (FD _ _ (HD.out.below Bp1)).mono ?_
 rintro e Wp2 ⟨rfl,hbp2⟩
 have x_d_p2:Box Wp2 (w.heap.size) ([.slice a1 ts.length c1,.slice a2 cs.length c2]):=Box.below x_d_p1 hbp2
 have x_c_p2:Box Wp2 (w.heap.size + 1) (V):=Box.below x_c_p1 hbp2
 have x_r_p2:Box Wp2 (w.heap.size + 2) (id0):=Box.below x_r_p1 hbp2
 have Bp2:=below_thru Bp1 hbp2
 clear x_d_p1 x_c_p1 x_r_p1 Bp1 hbp2
 refine hK.out _ _ (And.intro x_d_p2 (And.intro x_c_p2 x_r_p2)) (fun _=>?_);clear hK K
 refine takeH 4 8 (v:=?vp4_3) rfl (by rfl) (by kernel_rfl) (by kernel_rfl) (by kernel_rfl) (fun _ _ _ h=>h) (Or.inl ⟨by rfl,?_⟩) ((And.intro x_d_p2 (And.intro x_c_p2 x_r_p2))) ?_
 rotate_left
 · intro wq hSq
   go_simp
   exact rfl
 try simp only [Act.put,qzA,qz0,qzS]
 refine takeH 5 13 (v:=?vp5_4) rfl (by rfl) (by kernel_rfl) (by kernel_rfl) (by kernel_rfl) (fun _ _ _ h=>h) (Or.inl ⟨by rfl,?_⟩) ((And.intro x_d_p2 (And.intro x_c_p2 x_r_p2))) ?_
 rotate_left
 · intro wq hSq
   go_simp
   exact rfl
 try simp only [Act.put,qzA,qz0,qzS]
 refine takeH 6 14 (v:=?vp6_5) rfl (by rfl) (by kernel_rfl) (by kernel_rfl) (by kernel_rfl) (fun _ _ _ h=>h) (Or.inl ⟨by rfl,?_⟩) ((And.intro x_d_p2 (And.intro x_c_p2 x_r_p2))) ?_
 rotate_left
 · intro wq hSq
   go_simp
   exact rfl
 try simp only [Act.put,qzA,qz0,qzS]
 refine takeH 7 6 (v:=?vp7_6) rfl (by rfl) (by kernel_rfl) (by kernel_rfl) (by kernel_rfl) (fun _ _ _ h=>h) (Or.inl ⟨by rfl,?_⟩) ((And.intro x_d_p2 (And.intro x_c_p2 x_r_p2))) ?_
 rotate_left
 · intro wq hSq
   go_simp
   exact rfl
 try simp only [Act.put,qzA,qz0,qzS]
 refine takeH 8 7 (v:=?vp8_7) rfl (by rfl) (by kernel_rfl) (by kernel_rfl) (by kernel_rfl) (fun _ _ _ h=>h) (Or.inl ⟨by rfl,?_⟩) ((And.intro x_d_p2 (And.intro x_c_p2 x_r_p2))) ?_
 rotate_left
 · intro wq hSq
   go_simp
   exact rfl
 try simp only [Act.put,qzA,qz0,qzS]
 refine wpAnyH_done (by kernel_rfl) ?_ _
 have hB1:=Bp2;have hs1:=hB1.size
 have x_d1:=x_d_p2
 have x_c1:=x_c_p2
 have x_r1:=x_r_p2
 clear Bp2 x_d_p2 x_c_p2 x_r_p2
 have lq:=(x_r1).lt
 go_wp2_with (first | (refine wpList_build9 rfl 62 _ rfl (us:=#[]) (by rfl) (BI _) ?_) | (refine wpList_store_box (cs:=id0) rfl _ _ _ rfl x_r1 rfl rfl SI.out rfl OI.out ?_;intro W99 hW99))
 exact bodyPost_ret (results_box2 Tryz.results32 hW99.box rfl rfl Tryz.underlying62 rfl SI.out) rfl ⟨_,_,rfl,ownR_none,ownR_none,hW99.below _ _ (by omega) hB1⟩
set_option maxRecDepth 100000 in
set_option maxHeartbeats 6400000 in
theorem pcmd_d {v:Value} {ts:List Tk} {cs:List Cmd} (c:Cmd) (hl:ts.length + cs.length≤180) (hf:FndF ts cs (Frm.cmd c) true 0) (w:World) (h1:IsD w v ts cs):Calls Tryz.prog 32 #[v,.agg (ccell c).toArray] w (GivesDE ts cs 0 w):=by
 have FD:=fun (W:World) (u:Value) (h:IsD W u ts cs)=>pfnd_is (Frm.cmd c) hl hf W h;have OT:=fun W=>pofcmd_is c W;have CP:=fun (W:World) (u:Value) (h:IsD W u ts cs)=>pcop_is W h (by omega);have BI:=fun W=>build_i0 W;have SI:=Lib.hid size_i0;have OI:=Lib.hid one_i0
 have SV:=Lib.hid (size_cmd c);have SF:=Lib.hid (size_frm (Frm.cmd c));have HLL:=Lib.hid hl
 have HD:=Lib.hid h1
 obtain ⟨v1,v2,rfl,g1,g2⟩:=id h1
 obtain ⟨a1,c1,rfl,hr1⟩:=id g1;obtain ⟨a2,c2,rfl,hr2⟩:=id g2
 have m1:=hr1.most;have r1:=hr1.room;have m2:=hr2.most;have r2:=hr2.room;have H1:=Lib.hid g1;have H2:=Lib.hid g2
 clear hr1 hr2 g1 g2 h1
 obtain ⟨F,hF⟩:∃ X,mcell (Frm.cmd c)=X:=⟨_,rfl⟩;rw [hF] at FD OT SF;clear hF
 obtain ⟨V,hV⟩:∃ X,(ccell c)=X:=⟨_,rfl⟩;rw [hV] at SV OT ⊢;clear hV hl hf
 go_enter Tryz.func32,Tryz.ntmps32
 go_upto_region 1 with fail
 refine F_gen (F:=fun W=>Code.wp _ _ _ _ W) (J:=fun W=>Box W (w.heap.size) ([.slice a1 ts.length c1,.slice a2 cs.length c2])∧Box W (w.heap.size + 1) (V)∧Box W (w.heap.size + 2) (id0)∧Below w.heap.size w W) (And.intro (Box.alloc (Box.alloc (Box.newc rfl rfl) _) _) (And.intro (Box.alloc (Box.newc rfl (by simp)) _) (And.intro (Box.newc rfl (by simp)) (by go_grown)))) ?_
 intro w0 ⟨e_d,e_c,e_r,hB0⟩
 have hs0:=hB0.size
 have x_d0:=e_d;clear e_d
 have x_c0:=e_c;clear e_c
 have x_r0:=e_r;clear e_r
 refine wp_region_held_drew (S:=fun W=>Box W (w.heap.size) ([.slice a1 ts.length c1,.slice a2 cs.length c2])∧Box W (w.heap.size + 1) (V)∧Box W (w.heap.size + 2) (id0)) (by kernel_rfl) (And.intro (x_d0).drew (And.intro (x_c0).drew (x_r0).drew)) (fun _=>?_)
 refine F_drew (F:=fun W=>wpAnyH _ _ _ _ _ _ _ _ W) ?_
 intro Wp0 hbp0
 clear hs0
 have x_d_p0:Box Wp0 (w.heap.size) ([.slice a1 ts.length c1,.slice a2 cs.length c2]):=Box.below x_d0 hbp0
 have x_c_p0:Box Wp0 (w.heap.size + 1) (V):=Box.below x_c0 hbp0
 have x_r_p0:Box Wp0 (w.heap.size + 2) (id0):=Box.below x_r0 hbp0
 have Bp0:=below_thru hB0 hbp0
 clear x_d0 x_c0 x_r0 hB0 hbp0
 refine takeH 0 9 (v:=.agg ([.slice a1 ts.length c1,.slice a2 cs.length c2]).toArray) rfl (by rfl) (by kernel_rfl) (by kernel_rfl) (by kernel_rfl) (fun _ _ _ h=>h) (yieldsIf_load_mid (by rfl) _ _ rfl _ _ rfl ([.slice a1 ts.length c1,.slice a2 cs.length c2]) _ (fun wq hq=>Box.range (hq.1)) Tryz.underlying62 rfl (size_id12 _ _)) ((And.intro x_d_p0 (And.intro x_c_p0 x_r_p0))) ?_
 try simp only [Act.put,qzA,qz0,qzS]
 refine takeH 1 10 (v:=.agg (V).toArray) rfl (by rfl) (by kernel_rfl) (by kernel_rfl) (by kernel_rfl) (fun _ _ _ h=>h) (yieldsIf_load_mid (by rfl) _ _ rfl _ _ rfl (V) _ (fun wq hq=>Box.range (hq.2.1)) Tryz.underlying35 rfl SV.out) ((And.intro x_d_p0 (And.intro x_c_p0 x_r_p0))) ?_
 try simp only [Act.put,qzA,qz0,qzS]
 refine wpAnyH_ready (rs:=[2]) (by kernel_rfl) (by simp) (AllReadyH.cons rfl (fun K hK=>?_) AllReadyH.nil)
 go_simp
 refine (OT _).mono ?_
 rintro e Wp1 ⟨rfl,hbp1⟩
 have x_d_p1:Box Wp1 (w.heap.size) ([.slice a1 ts.length c1,.slice a2 cs.length c2]):=Box.below x_d_p0 hbp1
 have x_c_p1:Box Wp1 (w.heap.size + 1) (V):=Box.below x_c_p0 hbp1
 have x_r_p1:Box Wp1 (w.heap.size + 2) (id0):=Box.below x_r_p0 hbp1
 have Bp1:=below_thru Bp0 hbp1
 clear x_d_p0 x_c_p0 x_r_p0 Bp0 hbp1
 refine hK.out _ _ (And.intro x_d_p1 (And.intro x_c_p1 x_r_p1)) (fun _=>?_);clear hK K
 refine wpAnyH_ready (rs:=[3]) (by kernel_rfl) (by simp) (AllReadyH.cons rfl (fun K hK=>?_) AllReadyH.nil)
 go_simp
 refine (FD _ _ (HD.out.below Bp1)).mono ?_
 rintro e Wp2 ⟨rfl,hbp2⟩
 have x_d_p2:Box Wp2 (w.heap.size) ([.slice a1 ts.length c1,.slice a2 cs.length c2]):=Box.below x_d_p1 hbp2
 have x_c_p2:Box Wp2 (w.heap.size + 1) (V):=Box.below x_c_p1 hbp2
 have x_r_p2:Box Wp2 (w.heap.size + 2) (id0):=Box.below x_r_p1 hbp2
 have Bp2:=below_thru Bp1 hbp2
 clear x_d_p1 x_c_p1 x_r_p1 Bp1 hbp2
 refine hK.out _ _ (And.intro x_d_p2 (And.intro x_c_p2 x_r_p2)) (fun _=>?_);clear hK K
 refine takeH 4 8 (v:=?vp4_3) rfl (by rfl) (by kernel_rfl) (by kernel_rfl) (by kernel_rfl) (fun _ _ _ h=>h) (Or.inl ⟨by rfl,?_⟩) ((And.intro x_d_p2 (And.intro x_c_p2 x_r_p2))) ?_
 rotate_left
 · intro wq hSq
   go_simp
   exact rfl
 try simp only [Act.put,qzA,qz0,qzS]
 refine takeH 5 13 (v:=?vp5_4) rfl (by rfl) (by kernel_rfl) (by kernel_rfl) (by kernel_rfl) (fun _ _ _ h=>h) (Or.inl ⟨by rfl,?_⟩) ((And.intro x_d_p2 (And.intro x_c_p2 x_r_p2))) ?_
 rotate_left
 · intro wq hSq
   go_simp
   exact rfl
 try simp only [Act.put,qzA,qz0,qzS]
 refine takeH 6 14 (v:=?vp6_5) rfl (by rfl) (by kernel_rfl) (by kernel_rfl) (by kernel_rfl) (fun _ _ _ h=>h) (Or.inl ⟨by rfl,?_⟩) ((And.intro x_d_p2 (And.intro x_c_p2 x_r_p2))) ?_
 rotate_left
 · intro wq hSq
   go_simp
   exact rfl
 try simp only [Act.put,qzA,qz0,qzS]
 refine takeH 7 6 (v:=?vp7_6) rfl (by rfl) (by kernel_rfl) (by kernel_rfl) (by kernel_rfl) (fun _ _ _ h=>h) (Or.inl ⟨by rfl,?_⟩) ((And.intro x_d_p2 (And.intro x_c_p2 x_r_p2))) ?_
 rotate_left
 · intro wq hSq
   go_simp
   exact rfl
 try simp only [Act.put,qzA,qz0,qzS]
 refine takeH 8 7 (v:=?vp8_7) rfl (by rfl) (by kernel_rfl) (by kernel_rfl) (by kernel_rfl) (fun _ _ _ h=>h) (Or.inl ⟨by rfl,?_⟩) ((And.intro x_d_p2 (And.intro x_c_p2 x_r_p2))) ?_
 rotate_left
 · intro wq hSq
   go_simp
   exact rfl
 try simp only [Act.put,qzA,qz0,qzS]
 refine wpAnyH_done (by kernel_rfl) ?_ _
 have hB1:=Bp2;have hs1:=hB1.size
 have x_d1:=x_d_p2
 have x_c1:=x_c_p2
 have x_r1:=x_r_p2
 clear Bp2 x_d_p2 x_c_p2 x_r_p2
 have lr:=(x_r1).lt
 go_wp2_with (refine wpList_load_box9 rfl _ _ rfl x_d1 rfl Tryz.underlying62 rfl (size_id12 _ _) ?_)
 refine (CP _ _ (HD.out.below hB1)).mono ?_
 rintro e w2 ⟨ta,tb,rfl,oa,ob,hb⟩
 have oa:=ownR_base oa (show w.heap.size + 3≤_ by omega);have ob:=ownR_base ob (show w.heap.size + 3≤_ by omega);clear lr
 obtain ⟨pa,na,rfl⟩:=own_slR oa;obtain ⟨pb,nb,rfl⟩:=own_slR ob
 have hB2:Below w.heap.size w w2:=below_thru hB1 hb
 have hs2:=hB2.size
 have x_d2:Box w2 (w.heap.size) ([.slice a1 ts.length c1,.slice a2 cs.length c2]):=Box.below x_d1 hb
 have x_c2:Box w2 (w.heap.size + 1) (V):=Box.below x_c1 hb
 have x_r2:Box w2 (w.heap.size + 2) (id0):=Box.below x_r1 hb
 clear hB1 hs1 x_d1 x_c1 x_r1
 clear hb
 have lr:=(x_r2).lt;have lt2:=(x_c2).lt;have ld:=(x_d2).lt
 go_upto_region 5 with (refine wpList_store_box (cs:=[.slice pa ts.length na,.slice pb cs.length nb]) rfl _ _ _ rfl x_d2 rfl rfl (size_id12 _ _) rfl (one_id12 _ _ _ _ _ _) ?_;intro w40 hW40)
 have x_c40:Box w40 (w.heap.size + 1) (V):=hW40.past _ _ (by omega) x_c2
 have x_r40:Box w40 (w.heap.size + 2) (id0):=hW40.past _ _ (by omega) x_r2
 have x_d40:Box w40 w.heap.size [.slice pa ts.length na,.slice pb cs.length nb]:=hW40.box;have hB40:=hW40.below _ _ (Nat.le_refl _) hB2;have hs40:=hB40.size
 have O_ra40:=Lib.hid (ownR_stored hW40 oa (by omega));have O_rb40:=Lib.hid (ownR_stored hW40 ob (by omega))
 clear oa ob hW40 lr lt2 ld x_d2 x_c2 x_r2 hB2 hs2
 have lq:=(x_r40).lt
 go_wp2_with (first | (refine wpList_load_box9 rfl _ _ rfl x_d40 rfl Tryz.underlying62 rfl (size_id12 _ _) ?_) | (refine wpList_store_box (cs:=[.slice pa ts.length na,.slice pb cs.length nb]) rfl _ _ _ rfl x_r40 rfl rfl (size_id12 _ _) rfl (one_id12 _ _ _ _ _ _) ?_;intro W99 hW99))
 exact bodyPost_ret (results_box2 Tryz.results32 hW99.box rfl rfl Tryz.underlying62 rfl (size_id12 _ _)) rfl ⟨_,_,rfl,ownR_base (ownR_stored hW99 O_ra40.out (by omega)) (by omega),ownR_base (ownR_stored hW99 O_rb40.out (by omega)) (by omega),hW99.below _ _ (by omega) hB40⟩
set_option maxRecDepth 100000 in
set_option maxHeartbeats 6400000 in
theorem pcmd_e {v:Value} {ts:List Tk} {cs:List Cmd} (c:Cmd) (hl:ts.length + cs.length≤180) (hf:FndF ts cs (Frm.cmd c) false 0) (w:World) (h1:IsD w v ts cs):Calls Tryz.prog 32 #[v,.agg (ccell c).toArray] w (GivesDE ts (cs ++ [c]) 0 w):=by
 have FD:=fun (W:World) (u:Value) (h:IsD W u ts cs)=>pfnd_is (Frm.cmd c) hl hf W h;have OT:=fun W=>pofcmd_is c W;have CP:=fun (W:World) (u:Value) (h:IsD W u ts cs)=>pcop_is W h (by omega);have BI:=fun W=>build_i0 W;have SI:=Lib.hid size_i0;have OI:=Lib.hid one_i0
 have SV:=Lib.hid (size_cmd c);have SF:=Lib.hid (size_frm (Frm.cmd c));have HLL:=Lib.hid hl
 obtain ⟨ti,hin,hz0,hz1,hz2⟩:=info_parts info_cm12
 have HB:=fun W=>run_bsliceN (P:=Tryz.prog) (n:=1) W 60 35 ti _ 47 Tryz.underlying60 hin hz0 hz1 rfl [(ccell c)] (by simp [ccell_len c]) (by decide) (by simp) #[(0,.agg (ccell c).toArray)] rfl rfl (by decide)
 rw [show [(ccell c)].flatten=(ccell c) by simp] at HB;replace HB:=Lib.hid HB
 have EV:Hid ((ccell c)=flatR LC [c]):=Lib.hid (flatR_one LC c).symm
 have HD:=Lib.hid h1
 obtain ⟨v1,v2,rfl,g1,g2⟩:=id h1
 obtain ⟨a1,c1,rfl,hr1⟩:=id g1;obtain ⟨a2,c2,rfl,hr2⟩:=id g2
 have m1:=hr1.most;have r1:=hr1.room;have m2:=hr2.most;have r2:=hr2.room;have H1:=Lib.hid g1;have H2:=Lib.hid g2
 clear hr1 hr2 g1 g2 h1
 obtain ⟨F,hF⟩:∃ X,mcell (Frm.cmd c)=X:=⟨_,rfl⟩;rw [hF] at FD OT SF;clear hF
 obtain ⟨V,hV⟩:∃ X,(ccell c)=X:=⟨_,rfl⟩;rw [hV] at SV OT HB EV ⊢;clear hV hl hf
 go_enter Tryz.func32,Tryz.ntmps32
 go_upto_region 1 with fail
 refine F_gen (F:=fun W=>Code.wp _ _ _ _ W) (J:=fun W=>Box W (w.heap.size) ([.slice a1 ts.length c1,.slice a2 cs.length c2])∧Box W (w.heap.size + 1) (V)∧Box W (w.heap.size + 2) (id0)∧Below w.heap.size w W) (And.intro (Box.alloc (Box.alloc (Box.newc rfl rfl) _) _) (And.intro (Box.alloc (Box.newc rfl (by simp)) _) (And.intro (Box.newc rfl (by simp)) (by go_grown)))) ?_
 intro w0 ⟨e_d,e_c,e_r,hB0⟩
 have hs0:=hB0.size
 have x_d0:=e_d;clear e_d
 have x_c0:=e_c;clear e_c
 have x_r0:=e_r;clear e_r
 refine wp_region_held_drew (S:=fun W=>Box W (w.heap.size) ([.slice a1 ts.length c1,.slice a2 cs.length c2])∧Box W (w.heap.size + 1) (V)∧Box W (w.heap.size + 2) (id0)) (by kernel_rfl) (And.intro (x_d0).drew (And.intro (x_c0).drew (x_r0).drew)) (fun _=>?_)
 refine F_drew (F:=fun W=>wpAnyH _ _ _ _ _ _ _ _ W) ?_
 intro Wp0 hbp0
 clear hs0
 have x_d_p0:Box Wp0 (w.heap.size) ([.slice a1 ts.length c1,.slice a2 cs.length c2]):=Box.below x_d0 hbp0
 have x_c_p0:Box Wp0 (w.heap.size + 1) (V):=Box.below x_c0 hbp0
 have x_r_p0:Box Wp0 (w.heap.size + 2) (id0):=Box.below x_r0 hbp0
 have Bp0:=below_thru hB0 hbp0
 clear x_d0 x_c0 x_r0 hB0 hbp0
 refine takeH 0 9 (v:=.agg ([.slice a1 ts.length c1,.slice a2 cs.length c2]).toArray) rfl (by rfl) (by kernel_rfl) (by kernel_rfl) (by kernel_rfl) (fun _ _ _ h=>h) (yieldsIf_load_mid (by rfl) _ _ rfl _ _ rfl ([.slice a1 ts.length c1,.slice a2 cs.length c2]) _ (fun wq hq=>Box.range (hq.1)) Tryz.underlying62 rfl (size_id12 _ _)) ((And.intro x_d_p0 (And.intro x_c_p0 x_r_p0))) ?_
 try simp only [Act.put,qzA,qz0,qzS]
 refine takeH 1 10 (v:=.agg (V).toArray) rfl (by rfl) (by kernel_rfl) (by kernel_rfl) (by kernel_rfl) (fun _ _ _ h=>h) (yieldsIf_load_mid (by rfl) _ _ rfl _ _ rfl (V) _ (fun wq hq=>Box.range (hq.2.1)) Tryz.underlying35 rfl SV.out) ((And.intro x_d_p0 (And.intro x_c_p0 x_r_p0))) ?_
 try simp only [Act.put,qzA,qz0,qzS]
 refine wpAnyH_ready (rs:=[2]) (by kernel_rfl) (by simp) (AllReadyH.cons rfl (fun K hK=>?_) AllReadyH.nil)
 go_simp
 refine (OT _).mono ?_
 rintro e Wp1 ⟨rfl,hbp1⟩
 have x_d_p1:Box Wp1 (w.heap.size) ([.slice a1 ts.length c1,.slice a2 cs.length c2]):=Box.below x_d_p0 hbp1
 have x_c_p1:Box Wp1 (w.heap.size + 1) (V):=Box.below x_c_p0 hbp1
 have x_r_p1:Box Wp1 (w.heap.size + 2) (id0):=Box.below x_r_p0 hbp1
 have Bp1:=below_thru Bp0 hbp1
 clear x_d_p0 x_c_p0 x_r_p0 Bp0 hbp1
 refine hK.out _ _ (And.intro x_d_p1 (And.intro x_c_p1 x_r_p1)) (fun _=>?_);clear hK K
 refine wpAnyH_ready (rs:=[3]) (by kernel_rfl) (by simp) (AllReadyH.cons rfl (fun K hK=>?_) AllReadyH.nil)
 go_simp
 refine (FD _ _ (HD.out.below Bp1)).mono ?_
 rintro e Wp2 ⟨rfl,hbp2⟩
 have x_d_p2:Box Wp2 (w.heap.size) ([.slice a1 ts.length c1,.slice a2 cs.length c2]):=Box.below x_d_p1 hbp2
 have x_c_p2:Box Wp2 (w.heap.size + 1) (V):=Box.below x_c_p1 hbp2
 have x_r_p2:Box Wp2 (w.heap.size + 2) (id0):=Box.below x_r_p1 hbp2
 have Bp2:=below_thru Bp1 hbp2
 clear x_d_p1 x_c_p1 x_r_p1 Bp1 hbp2
 refine hK.out _ _ (And.intro x_d_p2 (And.intro x_c_p2 x_r_p2)) (fun _=>?_);clear hK K
 refine takeH 4 8 (v:=?vp4_3) rfl (by rfl) (by kernel_rfl) (by kernel_rfl) (by kernel_rfl) (fun _ _ _ h=>h) (Or.inl ⟨by rfl,?_⟩) ((And.intro x_d_p2 (And.intro x_c_p2 x_r_p2))) ?_
 rotate_left
 · intro wq hSq
   go_simp
   exact rfl
 try simp only [Act.put,qzA,qz0,qzS]
 refine takeH 5 13 (v:=?vp5_4) rfl (by rfl) (by kernel_rfl) (by kernel_rfl) (by kernel_rfl) (fun _ _ _ h=>h) (Or.inl ⟨by rfl,?_⟩) ((And.intro x_d_p2 (And.intro x_c_p2 x_r_p2))) ?_
 rotate_left
 · intro wq hSq
   go_simp
   exact rfl
 try simp only [Act.put,qzA,qz0,qzS]
 refine takeH 6 14 (v:=?vp6_5) rfl (by rfl) (by kernel_rfl) (by kernel_rfl) (by kernel_rfl) (fun _ _ _ h=>h) (Or.inl ⟨by rfl,?_⟩) ((And.intro x_d_p2 (And.intro x_c_p2 x_r_p2))) ?_
 rotate_left
 · intro wq hSq
   go_simp
   exact rfl
 try simp only [Act.put,qzA,qz0,qzS]
 refine takeH 7 6 (v:=?vp7_6) rfl (by rfl) (by kernel_rfl) (by kernel_rfl) (by kernel_rfl) (fun _ _ _ h=>h) (Or.inl ⟨by rfl,?_⟩) ((And.intro x_d_p2 (And.intro x_c_p2 x_r_p2))) ?_
 rotate_left
 · intro wq hSq
   go_simp
   exact rfl
 try simp only [Act.put,qzA,qz0,qzS]
 refine takeH 8 7 (v:=?vp8_7) rfl (by rfl) (by kernel_rfl) (by kernel_rfl) (by kernel_rfl) (fun _ _ _ h=>h) (Or.inl ⟨by rfl,?_⟩) ((And.intro x_d_p2 (And.intro x_c_p2 x_r_p2))) ?_
 rotate_left
 · intro wq hSq
   go_simp
   exact rfl
 try simp only [Act.put,qzA,qz0,qzS]
 refine wpAnyH_done (by kernel_rfl) ?_ _
 have hB1:=Bp2;have hs1:=hB1.size
 have x_d1:=x_d_p2
 have x_c1:=x_c_p2
 have x_r1:=x_r_p2
 clear Bp2 x_d_p2 x_c_p2 x_r_p2
 have lr:=(x_r1).lt
 go_wp2_with (refine wpList_load_box9 rfl _ _ rfl x_d1 rfl Tryz.underlying62 rfl (size_id12 _ _) ?_)
 refine (CP _ _ (HD.out.below hB1)).mono ?_
 rintro e w2 ⟨ta,tb,rfl,oa,ob,hb⟩
 have oa:=ownR_base oa (show w.heap.size + 3≤_ by omega);have ob:=ownR_base ob (show w.heap.size + 3≤_ by omega);clear lr
 obtain ⟨pa,na,rfl⟩:=own_slR oa;obtain ⟨pb,nb,rfl⟩:=own_slR ob
 have hB2:Below w.heap.size w w2:=below_thru hB1 hb
 have hs2:=hB2.size
 have x_d2:Box w2 (w.heap.size) ([.slice a1 ts.length c1,.slice a2 cs.length c2]):=Box.below x_d1 hb
 have x_c2:Box w2 (w.heap.size + 1) (V):=Box.below x_c1 hb
 have x_r2:Box w2 (w.heap.size + 2) (id0):=Box.below x_r1 hb
 clear hB1 hs1 x_d1 x_c1 x_r1
 clear hb
 have lr:=(x_r2).lt;have lt2:=(x_c2).lt;have ld:=(x_d2).lt
 go_upto_region 5 with (refine wpList_store_box (cs:=[.slice pa ts.length na,.slice pb cs.length nb]) rfl _ _ _ rfl x_d2 rfl rfl (size_id12 _ _) rfl (one_id12 _ _ _ _ _ _) ?_;intro w40 hW40)
 have x_c40:Box w40 (w.heap.size + 1) (V):=hW40.past _ _ (by omega) x_c2
 have x_r40:Box w40 (w.heap.size + 2) (id0):=hW40.past _ _ (by omega) x_r2
 have x_d40:Box w40 w.heap.size [.slice pa ts.length na,.slice pb cs.length nb]:=hW40.box;have hB40:=hW40.below _ _ (Nat.le_refl _) hB2;have hs40:=hB40.size
 have O_ra40:=Lib.hid (ownR_stored hW40 oa (by omega));have O_rb40:=Lib.hid (ownR_stored hW40 ob (by omega))
 clear oa ob hW40 lr lt2 ld x_d2 x_c2 x_r2 hB2 hs2
 have cc:=(x_d40).c 1 _ rfl
 have zc:=(x_d40).lt
 have lz_d:=(x_d40).lt
 have lz_c:=(x_c40).lt
 have lz_r:=(x_r40).lt
 have HIR:IsR LC (w40.alloc (.cells V.toArray 35)) (.slice (some ⟨w40.heap.size,0,none⟩) 1 1) [c]:=IsR.ofBox (Box.newc rfl rfl) EV.out rfl (by decide)
 have OM:(w40.alloc (.cells V.toArray 35)).ownsRow (w.heap.size + 3) 35 47 (.slice pb cs.length nb) (cs.length) (flatR LC cs):=ownR_below O_rb40.out ((Below.refl _ _).alloc (Nat.le_refl _) _)
 have OX:(w40.alloc (.cells V.toArray 35)).ownsRow (w.heap.size + 3) 27 36 (.slice pa ts.length na) (ts.length) (flatR LT ts):=ownR_below O_ra40.out ((Below.refl _ _).alloc (Nat.le_refl _) _)
 have XO:=Box.alloc x_d40 (.cells V.toArray 35)
 have zb:w.heap.size + 3≤(w40.alloc (.cells V.toArray 35)).heap.size:=by simp;omega
 go_upto_region 7 with (first | (refine wpList_load_box9 rfl _ _ rfl x_c40 rfl Tryz.underlying35 rfl SV.out ?_) | (refine wpList_bsliceN rfl 60 1 _ rfl (us:=#[(0,.agg V.toArray)]) (by rfl) (HB.out _) ?_) | (at_builtin;refine wpList_append_rows rfl LC _ _ 60 rfl (w.heap.size + 3) 35 ti (.agg (ccell Cmd.zero).toArray) 47 136 rfl Tryz.underlying60 hin hz0 hz1 hz2 rfl _ cs.length _ rfl OM _ [c] rfl HIR (by have:=HLL.out;unfold maxLen;simp;omega) (by have:=HLL.out;simp;omega) zb ?_;intro v41 w41 own4 gr4;obtain ⟨p4,n4,rfl⟩:=own_slR own4;have hKB:=(Below.refl (w.heap.size + 3) _).grown gr4 zb (ownR_block OM);have XP:=Box.keep12 XO hKB (by omega)) | (refine wpList_store_cell (k:=1) (ws:=[.slice pa ts.length na,.slice p4 (cs.length + 1) n4]) (v:=.slice p4 (cs.length + 1) n4) rfl _ _ _ rfl XP rfl rfl rfl rfl size_sC (show 1 < 2 by decide) rfl ?_;intro w50 hS5))
 have x_c50:Box w50 (w.heap.size + 1) (V):=hS5.past _ _ (by omega) (Box.keep12 (x_c40.alloc _) hKB (by omega))
 have x_r50:Box w50 (w.heap.size + 2) (id0):=hS5.past _ _ (by omega) (Box.keep12 (x_r40.alloc _) hKB (by omega))
 have x_d50:Box w50 w.heap.size [.slice pa ts.length na,.slice p4 (cs.length + 1) n4]:=hS5.box
 have hB50:Below w.heap.size w w50:=hS5.below _ _ (by omega) ((hB40.alloc hs40 _).trans (hKB.mono (by omega)));have hs50:=hB50.size
 have O_m50:=Lib.hid (ownR_stored hS5 own4 (by omega));have O_x50:=Lib.hid (ownR_stored hS5 (ownR_apart OX OM (by decide) gr4) (by omega))
 rw [show flatR LC cs ++ flatR LC [c]=flatR LC (cs ++ [c]) from (flatR_app LC _ _).symm] at O_m50
 have hlen:(cs ++ [c]).length=cs.length + 1:=by simp
 clear hS5 XP own4 gr4 hKB zb XO OX OM HIR O_ra40 O_rb40 x_d40 x_c40 x_r40 hB40 hs40 lz_d lz_c lz_r cc zc
 have lq:=(x_r50).lt
 go_wp2_with (first | (refine wpList_load_box9 rfl _ _ rfl x_d50 rfl Tryz.underlying62 rfl (size_id12 _ _) ?_) | (refine wpList_store_box (cs:=[.slice pa ts.length na,.slice p4 (cs.length + 1) n4]) rfl _ _ _ rfl x_r50 rfl rfl (size_id12 _ _) rfl (one_id12 _ _ _ _ _ _) ?_;intro W99 hW99))
 exact bodyPost_ret (results_box2 Tryz.results32 hW99.box rfl rfl Tryz.underlying62 rfl (size_id12 _ _)) rfl ⟨_,_,rfl,ownR_base (ownR_stored hW99 O_x50.out (by omega)) (by omega),ownR_base (ownR_stored hW99 (ownR_len O_m50.out hlen.symm) (by omega)) (by omega),hW99.below _ _ (by omega) hB50⟩
theorem pcmd_is {v:Value} {ts:List Tk} {cs:List Cmd} (c:Cmd) (hl:ts.length + cs.length≤180) {us:List Tk} {ds:List Cmd} {q:Int} (h:PutC ts cs c us ds q) (w:World) (h1:IsD w v ts cs):Calls Tryz.prog 32 #[v,.agg (ccell c).toArray] w (GivesDE us ds q w):=by
 obtain ⟨b,p,hf⟩:=FndF.ex ts cs (Frm.cmd c)
 rcases put_c_of h hf with ⟨hn,rfl,rfl,rfl⟩ | ⟨rfl,rfl,rfl,rfl,rfl⟩ | ⟨rfl,rfl,rfl,rfl,rfl⟩
 · exact pcmd_a c hl hf hn w h1
 · exact pcmd_d c hl hf w h1
 · exact pcmd_e c hl hf w h1
end Go.Proofs.YtnfejdfjlnpldaaGreatDoor
