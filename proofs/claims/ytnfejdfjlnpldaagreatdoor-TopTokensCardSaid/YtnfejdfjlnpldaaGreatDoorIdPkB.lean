import Derived.Test.YtnfejdfjlnpldaaGreatDoorIdPkA
import Derived.Test.YtnfejdfjlnpldaaGreatDoorGT1
import Derived.Test.YtnfejdfjlnpldaaGreatDoorGX3
import Derived.Test.YtnfejdfjlnpldaaGreatDoorGX2
set_option maxHeartbeats 6400000
set_option maxRecDepth 100000
namespace Go.Proofs.YtnfejdfjlnpldaaGreatDoor
open Go.RowKit
theorem conv_str {W:World} {v:Value} {xs:List Int} (h:IsL W .u8 v xs):(convert 43 9 v).run Tryz.prog W=.ok (.string (str xs)) W:=by
 obtain ⟨a,c,rfl,hi,hn⟩:=h
 rw [run_convert_bytes_string W _ _ _ a xs.length c Tryz.underlying43 Tryz.underlying5 Tryz.underlying9]
 cases a with
 | none =>
   have hc:=hn rfl
   have:=hi.room
   have hx:xs=[]:=List.eq_nil_of_length_eq_zero (by omega)
   subst hx
   simp [Conv.bytesToString,Sem.run_pure]
   rfl
 | some ad =>
   refine run_bytesToString W ad xs.length c xs ?_
   have hl:=run_loadCells_list (P:=Tryz.prog) W ad (xs.map (Value.int .u8)) (fun j v hv=>by
     rw [List.getElem?_map] at hv
     cases hx:xs[j]? with
     | none=>rw [hx] at hv;cases hv
     | some x =>
       rw [hx] at hv
       cases hv
       have hj:=(List.getElem?_eq_some_iff.1 hx).1
       obtain ⟨b,off,e,hc⟩:=hi.cells (by omega)
       cases e
       rw [Addr.add_mid]
       rw [hc j hj]
       have:nth xs j=x:=by unfold nth;rw [List.getD_eq_getElem?_getD,hx];rfl
       rw [this])
   rw [List.length_map] at hl
   exact hl
set_option maxRecDepth 100000 in
set_option maxHeartbeats 6400000 in
theorem pmsg_t (f:Frm) (h0:f.kd=1) (w:World):Calls Tryz.prog 69 #[.agg (mcell f).toArray] w fun e w'=>e=.returned (.string (str f.r.k.msg))∧Below w.heap.size w w':=by
 have SV:=Lib.hid (size_frm f);have ST:=Lib.hid (size_tok f.r.k f.r.hg);have DT:=Lib.hid (mcell_t f)
 have v0:(mcell f)[0]? = some (.int .u8 1):=by rw [← h0];rfl
 have BY:=fun W=>bytes_is f.r.k (g:=f.r.g) W
 have SM:=Lib.hid (size_msg f.r.k.msg_len);have LM:=Lib.hid (len_msg f.r.k.msg_len);have OM:=Lib.hid (oneCell_ints (k:=.u8) f.r.k.msg);have HM:=Lib.hid f.r.k.msg_len
 obtain ⟨M,hM⟩:∃ X,f.r.k.msg=X:=⟨_,rfl⟩
 rw [hM] at BY SM LM OM HM ⊢
 clear hM
 obtain ⟨R,hR⟩:∃ X,(.int .u16 f.r.ep :: .int .u32 f.r.co :: ccell f.c)=X:=⟨_,rfl⟩
 rw [hR] at DT
 clear hR
 obtain ⟨TV,hTV⟩:∃ X,tcell f.r.k f.r.g=X:=⟨_,rfl⟩
 rw [hTV] at BY ST DT
 clear hTV
 obtain ⟨V,hV⟩:∃ X,mcell f=X:=⟨_,rfl⟩
 rw [hV] at SV DT v0 ⊢
 clear hV
 clear h0
 go_enter Tryz.func69,Tryz.ntmps69
 go_upto_region 1 with fail
 refine F_gen (F:=fun W=>Code.wp _ _ _ _ W) (J:=fun W=>Box W (w.heap.size) (V)∧Below w.heap.size w W) (And.intro (Box.newc rfl rfl) (by go_grown)) ?_
 intro w0 ⟨e_f,hB0⟩
 have hs0:=hB0.size
 have x_f0:=e_f;clear e_f
 have ca:=(x_f0).c 0 _ v0
 have za:=(x_f0).lt
 go_wp2_with (refine wpList_load_rangew rfl _ _ rfl (Box.rangeMid x_f0 1 (TV) (R) DT.out) rfl Tryz.underlying27 rfl ST.out ?_)
 refine (BY _).mono ?_
 rintro e w1 ⟨rfl,hb⟩
 clear ca za
 have hB1:Below w.heap.size w w1:=below_thru hB0 hb
 have hs1:=hB1.size
 have x_f1:Box w1 (w.heap.size) (V):=Box.below x_f0 hb
 clear hB0 hs0 x_f0
 clear hb
 have d_b_f:=(x_f1).lt
 have d_b_0:=hs1
 go_upto_region 3 with (refine wpList_store_box (cs:=M.map (Value.int .u8)) rfl _ _ _ rfl (Box.newc (l:=zero20) rfl rfl) rfl rfl SM.out LM.out OM.out ?_;intro W1_0 hW1_0)
 have hN:Below w1.heap.size w1 W1_0:=(hW1_0.below _ _ (by omega) ((Below.refl _ w1).alloc (Nat.le_refl _) _))
 have x_b2:Box W1_0 (w1.heap.size) (M.map (Value.int .u8)):=hW1_0.box
 have hB2:Below w.heap.size w W1_0:=below_thru hB1 hN
 have hs2:=hB2.size
 have x_f2:Box W1_0 (w.heap.size) (V):=Box.below x_f1 hN
 clear hB1 hs1 x_f1
 clear hN hW1_0
 have CV:=conv_str (IsL.boxed 20 HM.out x_b2 (by decide))
 have lb:=(x_b2).lt
 go_wp2_with fail
 go_returns
 exact ⟨rfl,hB2⟩
set_option maxRecDepth 100000 in
set_option maxHeartbeats 6400000 in
theorem pmsg_c (f:Frm) (h0:f.kd=2) (hc:f.c.Ok) (w:World):Calls Tryz.prog 69 #[.agg (mcell f).toArray] w fun e w'=>e=.returned (.string (str f.c.msg))∧Below w.heap.size w w':=by
 have SV:=Lib.hid (size_frm f);have SC:=Lib.hid (size_cmd f.c);have DC:=Lib.hid (mcell_c f)
 have v0:(mcell f)[0]? = some (.int .u8 2):=by rw [← h0];rfl
 have BF:=fun W=>bef_t f.c hc W
 obtain ⟨M,hM⟩:∃ X,f.c.msg=X:=⟨_,rfl⟩
 rw [hM] at BF ⊢
 clear hM
 obtain ⟨C,hC⟩:∃ X,ccell f.c=X:=⟨_,rfl⟩
 rw [hC] at BF SC DC
 clear hC
 obtain ⟨V,hV⟩:∃ X,mcell f=X:=⟨_,rfl⟩
 rw [hV] at SV DC v0 ⊢
 clear hV
 clear h0 hc
 go_enter Tryz.func69,Tryz.ntmps69
 go_upto_region 1 with fail
 refine F_gen (F:=fun W=>Code.wp _ _ _ _ W) (J:=fun W=>Box W (w.heap.size) (V)∧Below w.heap.size w W) (And.intro (Box.newc rfl rfl) (by go_grown)) ?_
 intro w0 ⟨e_f,hB0⟩
 have hs0:=hB0.size
 have x_f0:=e_f;clear e_f
 have ca:=(x_f0).c 0 _ v0
 have za:=(x_f0).lt
 go_wp2_with (refine wpList_load_rangew rfl _ _ rfl (Box.rangeMid x_f0 39 (C) ([]) DC.out) rfl Tryz.underlying35 rfl SC.out ?_)
 refine (BF _).mono ?_
 rintro e w1 ⟨v,rfl,hv,hb⟩
 obtain ⟨am,cm,rfl,hm2⟩:=id hv
 clear hm2 ca za
 have hB1:Below w.heap.size w w1:=below_thru hB0 hb
 have hs1:=hB1.size
 have x_f1:Box w1 (w.heap.size) (V):=Box.below x_f0 hb
 clear hB0 hs0 x_f0
 clear hb
 have CV:=conv_str hv;clear hv
 go_wp2_with fail
 go_returns
 exact ⟨rfl,hB1⟩
theorem pmsg_is (f:Frm) (h:f.Ok) (w:World):Calls Tryz.prog 69 #[.agg (mcell f).toArray] w fun e w'=>e=.returned (.string (str f.key))∧Below w.heap.size w w':=by
 rcases h with ⟨h1,_,_⟩ | ⟨h1,_,h3⟩
 · have e:f.key=f.r.k.msg:=by unfold Frm.key;rw [if_pos h1]
   rw [e]
   exact pmsg_t f h1 w
 · have e:f.key=f.c.msg:=by unfold Frm.key;rw [if_neg (by omega)]
   rw [e]
   exact pmsg_c f h1 h3 w
theorem pclt_neq (W:World):(binOp .eql 59 (.slice none 0 0) (.slice none 0 0)).run Tryz.prog W=.ok (.bool true) W:=by kernel_rfl
theorem pclt_seq (ad:Addr) (n c:Nat) (W:World):(binOp .eql 59 (.slice (some ad) n c) (.slice none 0 0)).run Tryz.prog W=.ok (.bool false) W:=by kernel_rfl
set_option maxRecDepth 100000 in
set_option maxHeartbeats 6400000 in
theorem pclt_n {xs:List Tk} (hl:xs.length≤200) (w:World) (h1:IsR LT w (.slice none 0 0) xs):Calls Tryz.prog 71 #[.slice none 0 0] w fun e w'=>∃ a,e=.returned a∧w'.ownsRow w.heap.size 27 36 a xs.length (flatR LT xs)∧Below w.heap.size w w':=by
 have e1:xs=[]:=List.eq_nil_of_length_eq_zero h1.room.1.symm;subst e1;clear h1 hl
 have hB0:=Below.refl w.heap.size w;have hq:=pclt_neq
 go_enter Tryz.func71,Tryz.ntmps71
 go_wp2_with fail
 go_returns
 exact ⟨_,rfl,ownR_none,hB0⟩
set_option maxRecDepth 100000 in
set_option maxHeartbeats 6400000 in
theorem pclt_s {ad:Addr} {c:Nat} {xs:List Tk} (hl:xs.length≤200) (w:World) (h1:IsR LT w (.slice (some ad) xs.length c) xs):Calls Tryz.prog 71 #[.slice (some ad) xs.length c] w fun e w'=>∃ a,e=.returned a∧w'.ownsRow w.heap.size 27 36 a xs.length (flatR LT xs)∧Below w.heap.size w w':=by
 obtain ⟨ti,hin,hz0,hz1,hz2⟩:=info_parts info_tk12
 have hq:=pclt_seq ad xs.length c
 have H1:=Lib.hid h1;clear h1
 have HL:=Lib.hid hl;clear hl
 have LE:(w.alloc (.cells #[] 27)).ownsRow w.heap.size 27 36 (.slice (some ⟨w.heap.size,0,none⟩) 0 0) 0 []:=ownR_built (L:=LT) (c:=#[]) (n:=0) (m:=0) [] rfl rfl rfl rfl rfl (by decide)
 have XS:IsR LT (w.alloc (.cells #[] 27)) (.slice (some ad) xs.length c) xs:=H1.out.alloc _
 skip
 go_enter Tryz.func71,Tryz.ntmps71
 go_wp2_with (at_builtin;refine wpList_append_rows rfl LT _ _ 59 rfl w.heap.size 27 ti (.agg zT12.toArray) 36 56 rfl Tryz.underlying59 hin hz0 hz1 hz2 rfl _ 0 _ rfl LE _ xs rfl XS (by have:=HL.out;unfold maxLen;omega) (by have:=HL.out;omega) (by simp) ?_;intro v40 w40 own4 gr4)
 go_returns
 refine ⟨_,rfl,?_,?_⟩
 · have:=own4
   rw [Nat.zero_add,List.nil_append] at this
   exact this
 · exact ((Below.refl _ w).alloc (Nat.le_refl _) _).grown gr4 (by simp) (ownR_block LE)
theorem pclt_is {v:Value} {xs:List Tk} (hl:xs.length≤200) (w:World) (h1:IsR LT w v xs):Calls Tryz.prog 71 #[v] w fun e w'=>∃ a,e=.returned a∧w'.ownsRow w.heap.size 27 36 a xs.length (flatR LT xs)∧Below w.heap.size w w':=by
 obtain ⟨a,c,rfl,hr⟩:=id h1
 cases a with
 | none =>
   have hc:=hr.nil rfl
   have:=hr.room
   have e:xs=[]:=List.eq_nil_of_length_eq_zero (by omega)
   subst e
   subst hc
   exact pclt_n hl w h1
 | some ad=>exact pclt_s hl w h1
theorem pclc_neq (W:World):(binOp .eql 60 (.slice none 0 0) (.slice none 0 0)).run Tryz.prog W=.ok (.bool true) W:=by kernel_rfl
theorem pclc_seq (ad:Addr) (n c:Nat) (W:World):(binOp .eql 60 (.slice (some ad) n c) (.slice none 0 0)).run Tryz.prog W=.ok (.bool false) W:=by kernel_rfl
set_option maxRecDepth 100000 in
set_option maxHeartbeats 6400000 in
theorem pclc_n {xs:List Cmd} (hl:xs.length≤200) (w:World) (h1:IsR LC w (.slice none 0 0) xs):Calls Tryz.prog 72 #[.slice none 0 0] w fun e w'=>∃ a,e=.returned a∧w'.ownsRow w.heap.size 35 47 a xs.length (flatR LC xs)∧Below w.heap.size w w':=by
 have e1:xs=[]:=List.eq_nil_of_length_eq_zero h1.room.1.symm;subst e1;clear h1 hl
 have hB0:=Below.refl w.heap.size w;have hq:=pclc_neq
 go_enter Tryz.func72,Tryz.ntmps72
 go_wp2_with fail
 go_returns
 exact ⟨_,rfl,ownR_none,hB0⟩
set_option maxRecDepth 100000 in
set_option maxHeartbeats 6400000 in
theorem pclc_s {ad:Addr} {c:Nat} {xs:List Cmd} (hl:xs.length≤200) (w:World) (h1:IsR LC w (.slice (some ad) xs.length c) xs):Calls Tryz.prog 72 #[.slice (some ad) xs.length c] w fun e w'=>∃ a,e=.returned a∧w'.ownsRow w.heap.size 35 47 a xs.length (flatR LC xs)∧Below w.heap.size w w':=by
 obtain ⟨ti,hin,hz0,hz1,hz2⟩:=info_parts info_cm12
 have hq:=pclc_seq ad xs.length c
 have H1:=Lib.hid h1;clear h1
 have HL:=Lib.hid hl;clear hl
 have LE:(w.alloc (.cells #[] 35)).ownsRow w.heap.size 35 47 (.slice (some ⟨w.heap.size,0,none⟩) 0 0) 0 []:=ownR_built (L:=LC) (c:=#[]) (n:=0) (m:=0) [] rfl rfl rfl rfl rfl (by decide)
 have XS:IsR LC (w.alloc (.cells #[] 35)) (.slice (some ad) xs.length c) xs:=H1.out.alloc _
 skip
 go_enter Tryz.func72,Tryz.ntmps72
 go_wp2_with (at_builtin;refine wpList_append_rows rfl LC _ _ 60 rfl w.heap.size 35 ti (.agg (ccell Cmd.zero).toArray) 47 136 rfl Tryz.underlying60 hin hz0 hz1 hz2 rfl _ 0 _ rfl LE _ xs rfl XS (by have:=HL.out;unfold maxLen;omega) (by have:=HL.out;omega) (by simp) ?_;intro v40 w40 own4 gr4)
 go_returns
 refine ⟨_,rfl,?_,?_⟩
 · have:=own4
   rw [Nat.zero_add,List.nil_append] at this
   exact this
 · exact ((Below.refl _ w).alloc (Nat.le_refl _) _).grown gr4 (by simp) (ownR_block LE)
theorem pclc_is {v:Value} {xs:List Cmd} (hl:xs.length≤200) (w:World) (h1:IsR LC w v xs):Calls Tryz.prog 72 #[v] w fun e w'=>∃ a,e=.returned a∧w'.ownsRow w.heap.size 35 47 a xs.length (flatR LC xs)∧Below w.heap.size w w':=by
 obtain ⟨a,c,rfl,hr⟩:=id h1
 cases a with
 | none =>
   have hc:=hr.nil rfl
   have:=hr.room
   have e:xs=[]:=List.eq_nil_of_length_eq_zero (by omega)
   subst e
   subst hc
   exact pclc_n hl w h1
 | some ad=>exact pclc_s hl w h1
set_option maxRecDepth 100000 in
set_option maxHeartbeats 6400000 in
theorem pcop_is {v:Value} {ts:List Tk} {cs:List Cmd} (w:World) (h1:IsD w v ts cs) (hl:ts.length + cs.length≤200):Calls Tryz.prog 43 #[v] w (GivesD ts cs w):=by
 obtain ⟨v1,v2,rfl,g1,g2⟩:=id h1
 obtain ⟨a1,c1,rfl,hr1⟩:=id g1;obtain ⟨a2,c2,rfl,hr2⟩:=id g2
 have m1:=hr1.most;have r1:=hr1.room;have m2:=hr2.most;have r2:=hr2.room;have H1:=Lib.hid g1;have H2:=Lib.hid g2
 clear hr1 hr2 g1 g2 h1
 have CT:=fun (W:World) (v:Value) (h:IsR LT W v ts)=>pclt_is (by omega) W h;have CC:=fun (W:World) (v:Value) (h:IsR LC W v cs)=>pclc_is (by omega) W h
 clear hl
 go_enter Tryz.func43,Tryz.ntmps43
 go_upto_region 1 with fail
 refine F_gen (F:=fun W=>Code.wp _ _ _ _ W) (J:=fun W=>Box W (w.heap.size) ([.slice a1 ts.length c1,.slice a2 cs.length c2])∧Box W (w.heap.size + 1) (id0)∧Below w.heap.size w W) (And.intro (Box.alloc (Box.newc rfl rfl) _) (And.intro (Box.newc rfl (by simp)) (by go_grown))) ?_
 intro w0 ⟨e_d,e_r,hB0⟩
 have hs0:=hB0.size
 have x_d0:=e_d;clear e_d
 have x_r0:=e_r;clear e_r
 refine wp_region_held_drew (S:=fun W=>Box W (w.heap.size) ([.slice a1 ts.length c1,.slice a2 cs.length c2])) (by kernel_rfl) (x_d0).drew (fun _=>?_)
 refine F_drew (F:=fun W=>wpAnyH _ _ _ _ _ _ _ _ W) ?_
 intro Ws0 hbs0
 clear hs0
 have x_d_s0:Box Ws0 (w.heap.size) ([.slice a1 ts.length c1,.slice a2 cs.length c2]):=Box.below x_d0 hbs0
 have z_r_s0:Box Ws0 (w.heap.size + 1) (id0):=Box.below x_r0 hbs0
 have Bs0:=below_thru hB0 hbs0
 clear x_d0 x_r0 hB0 hbs0
 refine takeH 0 3 (v:=?vs0_1) rfl (by rfl) (by kernel_rfl) (by kernel_rfl) (by kernel_rfl) (fun _ _ _ h=>h) (Or.inl ⟨by rfl,?_⟩) (x_d_s0) ?_
 rotate_left
 · intro wq hSq
   go_simp
   exact rfl
 try simp only [Act.put,qzA,qz0,qzS]
 refine takeH 1 4 (v:=?vs1_2) rfl (by rfl) (by kernel_rfl) (by kernel_rfl) (by kernel_rfl) (fun _ _ _ h=>h) (Or.inl ⟨by rfl,?_⟩) (x_d_s0) ?_
 rotate_left
 · intro wq hSq
   have cq:=hSq.c 0 _ rfl
   have zq:=lt_of_cell cq
   go_simp
   exact rfl
 try simp only [Act.put,qzA,qz0,qzS]
 refine takeH 3 6 (v:=?vs3_3) rfl (by rfl) (by kernel_rfl) (by kernel_rfl) (by kernel_rfl) (fun _ _ _ h=>h) (Or.inl ⟨by rfl,?_⟩) (x_d_s0) ?_
 rotate_left
 · intro wq hSq
   go_simp
   exact rfl
 try simp only [Act.put,qzA,qz0,qzS]
 refine takeH 4 7 (v:=?vs4_4) rfl (by rfl) (by kernel_rfl) (by kernel_rfl) (by kernel_rfl) (fun _ _ _ h=>h) (Or.inl ⟨by rfl,?_⟩) (x_d_s0) ?_
 rotate_left
 · intro wq hSq
   have cq:=hSq.c 1 _ rfl
   have zq:=lt_of_cell cq
   go_simp
   exact rfl
 try simp only [Act.put,qzA,qz0,qzS]
 refine wpAnyH_ready (rs:=[2]) (by kernel_rfl) (by simp) (AllReadyH.cons rfl (fun K hK=>?_) AllReadyH.nil)
 go_simp
 have low5:=(z_r_s0).lt
 refine (CT _ _ (H1.out.below Bs0)).mono ?_
 rintro e Ws5 ⟨v5,rfl,on5,hbs5⟩
 have x_d_s5:Box Ws5 (w.heap.size) ([.slice a1 ts.length c1,.slice a2 cs.length c2]):=Box.below x_d_s0 hbs5
 have z_r_s5:Box Ws5 (w.heap.size + 1) (id0):=Box.below z_r_s0 hbs5
 have Bs5:=below_thru Bs0 hbs5
 clear x_d_s0 z_r_s0 Bs0 hbs5
 have oo5:=Lib.hid (ownR_base on5 (show w.heap.size + 2≤_ by have:=low5;omega));clear on5 low5
 obtain ⟨p5,n5,rfl⟩:=own_slR oo5.out
 refine hK.out _ _ x_d_s5 (fun _=>?_);clear hK K
 refine wpAnyH_ready (rs:=[5]) (by kernel_rfl) (by simp) (AllReadyH.cons rfl (fun K hK=>?_) AllReadyH.nil)
 go_simp
 have low6:=(z_r_s5).lt
 refine (CC _ _ (H2.out.below Bs5)).mono ?_
 rintro e Ws6 ⟨v6,rfl,on6,hbs6⟩
 have x_d_s6:Box Ws6 (w.heap.size) ([.slice a1 ts.length c1,.slice a2 cs.length c2]):=Box.below x_d_s5 hbs6
 have z_r_s6:Box Ws6 (w.heap.size + 1) (id0):=Box.below z_r_s5 hbs6
 have o_t_s6:=Lib.hid (ownR_below oo5.out hbs6)
 have Bs6:=below_thru Bs5 hbs6
 clear x_d_s5 z_r_s5 oo5 Bs5 hbs6
 have oo6:=Lib.hid (ownR_base on6 (show w.heap.size + 2≤_ by have:=low6;omega));clear on6 low6
 obtain ⟨p6,n6,rfl⟩:=own_slR oo6.out
 refine hK.out _ _ x_d_s6 (fun _=>?_);clear hK K
 refine takeH 6 9 (v:=?vs6_7) rfl (by rfl) (by kernel_rfl) (by kernel_rfl) (by kernel_rfl) (fun _ _ _ h=>h) (Or.inl ⟨by rfl,?_⟩) (x_d_s6) ?_
 rotate_left
 · intro wq hSq
   go_simp
   exact rfl
 try simp only [Act.put,qzA,qz0,qzS]
 refine wpAnyH_ready (rs:=[7]) (by kernel_rfl) (by simp) (AllReadyH.cons rfl (fun K hK=>?_) AllReadyH.nil)
 have nz_d:=(x_d_s6).lt
 refine step_store_box0 (cs:=[.slice p5 (ts.length) n5,.slice p6 (cs.length) n6]) rfl rfl _ _ _ rfl z_r_s6 rfl rfl (size_id12 _ _) rfl (one_id12 _ _ _ _ _ _) ?_
 intro Ws8 hWs8
 have x_d_s8:Box Ws8 (w.heap.size) ([.slice a1 ts.length c1,.slice a2 cs.length c2]):=hWs8.past _ _ (by omega) x_d_s6
 have z_r_s8:=hWs8.box
 have o_t_s8:=Lib.hid (ownR_stored hWs8 o_t_s6.out (by omega))
 have o_c_s8:=Lib.hid (ownR_stored hWs8 oo6.out (by omega))
 have Bs8:=hWs8.below _ _ (by omega) Bs6
 clear nz_d x_d_s6 z_r_s6 o_t_s6 oo6 Bs6 hWs8
 refine hK.out _ _ x_d_s8 (fun _=>?_);clear hK K
 refine wpAnyH_done (by kernel_rfl) ?_ _
 go_wp2_with fail
 exact bodyPost_ret (results_box Tryz.results43 z_r_s8 rfl Tryz.underlying62 rfl (size_id12 _ _)) rfl ⟨_,_,rfl,ownR_base o_t_s8.out (by omega),ownR_base o_c_s8.out (by omega),Bs8⟩
end Go.Proofs.YtnfejdfjlnpldaaGreatDoor
