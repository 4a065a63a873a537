import Derived.Test.YtnfejdfjlnpldaaGreatDoorTp12B
set_option maxHeartbeats 6400000
set_option maxRecDepth 100000
namespace Go.Proofs.YtnfejdfjlnpldaaGreatDoor
open Go.RowKit
set_option maxRecDepth 100000 in
set_option maxHeartbeats 6400000 in
theorem tpal_is (w:World) (hL:Hid (LaidS w)):Calls Tryz.prog 5 #[] w fun e w'=>e=.returned (.bool true)∧Below w.heap.size w w':=by
 have TK:∀ W,Hid (LaidS W)→Calls Tryz.prog 13 #[(.agg (sd1.map (Value.int .u8)).toArray),.int .u32 2,.int .u32 3,.int .u32 4,.int .u64 5] W fun e w'=>e=.returned (.tuple #[(.agg rqT.tk.v.toArray),.int .i64 0])∧Below W.heap.size W w':=fun W h=>token_is nmT sd1_len sd1_b tp_tok W h
 have NW:=fun W=>pnew_is W;have RG:=fun (W:World) (h:Hid (LaidS W))=>right_is (Frm.req rqT) sd1_len sd1_b tp_rig W h
 have P1:=fun (W:World) (u:Value) (h:IsD W u [] [])=>ptok_is rqT.tk (by simp) (tp_put_t rqT.tk (by decide)) W h;have A1:=fun (W:World) (u:Value) (h:IsD W u [rqT.tk] [])=>pacp_is (Frm.req rqT) (by simp) (tp_acp_t rqT (by decide)) W h;have A0:=fun (W:World) (u:Value) (h:IsD W u [] [])=>pacp_is (Frm.req rqT) (by simp) (tp_acp_0 _ (Frm.req_ok (by decide))) W h
 have BD:=fun W=>tp_sd1 W;have BF:=fun W=>tp_mr rqT W
 have BQ:∀ W,(Instr.build 30 #[(0,.agg rqT.tk.v.toArray)]).run Tryz.prog W=.ok (.agg (rcell rqT).toArray) W:=fun W=>tp_rq0 nmT (minted_len sd1 nmT) W
 have ST:=Lib.hid (size_tk rqT.tk);have LT_:Hid (zeroTk.length=rqT.tk.v.length):=Lib.hid (len_tok Nums.zero rqT.k zd32 rqT.hg);have OT:=Lib.hid (one_tk rqT.tk)
 have SF:=Lib.hid (size_frm (Frm.req rqT));have LF:=Lib.hid (len_frm Frm.zero (Frm.req rqT));have OF:=Lib.hid (one_frm (Frm.req rqT))
 have SI:=Lib.hid size_i0;have OI:=Lib.hid one_i0
 obtain ⟨SD,hSD⟩:∃ X,sd1.map (Value.int .u8)=X:=⟨_,rfl⟩
 rw [hSD] at BD TK RG
 clear hSD
 obtain ⟨R,hR⟩:∃ X,rcell rqT=X:=⟨_,rfl⟩
 rw [hR] at BQ BF
 clear hR
 obtain ⟨F,hF⟩:∃ X,mcell (Frm.req rqT)=X:=⟨_,rfl⟩
 rw [hF] at BF RG A1 A0 SF LF OF
 clear hF
 obtain ⟨tkA,hA⟩:∃ X,rqT.tk=X:=⟨_,rfl⟩;rw [hA] at TK P1 A1 BQ ST LT_ OT;clear hA
 obtain ⟨V,hV⟩:∃ X,tkA.v=X:=⟨_,rfl⟩
 rw [hV] at TK P1 BQ ST LT_ OT
 clear hV
 go_enter Tryz.func5,Tryz.ntmps5
 have hB0:=Below.refl w.heap.size w
 have hs0:=hB0.size
 go_wp2_with (refine wpList_build9 rfl 23 _ rfl (us:=#[(0,.int .u8 1)]) (by rfl) (BD _) ?_)
 refine (TK _ (Lib.hid (hL.out.below hB0))).mono ?_
 rintro e w1 ⟨rfl,hb⟩
 have hB1:Below w.heap.size w w1:=below_thru hB0 hb
 have hs1:=hB1.size
 clear hB0 hs0
 clear hb
 have d_t_0:=hs1
 go_upto_region 2 with (refine wpList_store_box (cs:=V) rfl _ _ _ rfl (Box.newc (l:=zeroTk) rfl rfl) rfl rfl ST.out LT_.out OT.out ?_;intro W1_0 hW1_0)
 have hN:Below w1.heap.size w1 W1_0:=(hW1_0.below _ _ (by omega) ((Below.refl _ w1).alloc (Nat.le_refl _) _))
 have x_t2:Box W1_0 (w1.heap.size) (V):=hW1_0.box
 have hB2:Below w.heap.size w W1_0:=below_thru hB1 hN
 have hs2:=hB2.size
 clear hB1 hs1
 clear hN hW1_0
 have d_f_t:=(x_t2).lt
 have d_f_0:=hs2
 go_upto_region 3 with (first
   | (refine wpList_load_box9 rfl _ _ rfl x_t2 rfl Tryz.underlying27 rfl ST.out ?_)
   | (refine wpList_build9 rfl 30 _ rfl (us:=#[(0,.agg V.toArray)]) (by rfl) (BQ _) ?_)
   | (refine wpList_build9 rfl 37 _ rfl (us:=#[(0,.int .u8 1),(1,.agg R.toArray)]) (by rfl) (BF _) ?_)
   | (refine wpList_store_box (cs:=F) rfl _ _ _ rfl (Box.newc (l:=mcell Frm.zero) rfl rfl) rfl rfl SF.out LF.out OF.out ?_;intro W2_0 hW2_0))
 have hN:Below W1_0.heap.size W1_0 W2_0:=(hW2_0.below _ _ (by omega) ((Below.refl _ W1_0).alloc (Nat.le_refl _) _))
 have x_f3:Box W2_0 (W1_0.heap.size) (F):=hW2_0.box
 have hB3:Below w.heap.size w W2_0:=below_thru hB2 hN
 have hs3:=hB3.size
 have x_t3:Box W2_0 (w1.heap.size) (V):=Box.below x_t2 hN
 clear hB2 hs2 x_t2
 clear hN hW2_0
 go_wp2_with (first
   | (refine wpList_load_box9 rfl _ _ rfl x_f3 rfl Tryz.underlying37 rfl SF.out ?_)
   | (refine wpList_build9 rfl 23 _ rfl (us:=#[(0,.int .u8 1)]) (by rfl) (BD _) ?_))
 refine (RG _ (Lib.hid (hL.out.below hB3))).mono ?_
 rintro e w4 ⟨rfl,hb⟩
 have hB4:Below w.heap.size w w4:=below_thru hB3 hb
 have hs4:=hB4.size
 have x_t4:Box w4 (w1.heap.size) (V):=Box.below x_t3 hb
 have x_f4:Box w4 (W1_0.heap.size) (F):=Box.below x_f3 hb
 clear hB3 hs3 x_t3 x_f3
 clear hb
 go_upto_region 4 with fail
 go_cut [6,7] (fun p q wx=>∃ (bD:Nat) (a b:Value),p=.pointer (some ⟨bD,0,none⟩)∧q=.int .i64 0∧Box wx (w1.heap.size) V∧Box wx (W1_0.heap.size) F∧Box wx bD [a,b]∧Hid (IsD wx (.agg #[a,b]) [tkA] [])∧Below w.heap.size w wx)
 case first =>
   refine wp_region_held_drew (S:=fun W=>Box W (w1.heap.size) (V)∧Box W (W1_0.heap.size) (F)) (by kernel_rfl) (And.intro (x_t4).drew (x_f4).drew) (fun _=>?_)
   refine F_drew (F:=fun W=>wpAnyH _ _ _ _ _ _ _ _ W) ?_
   intro Ws0 hbs0
   clear hs4
   have x_t_s0:Box Ws0 (w1.heap.size) (V):=Box.below x_t4 hbs0
   have x_f_s0:Box Ws0 (W1_0.heap.size) (F):=Box.below x_f4 hbs0
   have Bs0:=below_thru hB4 hbs0
   clear x_t4 x_f4 hB4 hbs0
   refine takeH 1 28 (v:=.agg (V).toArray) rfl (by rfl) (by kernel_rfl) (by kernel_rfl) (by kernel_rfl) (fun _ _ _ h=>h) (yieldsIf_load_mid (by rfl) _ _ rfl _ _ rfl (V) _ (fun wq hq=>Box.range (hq.1)) Tryz.underlying27 rfl ST.out) ((And.intro x_t_s0 x_f_s0)) ?_
   try simp only [Act.put,qzA,qz0,qzS]
   refine wpAnyH_ready (rs:=[0,6]) (by kernel_rfl) (by simp) (AllReadyH.cons rfl (fun K hK=>?_) (AllReadyH.cons rfl (fun K hK=>?_) AllReadyH.nil))
   · skip
     go_simp
     refine (NW _).mono ?_
     rintro e Ws1 ⟨n1,n2,rfl,on1,on2,hbs1⟩
     have IN:IsD Ws1 (.agg #[n1,n2]) [] []:=⟨_,_,rfl,IsR.own on1 rfl rfl,IsR.own on2 rfl rfl⟩
     clear on1 on2
     have x_t_s1:Box Ws1 (w1.heap.size) (V):=Box.below x_t_s0 hbs1
     have x_f_s1:Box Ws1 (W1_0.heap.size) (F):=Box.below x_f_s0 hbs1
     have Bs1:=below_thru Bs0 hbs1
     clear x_t_s0 x_f_s0 Bs0 hbs1
     have KN1:Below Ws1.heap.size Ws1 Ws1:=Below.refl _ _
     refine hK.out _ _ (And.intro x_t_s1 x_f_s1) (fun _=>?_);clear hK K
     refine wpAnyH_ready (rs:=[2,6]) (by kernel_rfl) (by simp) (AllReadyH.cons rfl (fun K hK=>?_) (AllReadyH.cons rfl (fun K hK=>?_) AllReadyH.nil))
     · skip
       have zB1:=Below.size Bs1
       go_simp
       refine (P1 _ _ (IN.below KN1)).mono ?_
       rintro e Ws2 ⟨d1,d2,rfl,od1,od2,hbs2⟩
       have ID:IsD Ws2 (.agg #[d1,d2]) [tkA] []:=⟨_,_,rfl,IsR.own od1 rfl rfl,IsR.own od2 rfl rfl⟩
       obtain ⟨pd1,nd1,rfl⟩:=own_slR od1;obtain ⟨pd2,nd2,rfl⟩:=own_slR od2;have OD1:=Lib.hid od1;have OD2:=Lib.hid od2;clear od1 od2
       have x_t_s2:Box Ws2 (w1.heap.size) (V):=Box.below x_t_s1 hbs2
       have x_f_s2:Box Ws2 (W1_0.heap.size) (F):=Box.below x_f_s1 hbs2
       have Bs2:=below_thru Bs1 hbs2
       have K_NEW_s2:=below_thru KN1 hbs2
       clear x_t_s1 x_f_s1 Bs1 KN1 hbs2
       have KT2:Below Ws2.heap.size Ws2 Ws2:=Below.refl _ _
       refine hK.out _ _ (And.intro x_t_s2 x_f_s2) (fun _=>?_);clear hK K
       refine takeH 3 26 (v:=?vs3_3) rfl (by rfl) (by kernel_rfl) (by kernel_rfl) (by kernel_rfl) (fun _ _ _ h=>h) (Or.inl ⟨by rfl,?_⟩) ((And.intro x_t_s2 x_f_s2)) ?_
       rotate_left
       · intro wq hSq
         go_simp
         exact rfl
       try simp only [Act.put,qzA,qz0,qzS]
       refine takeH 4 30 (v:=?vs4_4) rfl (by rfl) (by kernel_rfl) (by kernel_rfl) (by kernel_rfl) (fun _ _ _ h=>h) (Or.inl ⟨by rfl,?_⟩) ((And.intro x_t_s2 x_f_s2)) ?_
       rotate_left
       · intro wq hSq
         go_simp
         exact rfl
       try simp only [Act.put,qzA,qz0,qzS]
       refine takeH 5 31 (v:=?vs5_5) rfl (by rfl) (by kernel_rfl) (by kernel_rfl) (by kernel_rfl) (fun _ _ _ h=>h) (Or.inl ⟨by rfl,?_⟩) ((And.intro x_t_s2 x_f_s2)) ?_
       rotate_left
       · intro wq hSq
         go_simp
         exact rfl
       try simp only [Act.put,qzA,qz0,qzS]
       refine wpAnyH_ready (rs:=[6]) (by kernel_rfl) (by simp) (AllReadyH.cons rfl (fun K hK=>?_) AllReadyH.nil)
       go_simp
       refine hK.out _ _ (And.intro (Box.alloc x_t_s2 _) (Box.alloc x_f_s2 _)) (fun _=>?_);clear hK K
       have zz_t:=(x_t_s2).lt
       have zz_f:=(x_f_s2).lt
       have zB:=Below.size Bs2
       have zK_NEW:=Below.size K_NEW_s2
       have zK_TOK:=Below.size KT2
       refine F_alloc (F:=fun W=>wpAnyH _ _ _ _ _ _ _ _ W) id0 rfl ?_
       intro Ws6 hS6 hbs6
       have x_t_s6:Box Ws6 (w1.heap.size) (V):=Box.below x_t_s2 hbs6
       have x_f_s6:Box Ws6 (W1_0.heap.size) (F):=Box.below x_f_s2 hbs6
       have o_d1_s6:=Lib.hid (ownR_below OD1.out hbs6)
       have o_d2_s6:=Lib.hid (ownR_below OD2.out hbs6)
       have Bs6:=below_thru Bs2 hbs6
       have K_NEW_s6:=below_thru K_NEW_s2 hbs6
       have K_TOK_s6:=below_thru KT2 hbs6
       clear x_t_s2 x_f_s2 OD1 OD2 Bs2 K_NEW_s2 KT2 hbs6
       obtain ⟨bS,hbS⟩:∃ b,Ws2.heap.size=b:=⟨_,rfl⟩
       rw [hbS] at hS6 zB zz_t zz_f zK_NEW zK_TOK ⊢;have zE:=Nat.le_of_eq hbS;clear hbS
       refine wpAnyH_ready (rs:=[7]) (by kernel_rfl) (by simp) (AllReadyH.cons rfl (fun K hK=>?_) AllReadyH.nil)
       refine step_store_box0 (cs:=[.slice pd1 ([tkA]:List Tk).length nd1,.slice pd2 ([]:List Cmd).length nd2]) rfl rfl _ _ _ rfl hS6 rfl rfl (size_id12 _ _) rfl (one_id12 _ _ _ _ _ _) (fun Ws7 hW=>?_)
       have x_t_f:=hW.past _ _ (by omega) x_t_s6
       have x_f_f:=hW.past _ _ (by omega) x_f_s6
       have Bf:=hW.below _ _ (by omega) Bs6;have Df:=hW.box
       have IDf:IsD Ws7 (.agg #[.slice pd1 ([tkA]:List Tk).length nd1,.slice pd2 ([]:List Cmd).length nd2]) [tkA] []:=by
         first | exact ID.below (hW.below _ _ (by first | omega | (have:=Below.size K_TOK_s6;omega)) K_TOK_s6) | exact ⟨_,_,rfl,IsR.own (ownR_stored hW o_d1_s6.out (by omega)) rfl rfl,IsR.own (ownR_stored hW o_d2_s6.out (by omega)) rfl rfl⟩
       refine hK.out _ _ (And.intro x_t_f x_f_f) (fun _=>?_);clear hK
       refine takeH 8 7 (v:=?vs8_8) rfl (by rfl) (by kernel_rfl) (by kernel_rfl) (by kernel_rfl) (fun _ _ _ h=>h) (Or.inl ⟨by rfl,?_⟩) ((And.intro x_t_f x_f_f)) ?_
       rotate_left
       · intro wq hSq
         go_simp
         exact rfl
       try simp only [Act.put,qzA,qz0,qzS]
       refine wpAnyH_done (by kernel_rfl) ?_ _
       go_wp2_with fail
       go_meet
       exact ⟨bS,_,_,rfl,rfl,x_t_f,x_f_f,Df,Lib.hid IDf,Bf⟩
     · skip
       go_simp
       refine hK.out _ _ (And.intro (Box.alloc x_t_s1 _) (Box.alloc x_f_s1 _)) (fun _=>?_);clear hK K
       have zz_t:=(x_t_s1).lt
       have zz_f:=(x_f_s1).lt
       have zB:=Below.size Bs1
       have zK_NEW:=Below.size KN1
       refine F_alloc (F:=fun W=>wpAnyH _ _ _ _ _ _ _ _ W) id0 rfl ?_
       intro Ws9 hS9 hbs9
       have x_t_s9:Box Ws9 (w1.heap.size) (V):=Box.below x_t_s1 hbs9
       have x_f_s9:Box Ws9 (W1_0.heap.size) (F):=Box.below x_f_s1 hbs9
       have Bs9:=below_thru Bs1 hbs9
       have K_NEW_s9:=below_thru KN1 hbs9
       clear x_t_s1 x_f_s1 Bs1 KN1 hbs9
       obtain ⟨bS,hbS⟩:∃ b,Ws1.heap.size=b:=⟨_,rfl⟩
       rw [hbS] at hS9 zB zz_t zz_f zK_NEW ⊢;have zE:=Nat.le_of_eq hbS;clear hbS
       refine wpAnyH_ready (rs:=[2]) (by kernel_rfl) (by simp) (AllReadyH.cons rfl (fun K hK=>?_) AllReadyH.nil)
       have zB1:=Below.size Bs9
       have zdT:=(hS9).lt
       go_simp
       refine (P1 _ _ (IN.below K_NEW_s9)).mono ?_
       rintro e Ws10 ⟨d1,d2,rfl,od1,od2,hbs10⟩
       have ID:IsD Ws10 (.agg #[d1,d2]) [tkA] []:=⟨_,_,rfl,IsR.own od1 rfl rfl,IsR.own od2 rfl rfl⟩
       obtain ⟨pd1,nd1,rfl⟩:=own_slR od1;obtain ⟨pd2,nd2,rfl⟩:=own_slR od2;have OD1:=Lib.hid od1;have OD2:=Lib.hid od2;clear od1 od2
       have x_t_s10:Box Ws10 (w1.heap.size) (V):=Box.below x_t_s9 hbs10
       have x_f_s10:Box Ws10 (W1_0.heap.size) (F):=Box.below x_f_s9 hbs10
       have z_d_s10:Box Ws10 (bS) (id0):=Box.below hS9 hbs10
       have Bs10:=below_thru Bs9 hbs10
       have K_NEW_s10:=below_thru K_NEW_s9 hbs10
       clear x_t_s9 x_f_s9 hS9 Bs9 K_NEW_s9 hbs10
       have KT10:Below Ws10.heap.size Ws10 Ws10:=Below.refl _ _
       refine hK.out _ _ (And.intro x_t_s10 x_f_s10) (fun _=>?_);clear hK K
       refine takeH 3 26 (v:=?vs3_11) rfl (by rfl) (by kernel_rfl) (by kernel_rfl) (by kernel_rfl) (fun _ _ _ h=>h) (Or.inl ⟨by rfl,?_⟩) ((And.intro x_t_s10 x_f_s10)) ?_
       rotate_left
       · intro wq hSq
         go_simp
         exact rfl
       try simp only [Act.put,qzA,qz0,qzS]
       refine takeH 4 30 (v:=?vs4_12) rfl (by rfl) (by kernel_rfl) (by kernel_rfl) (by kernel_rfl) (fun _ _ _ h=>h) (Or.inl ⟨by rfl,?_⟩) ((And.intro x_t_s10 x_f_s10)) ?_
       rotate_left
       · intro wq hSq
         go_simp
         exact rfl
       try simp only [Act.put,qzA,qz0,qzS]
       refine takeH 5 31 (v:=?vs5_13) rfl (by rfl) (by kernel_rfl) (by kernel_rfl) (by kernel_rfl) (fun _ _ _ h=>h) (Or.inl ⟨by rfl,?_⟩) ((And.intro x_t_s10 x_f_s10)) ?_
       rotate_left
       · intro wq hSq
         go_simp
         exact rfl
       try simp only [Act.put,qzA,qz0,qzS]
       refine wpAnyH_ready (rs:=[7]) (by kernel_rfl) (by simp) (AllReadyH.cons rfl (fun K hK=>?_) AllReadyH.nil)
       refine step_store_box0 (cs:=[.slice pd1 ([tkA]:List Tk).length nd1,.slice pd2 ([]:List Cmd).length nd2]) rfl rfl _ _ _ rfl z_d_s10 rfl rfl (size_id12 _ _) rfl (one_id12 _ _ _ _ _ _) (fun Ws14 hW=>?_)
       have x_t_f:=hW.past _ _ (by omega) x_t_s10
       have x_f_f:=hW.past _ _ (by omega) x_f_s10
       have Bf:=hW.below _ _ (by omega) Bs10;have Df:=hW.box
       have IDf:IsD Ws14 (.agg #[.slice pd1 ([tkA]:List Tk).length nd1,.slice pd2 ([]:List Cmd).length nd2]) [tkA] []:=by
         first | exact ID.below (hW.below _ _ (by first | omega | (have:=Below.size KT10;omega)) KT10) | exact ⟨_,_,rfl,IsR.own (ownR_stored hW OD1.out (by omega)) rfl rfl,IsR.own (ownR_stored hW OD2.out (by omega)) rfl rfl⟩
       refine hK.out _ _ (And.intro x_t_f x_f_f) (fun _=>?_);clear hK
       refine takeH 8 7 (v:=?vs8_15) rfl (by rfl) (by kernel_rfl) (by kernel_rfl) (by kernel_rfl) (fun _ _ _ h=>h) (Or.inl ⟨by rfl,?_⟩) ((And.intro x_t_f x_f_f)) ?_
       rotate_left
       · intro wq hSq
         go_simp
         exact rfl
       try simp only [Act.put,qzA,qz0,qzS]
       refine wpAnyH_done (by kernel_rfl) ?_ _
       go_wp2_with fail
       go_meet
       exact ⟨bS,_,_,rfl,rfl,x_t_f,x_f_f,Df,Lib.hid IDf,Bf⟩
   · skip
     go_simp
     refine hK.out _ _ (And.intro (Box.alloc x_t_s0 _) (Box.alloc x_f_s0 _)) (fun _=>?_);clear hK K
     have zz_t:=(x_t_s0).lt
     have zz_f:=(x_f_s0).lt
     have zB:=Below.size Bs0
     refine F_alloc (F:=fun W=>wpAnyH _ _ _ _ _ _ _ _ W) id0 rfl ?_
     intro Ws16 hS16 hbs16
     have x_t_s16:Box Ws16 (w1.heap.size) (V):=Box.below x_t_s0 hbs16
     have x_f_s16:Box Ws16 (W1_0.heap.size) (F):=Box.below x_f_s0 hbs16
     have Bs16:=below_thru Bs0 hbs16
     clear x_t_s0 x_f_s0 Bs0 hbs16
     obtain ⟨bS,hbS⟩:∃ b,Ws0.heap.size=b:=⟨_,rfl⟩
     rw [hbS] at hS16 zB zz_t zz_f  ⊢;have zE:=Nat.le_of_eq hbS;clear hbS
     refine wpAnyH_ready (rs:=[0]) (by kernel_rfl) (by simp) (AllReadyH.cons rfl (fun K hK=>?_) AllReadyH.nil)
     go_simp
     refine (NW _).mono ?_
     rintro e Ws17 ⟨n1,n2,rfl,on1,on2,hbs17⟩
     have IN:IsD Ws17 (.agg #[n1,n2]) [] []:=⟨_,_,rfl,IsR.own on1 rfl rfl,IsR.own on2 rfl rfl⟩
     clear on1 on2
     have x_t_s17:Box Ws17 (w1.heap.size) (V):=Box.below x_t_s16 hbs17
     have x_f_s17:Box Ws17 (W1_0.heap.size) (F):=Box.below x_f_s16 hbs17
     have z_d_s17:Box Ws17 (bS) (id0):=Box.below hS16 hbs17
     have Bs17:=below_thru Bs16 hbs17
     clear x_t_s16 x_f_s16 hS16 Bs16 hbs17
     have KN17:Below Ws17.heap.size Ws17 Ws17:=Below.refl _ _
     refine hK.out _ _ (And.intro x_t_s17 x_f_s17) (fun _=>?_);clear hK K
     refine wpAnyH_ready (rs:=[2]) (by kernel_rfl) (by simp) (AllReadyH.cons rfl (fun K hK=>?_) AllReadyH.nil)
     have zB1:=Below.size Bs17
     have zdT:=(z_d_s17).lt
     go_simp
     refine (P1 _ _ (IN.below KN17)).mono ?_
     rintro e Ws18 ⟨d1,d2,rfl,od1,od2,hbs18⟩
     have ID:IsD Ws18 (.agg #[d1,d2]) [tkA] []:=⟨_,_,rfl,IsR.own od1 rfl rfl,IsR.own od2 rfl rfl⟩
     obtain ⟨pd1,nd1,rfl⟩:=own_slR od1;obtain ⟨pd2,nd2,rfl⟩:=own_slR od2;have OD1:=Lib.hid od1;have OD2:=Lib.hid od2;clear od1 od2
     have x_t_s18:Box Ws18 (w1.heap.size) (V):=Box.below x_t_s17 hbs18
     have x_f_s18:Box Ws18 (W1_0.heap.size) (F):=Box.below x_f_s17 hbs18
     have z_d_s18:Box Ws18 (bS) (id0):=Box.below z_d_s17 hbs18
     have Bs18:=below_thru Bs17 hbs18
     have K_NEW_s18:=below_thru KN17 hbs18
     clear x_t_s17 x_f_s17 z_d_s17 Bs17 KN17 hbs18
     have KT18:Below Ws18.heap.size Ws18 Ws18:=Below.refl _ _
     refine hK.out _ _ (And.intro x_t_s18 x_f_s18) (fun _=>?_);clear hK K
     refine takeH 3 26 (v:=?vs3_19) rfl (by rfl) (by kernel_rfl) (by kernel_rfl) (by kernel_rfl) (fun _ _ _ h=>h) (Or.inl ⟨by rfl,?_⟩) ((And.intro x_t_s18 x_f_s18)) ?_
     rotate_left
     · intro wq hSq
       go_simp
       exact rfl
     try simp only [Act.put,qzA,qz0,qzS]
     refine takeH 4 30 (v:=?vs4_20) rfl (by rfl) (by kernel_rfl) (by kernel_rfl) (by kernel_rfl) (fun _ _ _ h=>h) (Or.inl ⟨by rfl,?_⟩) ((And.intro x_t_s18 x_f_s18)) ?_
     rotate_left
     · intro wq hSq
       go_simp
       exact rfl
     try simp only [Act.put,qzA,qz0,qzS]
     refine takeH 5 31 (v:=?vs5_21) rfl (by rfl) (by kernel_rfl) (by kernel_rfl) (by kernel_rfl) (fun _ _ _ h=>h) (Or.inl ⟨by rfl,?_⟩) ((And.intro x_t_s18 x_f_s18)) ?_
     rotate_left
     · intro wq hSq
       go_simp
       exact rfl
     try simp only [Act.put,qzA,qz0,qzS]
     refine wpAnyH_ready (rs:=[7]) (by kernel_rfl) (by simp) (AllReadyH.cons rfl (fun K hK=>?_) AllReadyH.nil)
     refine step_store_box0 (cs:=[.slice pd1 ([tkA]:List Tk).length nd1,.slice pd2 ([]:List Cmd).length nd2]) rfl rfl _ _ _ rfl z_d_s18 rfl rfl (size_id12 _ _) rfl (one_id12 _ _ _ _ _ _) (fun Ws22 hW=>?_)
     have x_t_f:=hW.past _ _ (by omega) x_t_s18
     have x_f_f:=hW.past _ _ (by omega) x_f_s18
     have Bf:=hW.below _ _ (by omega) Bs18;have Df:=hW.box
     have IDf:IsD Ws22 (.agg #[.slice pd1 ([tkA]:List Tk).length nd1,.slice pd2 ([]:List Cmd).length nd2]) [tkA] []:=by
       first | exact ID.below (hW.below _ _ (by first | omega | (have:=Below.size KT18;omega)) KT18) | exact ⟨_,_,rfl,IsR.own (ownR_stored hW OD1.out (by omega)) rfl rfl,IsR.own (ownR_stored hW OD2.out (by omega)) rfl rfl⟩
     refine hK.out _ _ (And.intro x_t_f x_f_f) (fun _=>?_);clear hK
     refine takeH 8 7 (v:=?vs8_23) rfl (by rfl) (by kernel_rfl) (by kernel_rfl) (by kernel_rfl) (fun _ _ _ h=>h) (Or.inl ⟨by rfl,?_⟩) ((And.intro x_t_f x_f_f)) ?_
     rotate_left
     · intro wq hSq
       go_simp
       exact rfl
     try simp only [Act.put,qzA,qz0,qzS]
     refine wpAnyH_done (by kernel_rfl) ?_ _
     go_wp2_with fail
     go_meet
     exact ⟨bS,_,_,rfl,rfl,x_t_f,x_f_f,Df,Lib.hid IDf,Bf⟩
 case rest =>
   clear x_t4 x_f4 hB4 hs4
   obtain ⟨bD,da,db,rfl,rfl,y_t,y_f,y_d,ID,y_B⟩:=hcut
   obtain ⟨W3,rfl⟩:∃ u:World,u=wc:=⟨_,rfl⟩
   have x_t5:Box W3 (w1.heap.size) V:=y_t;have x_f5:Box W3 (W1_0.heap.size) F:=y_f;have x_d5:Box W3 bD [da,db]:=y_d;have hB5:Below w.heap.size w W3:=y_B;have hs5:=hB5.size;clear y_t y_f y_d y_B
   clear x_t5
   go_wp2_with (first
     | (refine wpList_load_box9 rfl _ _ rfl x_d5 rfl Tryz.underlying62 rfl (size_id12 _ _) ?_)
     | (refine wpList_load_box9 rfl _ _ rfl x_f5 rfl Tryz.underlying37 rfl SF.out ?_))
   refine (A1 _ _ (ID.out.below (Below.refl _ _))).mono ?_
   rintro e w6 ⟨rfl,hb⟩
   have hB6:Below w.heap.size w w6:=below_thru hB5 hb
   have hs6:=hB6.size
   have x_f6:Box w6 (W1_0.heap.size) (F):=Box.below x_f5 hb
   have x_d6:Box w6 (bD) ([da,db]):=Box.below x_d5 hb
   clear hB5 hs5 x_f5 x_d5
   clear hb
   clear ID
   clear x_d6
   go_upto_region 6 with fail
   refine wp_region_held_drew (S:=fun W=>Box W (W1_0.heap.size) (F)) (by kernel_rfl) (x_f6).drew (fun _=>?_)
   refine F_drew (F:=fun W=>wpAnyH _ _ _ _ _ _ _ _ W) ?_
   intro Wp0 hbp0
   clear hs6
   have x_f_p0:Box Wp0 (W1_0.heap.size) (F):=Box.below x_f6 hbp0
   have Bp0:=below_thru hB6 hbp0
   clear x_f6 hB6 hbp0
   refine takeH 1 40 (v:=.agg (F).toArray) rfl (by rfl) (by kernel_rfl) (by kernel_rfl) (by kernel_rfl) (fun _ _ _ h=>h) (yieldsIf_load_mid (by rfl) _ _ rfl _ _ rfl (F) _ (fun wq hq=>Box.range (hq)) Tryz.underlying37 rfl SF.out) (x_f_p0) ?_
   try simp only [Act.put,qzA,qz0,qzS]
   refine wpAnyH_ready (rs:=[0]) (by kernel_rfl) (by simp) (AllReadyH.cons rfl (fun K hK=>?_) AllReadyH.nil)
   go_simp
   refine (NW _).mono ?_
   rintro e Wp1 ⟨n1,n2,rfl,on1,on2,hbp1⟩
   have IN:IsD Wp1 (.agg #[n1,n2]) [] []:=⟨_,_,rfl,IsR.own on1 rfl rfl,IsR.own on2 rfl rfl⟩
   clear on1 on2
   have x_f_p1:Box Wp1 (W1_0.heap.size) (F):=Box.below x_f_p0 hbp1
   have Bp1:=below_thru Bp0 hbp1
   clear x_f_p0 Bp0 hbp1
   have KN1:Below Wp1.heap.size Wp1 Wp1:=Below.refl _ _
   refine hK.out _ _ x_f_p1 (fun _=>?_);clear hK K
   refine wpAnyH_ready (rs:=[2]) (by kernel_rfl) (by simp) (AllReadyH.cons rfl (fun K hK=>?_) AllReadyH.nil)
   go_simp
   refine (A0 _ _ (IN.below KN1)).mono ?_
   rintro e Wp2 ⟨rfl,hbp2⟩
   have x_f_p2:Box Wp2 (W1_0.heap.size) (F):=Box.below x_f_p1 hbp2
   have Bp2:=below_thru Bp1 hbp2
   have K_NEW_p2:=below_thru KN1 hbp2
   clear x_f_p1 Bp1 KN1 hbp2
   refine hK.out _ _ x_f_p2 (fun _=>?_);clear hK K
   refine takeH 3 38 (v:=?vp3_3) rfl (by rfl) (by kernel_rfl) (by kernel_rfl) (by kernel_rfl) (fun _ _ _ h=>h) (Or.inl ⟨by rfl,?_⟩) (x_f_p2) ?_
   rotate_left
   · intro wq hSq
     go_simp
     exact rfl
   try simp only [Act.put,qzA,qz0,qzS]
   refine takeH 4 42 (v:=?vp4_4) rfl (by rfl) (by kernel_rfl) (by kernel_rfl) (by kernel_rfl) (fun _ _ _ h=>h) (Or.inl ⟨by rfl,?_⟩) (x_f_p2) ?_
   rotate_left
   · intro wq hSq
     go_simp
     exact rfl
   try simp only [Act.put,qzA,qz0,qzS]
   refine takeH 5 43 (v:=?vp5_5) rfl (by rfl) (by kernel_rfl) (by kernel_rfl) (by kernel_rfl) (fun _ _ _ h=>h) (Or.inl ⟨by rfl,?_⟩) (x_f_p2) ?_
   rotate_left
   · intro wq hSq
     go_simp
     exact rfl
   try simp only [Act.put,qzA,qz0,qzS]
   refine takeH 6 10 (v:=?vp6_6) rfl (by rfl) (by kernel_rfl) (by kernel_rfl) (by kernel_rfl) (fun _ _ _ h=>h) (Or.inl ⟨by rfl,?_⟩) (x_f_p2) ?_
   rotate_left
   · intro wq hSq
     go_simp
     exact rfl
   try simp only [Act.put,qzA,qz0,qzS]
   refine takeH 7 11 (v:=?vp7_7) rfl (by rfl) (by kernel_rfl) (by kernel_rfl) (by kernel_rfl) (fun _ _ _ h=>h) (Or.inl ⟨by rfl,?_⟩) (x_f_p2) ?_
   rotate_left
   · intro wq hSq
     go_simp
     exact rfl
   try simp only [Act.put,qzA,qz0,qzS]
   refine wpAnyH_done (by kernel_rfl) ?_ _
   have hB7:=Bp2;have hs7:=hB7.size
   have x_f7:=x_f_p2
   have K_NEW_7:=K_NEW_p2
   clear Bp2 x_f_p2 K_NEW_p2
   go_wp2_with fail
   go_returns
   exact ⟨rfl,hB7⟩
end Go.Proofs.YtnfejdfjlnpldaaGreatDoor
