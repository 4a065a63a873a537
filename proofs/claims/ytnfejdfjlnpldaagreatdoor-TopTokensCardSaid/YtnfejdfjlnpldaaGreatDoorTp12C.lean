import Derived.Test.YtnfejdfjlnpldaaGreatDoorTp12B
import Derived.Test.YtnfejdfjlnpldaaGreatDoorTp12T
set_option maxHeartbeats 6400000
set_option maxRecDepth 100000
namespace Go.Proofs.YtnfejdfjlnpldaaGreatDoor
open Go.RowKit
set_option maxRecDepth 100000 in
set_option maxHeartbeats 6400000 in
theorem tpc_is (c:Cmd) (hc:c.Ok) {S:List Int} (hS:S.length=32) (hSb:Byts S) {b:Bool} (hb:b=true↔TruC S c) {v:Value} (w:World) (h1:IsL w .u8 v (c.msg ++ c.g)) (hL:Hid (LaidS w)):Calls Tryz.prog 10 #[.agg (S.map (Value.int .u8)).toArray,.agg (ccell c).toArray,v,.bool b] w fun e w'=>e=.returned (.bool true)∧Below w.heap.size w w':=by
 have hm:=tp_msg hc;have hl:(c.msg ++ c.g).length=88:=by rw [List.length_append,hm,c.hg]
 obtain ⟨a0,c0,rfl,hr,_⟩:=id h1;have i1:=hr.room;have i2:=hr.most;obtain ⟨bb,off,rfl,_⟩:=h1.get 0 (by omega)
 have S1:=Lib.hid (show IsL w .u8 (.slice (some ⟨bb,off,none⟩) 56 c0) c.msg by
   have:=h1.taken (m:=c.msg.length) (by rw [List.length_append];omega)
   rwa [List.take_left,hm] at this)
 rw [hl] at i1 h1 ⊢
 have q56:(56:Int)≤(c0:Int):=by omega
 clear hr h1
 have BE:=fun W=>bef_t c hc W
 have T1:=fun (W:World) (va vb:Value) (h1:IsL W .u8 va S) (h2:IsL W .u8 vb [97]) (h:Hid (LaidS W))=>tg12_is (O:=ordL S) W h1 h2 (by omega) (by decide) (Lib.hid hSb.l) (Lib.hid byts97.l) (Lib.hid rfl) h
 have T2:=fun (W:World) (va vb:Value) (h1:IsL W .u8 va (ordL S)) (h2:IsL W .u8 vb c.msg) (h:Hid (LaidS W))=>tg12_is (O:=cmdTag S c) W h1 h2 (by rw [ordL_len];decide) (by rw [hm];decide) (Lib.hid (ordL_byts S).l) (Lib.hid c.msg_byts.l) (Lib.hid rfl) h
 have OR:=fun (W:World) (h:Hid (LaidS W))=>ord_is hS hSb W h;have SB:=fun (W:World) (v1 v2:Value) (h1:IsL W .u8 v1 c.msg) (h2:IsL W .u8 v2 c.msg)=>sameb_tt W h1 h2
 have EO:=fun W=>tp_eqd (ordL_len S) (ordL_len S) (b:=true) ⟨fun _=>rfl,fun _=>rfl⟩ W;have EG:=fun W=>tp_eqd (cmdTag_len S c) c.hg (b:=b) hb W
 have NW:=fun W=>pnew_is W;have P1:=fun (W:World) (u:Value) (h:IsD W u [] [])=>pcmd_is c (by simp) (tp_put_c c hc) W h;have A1:=fun (W:World) (u:Value) (h:IsD W u [] [c])=>pacp_is (Frm.cmd c) (by simp) (tp_acp_c c hc) W h;have A2:=fun (W:World) (u:Value) (h:IsD W u [] [c])=>pacp_is (Frm.cmd (tpo c)) (by simp) (tp_acp_n c (tpo c) hc (tpo_ok hc) (tpo_ne c)) W h
 have BF:=fun W=>tp_mc c W;have BG:=fun W=>tp_mc (tpo c) W;have c15:=tpc_15 c;have E3:=Lib.hid (tpc_set c);have DG:=Lib.hid (tpc_drop c);have n3:=Lib.hid (ccell_len c)
 have KS:=Lib.hid (fun (W:World) (b:Nat) (h:Box W b (S.map (Value.int .u8)))=>IsL.boxed 32 hS h (by omega));have KO:=Lib.hid (fun (W:World) (b:Nat) (h:Box W b ((ordL S).map (Value.int .u8)))=>IsL.boxed 32 (ordL_len S) h (by omega))
 have SS:=Lib.hid (size_dig hS);have LS:=Lib.hid (len_dig hS);have OS:=Lib.hid (oneCell_ints (k:=.u8) S)
 have SO:=Lib.hid (size_dig (ordL_len S));have LO:=Lib.hid (len_dig (ordL_len S));have OO:=Lib.hid (oneCell_ints (k:=.u8) (ordL S))
 have SG:=Lib.hid (size_dig (cmdTag_len S c));have LG:=Lib.hid (len_dig (cmdTag_len S c));have OG:=Lib.hid (oneCell_ints (k:=.u8) (cmdTag S c))
 have SX:=Lib.hid (size_dig c.hg)
 have SQ:=Lib.hid (size_cmd c);have LQ:=Lib.hid (len_cmd Cmd.zero c);have OQ:=Lib.hid (one_cmd c)
 have SY:=Lib.hid (size_cmd (tpo c));have SI:=Lib.hid size_i0;have OI:=Lib.hid one_i0;have HM:=Lib.hid hm
 obtain ⟨x0,hx0⟩:∃ X,nth c.g 0=X:=⟨_,rfl⟩;rw [hx0] at c15 E3;clear hx0
 obtain ⟨UO,hUO⟩:∃ X,(ordL S).map (Value.int .u8)=X:=⟨_,rfl⟩
 rw [hUO] at T1 OR EO KO SO LO OO
 clear hUO
 obtain ⟨UG,hUG⟩:∃ X,(cmdTag S c).map (Value.int .u8)=X:=⟨_,rfl⟩
 rw [hUG] at T2 EG SG LG OG
 clear hUG
 obtain ⟨UX,hUX⟩:∃ X,c.g.map (Value.int .u8)=X:=⟨_,rfl⟩
 rw [hUX] at EG DG SX
 clear hUX
 obtain ⟨FC,hFC⟩:∃ X,mcell (Frm.cmd c)=X:=⟨_,rfl⟩
 rw [hFC] at BF A1
 clear hFC
 obtain ⟨FD,hFD⟩:∃ X,mcell (Frm.cmd (tpo c))=X:=⟨_,rfl⟩
 rw [hFD] at BG A2
 clear hFD
 obtain ⟨CY,hCY⟩:∃ X,ccell (tpo c)=X:=⟨_,rfl⟩
 rw [hCY] at BG E3 SY
 clear hCY
 obtain ⟨CC,hCC⟩:∃ X,ccell c=X:=⟨_,rfl⟩
 rw [hCC] at BE P1 BF c15 E3 DG n3 SQ LQ OQ ⊢
 clear hCC
 obtain ⟨M,hM⟩:∃ X,c.msg=X:=⟨_,rfl⟩
 rw [hM] at S1 BE T2 SB HM
 clear hM
 obtain ⟨US,hUS⟩:∃ X,S.map (Value.int .u8)=X:=⟨_,rfl⟩
 rw [hUS] at OR KS SS ⊢
 clear hUS
 obtain ⟨O1,hO1⟩:∃ X,ordL S=X:=⟨_,rfl⟩;rw [hO1] at KO T2;clear hO1
 have i3:=HM.out;clear hm hl hSb hS hb
 go_enter Tryz.func10,Tryz.ntmps10
 go_upto_region 1 with fail
 refine F_gen (F:=fun W=>Code.wp _ _ _ _ W) (J:=fun W=>Box W (w.heap.size) (US)∧Box W (w.heap.size + 1) (CC)∧Below w.heap.size w W) (And.intro (Box.alloc (Box.newc rfl rfl) _) (And.intro (Box.newc rfl (by simp)) (by go_grown))) ?_
 intro w0 ⟨e_s,e_c,hB0⟩
 have hs0:=hB0.size
 have x_s0:=e_s;clear e_s
 have x_c0:=e_c;clear e_c
 have J_b0:Hid (IsL w0 .u8 (.slice (some ⟨bb,off,none⟩) 56 c0) M):=Lib.hid (S1.out.below hB0)
 clear S1
 go_wp2_with (refine wpList_load_box9 rfl _ _ rfl x_c0 rfl Tryz.underlying35 rfl SQ.out ?_)
 refine (BE _).mono ?_
 rintro e w1 ⟨vm,rfl,hom,hb⟩
 have hB1:Below w.heap.size w w1:=below_thru hB0 hb
 have hs1:=hB1.size
 have x_s1:Box w1 (w.heap.size) (US):=Box.below x_s0 hb
 have x_c1:Box w1 (w.heap.size + 1) (CC):=Box.below x_c0 hb
 have J_b1:Hid (IsL w1 .u8 (.slice (some ⟨bb,off,none⟩) 56 c0) M):=Lib.hid (IsL.below J_b0.out hb)
 clear hB0 hs0 x_s0 x_c0 J_b0
 clear hb
 obtain ⟨am,cm,rfl,_⟩:=id hom
 have J_m1:Hid (IsL w1 .u8 (.slice am 56 cm) M):=Lib.hid (by have:=hom;rwa [HM.out] at this)
 clear hom
 have LB:IsL (w1.alloc (.cells #[.int .u8 97] 5)) .u8 (.slice (some ⟨w1.heap.size,0,none⟩) 1 1) [97]:=IsL.built [97] rfl rfl rfl rfl (by simp)
 go_wp2_with fail
 refine (T1 _ _ _ (KS.out _ _ (Box.alloc x_s1 _)) LB (Lib.hid (hL.out.below (hB1.alloc hs1 _)))).mono ?_
 rintro e w2 ⟨rfl,hb⟩
 have hN:Below w1.heap.size w1 w2:=below_thru ((Below.refl _ _).alloc (Nat.le_refl _) _) hb
 clear hb LB
 have hB2:Below w.heap.size w w2:=below_thru hB1 hN
 have hs2:=hB2.size
 have x_s2:Box w2 (w.heap.size) (US):=Box.below x_s1 hN
 have x_c2:Box w2 (w.heap.size + 1) (CC):=Box.below x_c1 hN
 have J_b2:Hid (IsL w2 .u8 (.slice (some ⟨bb,off,none⟩) 56 c0) M):=Lib.hid (IsL.below J_b1.out hN)
 have J_m2:Hid (IsL w2 .u8 (.slice am 56 cm) M):=Lib.hid (IsL.below J_m1.out hN)
 clear hB1 hs1 x_s1 x_c1 J_b1 J_m1
 clear hN
 have d_k_s:=(x_s2).lt
 have d_k_c:=(x_c2).lt
 have d_k_0:=hs2
 go_upto_region 3 with (refine wpList_store_box (cs:=UO) rfl _ _ _ rfl (Box.newc (l:=zero32) rfl rfl) rfl rfl SO.out LO.out OO.out ?_;intro W2_0 hW2_0)
 have hN:Below w2.heap.size w2 W2_0:=(hW2_0.below _ _ (by omega) ((Below.refl _ w2).alloc (Nat.le_refl _) _))
 have x_k3:Box W2_0 (w2.heap.size) (UO):=hW2_0.box
 have hB3:Below w.heap.size w W2_0:=below_thru hB2 hN
 have hs3:=hB3.size
 have x_s3:Box W2_0 (w.heap.size) (US):=Box.below x_s2 hN
 have x_c3:Box W2_0 (w.heap.size + 1) (CC):=Box.below x_c2 hN
 have J_b3:Hid (IsL W2_0 .u8 (.slice (some ⟨bb,off,none⟩) 56 c0) M):=Lib.hid (IsL.below J_b2.out hN)
 have J_m3:Hid (IsL W2_0 .u8 (.slice am 56 cm) M):=Lib.hid (IsL.below J_m2.out hN)
 clear hB2 hs2 x_s2 x_c2 J_b2 J_m2
 clear hN hW2_0
 go_wp2_with fail
 refine (T2 _ _ _ (KO.out _ _ x_k3) J_m3.out (Lib.hid (hL.out.below hB3))).mono ?_
 rintro e w4 ⟨rfl,hb⟩
 have hB4:Below w.heap.size w w4:=below_thru hB3 hb
 have hs4:=hB4.size
 have x_s4:Box w4 (w.heap.size) (US):=Box.below x_s3 hb
 have x_c4:Box w4 (w.heap.size + 1) (CC):=Box.below x_c3 hb
 have x_k4:Box w4 (w2.heap.size) (UO):=Box.below x_k3 hb
 have J_b4:Hid (IsL w4 .u8 (.slice (some ⟨bb,off,none⟩) 56 c0) M):=Lib.hid (IsL.below J_b3.out hb)
 have J_m4:Hid (IsL w4 .u8 (.slice am 56 cm) M):=Lib.hid (IsL.below J_m3.out hb)
 clear hB3 hs3 x_s3 x_c3 x_k3 J_b3 J_m3
 clear hb
 have d_g_s:=(x_s4).lt
 have d_g_c:=(x_c4).lt
 have d_g_k:=(x_k4).lt
 have d_g_0:=hs4
 go_upto_region 4 with (refine wpList_store_box (cs:=UG) rfl _ _ _ rfl (Box.newc (l:=zero32) rfl rfl) rfl rfl SG.out LG.out OG.out ?_;intro W4_0 hW4_0)
 have hN:Below w4.heap.size w4 W4_0:=(hW4_0.below _ _ (by omega) ((Below.refl _ w4).alloc (Nat.le_refl _) _))
 have x_g5:Box W4_0 (w4.heap.size) (UG):=hW4_0.box
 have hB5:Below w.heap.size w W4_0:=below_thru hB4 hN
 have hs5:=hB5.size
 have x_s5:Box W4_0 (w.heap.size) (US):=Box.below x_s4 hN
 have x_c5:Box W4_0 (w.heap.size + 1) (CC):=Box.below x_c4 hN
 have x_k5:Box W4_0 (w2.heap.size) (UO):=Box.below x_k4 hN
 have J_b5:Hid (IsL W4_0 .u8 (.slice (some ⟨bb,off,none⟩) 56 c0) M):=Lib.hid (IsL.below J_b4.out hN)
 have J_m5:Hid (IsL W4_0 .u8 (.slice am 56 cm) M):=Lib.hid (IsL.below J_m4.out hN)
 clear hB4 hs4 x_s4 x_c4 x_k4 J_b4 J_m4
 clear hN hW4_0
 have rm:56≤cm∧cm≤9223372036854775807:=by have:=J_m5.out.room;have:=HM.out;omega
 have rm1:=rm.1;have rm2:=rm.2;clear rm
 refine wp_region_held_drew (S:=fun W=>Box W (w.heap.size) (US)∧Box W (w.heap.size + 1) (CC)∧Box W (w2.heap.size) (UO)∧Box W (w4.heap.size) (UG)) (by kernel_rfl) (And.intro (x_s5).drew (And.intro (x_c5).drew (And.intro (x_k5).drew (x_g5).drew))) (fun _=>?_)
 refine F_drew (F:=fun W=>wpAnyH _ _ _ _ _ _ _ _ W) ?_
 intro Wr0 hbr0
 clear hs5
 have x_s_r0:Box Wr0 (w.heap.size) (US):=Box.below x_s5 hbr0
 have x_c_r0:Box Wr0 (w.heap.size + 1) (CC):=Box.below x_c5 hbr0
 have x_k_r0:Box Wr0 (w2.heap.size) (UO):=Box.below x_k5 hbr0
 have x_g_r0:Box Wr0 (w4.heap.size) (UG):=Box.below x_g5 hbr0
 have j_b_r0:=Lib.hid (IsL.below J_b5.out hbr0)
 have j_m_r0:=Lib.hid (IsL.below J_m5.out hbr0)
 have Br0:=below_thru hB5 hbr0
 clear x_s5 x_c5 x_k5 x_g5 J_b5 J_m5 hB5 hbr0
 refine takeH 0 38 (v:=?vr0_1) rfl (by rfl) (by kernel_rfl) (by kernel_rfl) (by kernel_rfl) (fun _ _ _ h=>h) (Or.inl ⟨by rfl,?_⟩) ((And.intro x_s_r0 (And.intro x_c_r0 (And.intro x_k_r0 x_g_r0)))) ?_
 rotate_left
 · intro wq hSq
   go_simp
   exact rfl
 try simp only [Act.put,qzA,qz0,qzS]
 refine takeH 1 39 (v:=?vr1_2) rfl (by rfl) (by kernel_rfl) (by kernel_rfl) (by kernel_rfl) (fun _ _ _ h=>h) (Or.inl ⟨by rfl,?_⟩) ((And.intro x_s_r0 (And.intro x_c_r0 (And.intro x_k_r0 x_g_r0)))) ?_
 rotate_left
 · intro wq hSq
   go_simp
   exact rfl
 try simp only [Act.put,qzA,qz0,qzS]
 refine takeH 2 40 (v:=?vr2_3) rfl (by rfl) (by kernel_rfl) (by kernel_rfl) (by kernel_rfl) (fun _ _ _ h=>h) (Or.inl ⟨by rfl,?_⟩) ((And.intro x_s_r0 (And.intro x_c_r0 (And.intro x_k_r0 x_g_r0)))) ?_
 rotate_left
 · intro wq hSq
   go_simp
   exact rfl
 try simp only [Act.put,qzA,qz0,qzS]
 refine takeH 3 41 (v:=?vr3_4) rfl (by rfl) (by kernel_rfl) (by kernel_rfl) (by kernel_rfl) (fun _ _ _ h=>h) (Or.inl ⟨by rfl,?_⟩) ((And.intro x_s_r0 (And.intro x_c_r0 (And.intro x_k_r0 x_g_r0)))) ?_
 rotate_left
 · intro wq hSq
   go_simp
   exact rfl
 try simp only [Act.put,qzA,qz0,qzS]
 refine takeH 4 42 (v:=?vr4_5) rfl (by rfl) (by kernel_rfl) (by kernel_rfl) (by kernel_rfl) (fun _ _ _ h=>h) (Or.inl ⟨by rfl,?_⟩) ((And.intro x_s_r0 (And.intro x_c_r0 (And.intro x_k_r0 x_g_r0)))) ?_
 rotate_left
 · intro wq hSq
   go_simp
   exact rfl
 try simp only [Act.put,qzA,qz0,qzS]
 refine takeH 5 43 (v:=?vr5_6) rfl (by rfl) (by kernel_rfl) (by kernel_rfl) (by kernel_rfl) (fun _ _ _ h=>h) (Or.inl ⟨by rfl,?_⟩) ((And.intro x_s_r0 (And.intro x_c_r0 (And.intro x_k_r0 x_g_r0)))) ?_
 rotate_left
 · intro wq hSq
   go_simp
   exact rfl
 try simp only [Act.put,qzA,qz0,qzS]
 refine takeH 6 44 (v:=?vr6_7) rfl (by rfl) (by kernel_rfl) (by kernel_rfl) (by kernel_rfl) (fun _ _ _ h=>h) (Or.inl ⟨by rfl,?_⟩) ((And.intro x_s_r0 (And.intro x_c_r0 (And.intro x_k_r0 x_g_r0)))) ?_
 rotate_left
 · intro wq hSq
   go_simp
   exact rfl
 try simp only [Act.put,qzA,qz0,qzS]
 refine takeH 7 45 (v:=?vr7_8) rfl (by rfl) (by kernel_rfl) (by kernel_rfl) (by kernel_rfl) (fun _ _ _ h=>h) (Or.inl ⟨by rfl,?_⟩) ((And.intro x_s_r0 (And.intro x_c_r0 (And.intro x_k_r0 x_g_r0)))) ?_
 rotate_left
 · intro wq hSq
   go_simp
   exact rfl
 try simp only [Act.put,qzA,qz0,qzS]
 refine takeH 8 46 (v:=?vr8_9) rfl (by rfl) (by kernel_rfl) (by kernel_rfl) (by kernel_rfl) (fun _ _ _ h=>h) (Or.inl ⟨by rfl,?_⟩) ((And.intro x_s_r0 (And.intro x_c_r0 (And.intro x_k_r0 x_g_r0)))) ?_
 rotate_left
 · intro wq hSq
   go_simp
   exact rfl
 try simp only [Act.put,qzA,qz0,qzS]
 refine takeH 9 47 (v:=?vr9_10) rfl (by rfl) (by kernel_rfl) (by kernel_rfl) (by kernel_rfl) (fun _ _ _ h=>h) (Or.inl ⟨by rfl,?_⟩) ((And.intro x_s_r0 (And.intro x_c_r0 (And.intro x_k_r0 x_g_r0)))) ?_
 rotate_left
 · intro wq hSq
   go_simp
   exact rfl
 try simp only [Act.put,qzA,qz0,qzS]
 refine takeH 10 48 (v:=?vr10_11) rfl (by rfl) (by kernel_rfl) (by kernel_rfl) (by kernel_rfl) (fun _ _ _ h=>h) (Or.inl ⟨by rfl,?_⟩) ((And.intro x_s_r0 (And.intro x_c_r0 (And.intro x_k_r0 x_g_r0)))) ?_
 rotate_left
 · intro wq hSq
   go_simp
   exact rfl
 try simp only [Act.put,qzA,qz0,qzS]
 refine takeH 11 49 (v:=?vr11_12) rfl (by rfl) (by kernel_rfl) (by kernel_rfl) (by kernel_rfl) (fun _ _ _ h=>h) (Or.inl ⟨by rfl,?_⟩) ((And.intro x_s_r0 (And.intro x_c_r0 (And.intro x_k_r0 x_g_r0)))) ?_
 rotate_left
 · intro wq hSq
   go_simp
   exact rfl
 try simp only [Act.put,qzA,qz0,qzS]
 refine takeH 12 50 (v:=?vr12_13) rfl (by rfl) (by kernel_rfl) (by kernel_rfl) (by kernel_rfl) (fun _ _ _ h=>h) (Or.inl ⟨by rfl,?_⟩) ((And.intro x_s_r0 (And.intro x_c_r0 (And.intro x_k_r0 x_g_r0)))) ?_
 rotate_left
 · intro wq hSq
   go_simp
   exact rfl
 try simp only [Act.put,qzA,qz0,qzS]
 refine takeH 13 51 (v:=?vr13_14) rfl (by rfl) (by kernel_rfl) (by kernel_rfl) (by kernel_rfl) (fun _ _ _ h=>h) (Or.inl ⟨by rfl,?_⟩) ((And.intro x_s_r0 (And.intro x_c_r0 (And.intro x_k_r0 x_g_r0)))) ?_
 rotate_left
 · intro wq hSq
   go_simp
   exact rfl
 try simp only [Act.put,qzA,qz0,qzS]
 refine takeH 14 52 (v:=?vr14_15) rfl (by rfl) (by kernel_rfl) (by kernel_rfl) (by kernel_rfl) (fun _ _ _ h=>h) (Or.inl ⟨by rfl,?_⟩) ((And.intro x_s_r0 (And.intro x_c_r0 (And.intro x_k_r0 x_g_r0)))) ?_
 rotate_left
 · intro wq hSq
   go_simp
   exact rfl
 try simp only [Act.put,qzA,qz0,qzS]
 refine takeH 15 53 (v:=?vr15_16) rfl (by rfl) (by kernel_rfl) (by kernel_rfl) (by kernel_rfl) (fun _ _ _ h=>h) (Or.inl ⟨by rfl,?_⟩) ((And.intro x_s_r0 (And.intro x_c_r0 (And.intro x_k_r0 x_g_r0)))) ?_
 rotate_left
 · intro wq hSq
   go_simp
   exact rfl
 try simp only [Act.put,qzA,qz0,qzS]
 refine takeH 16 54 (v:=?vr16_17) rfl (by rfl) (by kernel_rfl) (by kernel_rfl) (by kernel_rfl) (fun _ _ _ h=>h) (Or.inl ⟨by rfl,?_⟩) ((And.intro x_s_r0 (And.intro x_c_r0 (And.intro x_k_r0 x_g_r0)))) ?_
 rotate_left
 · intro wq hSq
   go_simp
   exact rfl
 try simp only [Act.put,qzA,qz0,qzS]
 refine takeH 17 55 (v:=?vr17_18) rfl (by rfl) (by kernel_rfl) (by kernel_rfl) (by kernel_rfl) (fun _ _ _ h=>h) (Or.inl ⟨by rfl,?_⟩) ((And.intro x_s_r0 (And.intro x_c_r0 (And.intro x_k_r0 x_g_r0)))) ?_
 rotate_left
 · intro wq hSq
   go_simp
   exact rfl
 try simp only [Act.put,qzA,qz0,qzS]
 refine takeH 18 56 (v:=?vr18_19) rfl (by rfl) (by kernel_rfl) (by kernel_rfl) (by kernel_rfl) (fun _ _ _ h=>h) (Or.inl ⟨by rfl,?_⟩) ((And.intro x_s_r0 (And.intro x_c_r0 (And.intro x_k_r0 x_g_r0)))) ?_
 rotate_left
 · intro wq hSq
   go_simp
   exact rfl
 try simp only [Act.put,qzA,qz0,qzS]
 refine takeH 19 57 (v:=?vr19_20) rfl (by rfl) (by kernel_rfl) (by kernel_rfl) (by kernel_rfl) (fun _ _ _ h=>h) (Or.inl ⟨by rfl,?_⟩) ((And.intro x_s_r0 (And.intro x_c_r0 (And.intro x_k_r0 x_g_r0)))) ?_
 rotate_left
 · intro wq hSq
   go_simp
   exact rfl
 try simp only [Act.put,qzA,qz0,qzS]
 refine takeH 20 58 (v:=?vr20_21) rfl (by rfl) (by kernel_rfl) (by kernel_rfl) (by kernel_rfl) (fun _ _ _ h=>h) (Or.inl ⟨by rfl,?_⟩) ((And.intro x_s_r0 (And.intro x_c_r0 (And.intro x_k_r0 x_g_r0)))) ?_
 rotate_left
 · intro wq hSq
   go_simp
   exact rfl
 try simp only [Act.put,qzA,qz0,qzS]
 refine takeH 21 59 (v:=?vr21_22) rfl (by rfl) (by kernel_rfl) (by kernel_rfl) (by kernel_rfl) (fun _ _ _ h=>h) (Or.inl ⟨by rfl,?_⟩) ((And.intro x_s_r0 (And.intro x_c_r0 (And.intro x_k_r0 x_g_r0)))) ?_
 rotate_left
 · intro wq hSq
   go_simp
   exact rfl
 try simp only [Act.put,qzA,qz0,qzS]
 refine takeH 22 60 (v:=?vr22_23) rfl (by rfl) (by kernel_rfl) (by kernel_rfl) (by kernel_rfl) (fun _ _ _ h=>h) (Or.inl ⟨by rfl,?_⟩) ((And.intro x_s_r0 (And.intro x_c_r0 (And.intro x_k_r0 x_g_r0)))) ?_
 rotate_left
 · intro wq hSq
   go_simp
   exact rfl
 try simp only [Act.put,qzA,qz0,qzS]
 refine takeH 23 61 (v:=?vr23_24) rfl (by rfl) (by kernel_rfl) (by kernel_rfl) (by kernel_rfl) (fun _ _ _ h=>h) (Or.inl ⟨by rfl,?_⟩) ((And.intro x_s_r0 (And.intro x_c_r0 (And.intro x_k_r0 x_g_r0)))) ?_
 rotate_left
 · intro wq hSq
   go_simp
   exact rfl
 try simp only [Act.put,qzA,qz0,qzS]
 refine wpAnyH_ready (rs:=[24]) (by kernel_rfl) (by simp) (AllReadyH.cons rfl (fun K hK=>?_) AllReadyH.nil)
 go_simp
 refine (SB _ _ _ j_b_r0.out j_m_r0.out).mono ?_
 rintro e Wr25 ⟨rfl,hbr25⟩
 have x_s_r25:Box Wr25 (w.heap.size) (US):=Box.below x_s_r0 hbr25
 have x_c_r25:Box Wr25 (w.heap.size + 1) (CC):=Box.below x_c_r0 hbr25
 have x_k_r25:Box Wr25 (w2.heap.size) (UO):=Box.below x_k_r0 hbr25
 have x_g_r25:Box Wr25 (w4.heap.size) (UG):=Box.below x_g_r0 hbr25
 have j_b_r25:=Lib.hid (IsL.below j_b_r0.out hbr25)
 have j_m_r25:=Lib.hid (IsL.below j_m_r0.out hbr25)
 have Br25:=below_thru Br0 hbr25
 clear x_s_r0 x_c_r0 x_k_r0 x_g_r0 j_b_r0 j_m_r0 Br0 hbr25
 refine hK.out _ _ (And.intro x_s_r25 (And.intro x_c_r25 (And.intro x_k_r25 x_g_r25))) (fun _=>?_);clear hK K
 refine takeH 25 63 (v:=?vr25_26) rfl (by rfl) (by kernel_rfl) (by kernel_rfl) (by kernel_rfl) (fun _ _ _ h=>h) (Or.inl ⟨by rfl,?_⟩) ((And.intro x_s_r25 (And.intro x_c_r25 (And.intro x_k_r25 x_g_r25)))) ?_
 rotate_left
 · intro wq hSq
   go_simp
   exact rfl
 try simp only [Act.put,qzA,qz0,qzS]
 refine takeH 26 64 (v:=?vr26_27) rfl (by rfl) (by kernel_rfl) (by kernel_rfl) (by kernel_rfl) (fun _ _ _ h=>h) (Or.inl ⟨by rfl,?_⟩) ((And.intro x_s_r25 (And.intro x_c_r25 (And.intro x_k_r25 x_g_r25)))) ?_
 rotate_left
 · intro wq hSq
   go_simp
   exact rfl
 try simp only [Act.put,qzA,qz0,qzS]
 refine takeH 27 65 (v:=?vr27_28) rfl (by rfl) (by kernel_rfl) (by kernel_rfl) (by kernel_rfl) (fun _ _ _ h=>h) (Or.inl ⟨by rfl,?_⟩) ((And.intro x_s_r25 (And.intro x_c_r25 (And.intro x_k_r25 x_g_r25)))) ?_
 rotate_left
 · intro wq hSq
   go_simp
   exact rfl
 try simp only [Act.put,qzA,qz0,qzS]
 refine takeH 28 66 (v:=.agg (UO).toArray) rfl (by rfl) (by kernel_rfl) (by kernel_rfl) (by kernel_rfl) (fun _ _ _ h=>h) (yieldsIf_load_mid (by rfl) _ _ rfl _ _ rfl (UO) _ (fun wq hq=>Box.range (hq.2.2.1)) Tryz.underlying23 rfl SO.out) ((And.intro x_s_r25 (And.intro x_c_r25 (And.intro x_k_r25 x_g_r25)))) ?_
 try simp only [Act.put,qzA,qz0,qzS]
 refine takeH 29 67 (v:=.agg (US).toArray) rfl (by rfl) (by kernel_rfl) (by kernel_rfl) (by kernel_rfl) (fun _ _ _ h=>h) (yieldsIf_load_mid (by rfl) _ _ rfl _ _ rfl (US) _ (fun wq hq=>Box.range (hq.1)) Tryz.underlying23 rfl SS.out) ((And.intro x_s_r25 (And.intro x_c_r25 (And.intro x_k_r25 x_g_r25)))) ?_
 try simp only [Act.put,qzA,qz0,qzS]
 refine wpAnyH_ready (rs:=[30]) (by kernel_rfl) (by simp) (AllReadyH.cons rfl (fun K hK=>?_) AllReadyH.nil)
 go_simp
 refine (OR _ (Lib.hid (hL.out.below Br25))).mono ?_
 rintro e Wr29 ⟨rfl,hbr29⟩
 have x_s_r29:Box Wr29 (w.heap.size) (US):=Box.below x_s_r25 hbr29
 have x_c_r29:Box Wr29 (w.heap.size + 1) (CC):=Box.below x_c_r25 hbr29
 have x_k_r29:Box Wr29 (w2.heap.size) (UO):=Box.below x_k_r25 hbr29
 have x_g_r29:Box Wr29 (w4.heap.size) (UG):=Box.below x_g_r25 hbr29
 have j_b_r29:=Lib.hid (IsL.below j_b_r25.out hbr29)
 have j_m_r29:=Lib.hid (IsL.below j_m_r25.out hbr29)
 have Br29:=below_thru Br25 hbr29
 clear x_s_r25 x_c_r25 x_k_r25 x_g_r25 j_b_r25 j_m_r25 Br25 hbr29
 refine hK.out _ _ (And.intro x_s_r29 (And.intro x_c_r29 (And.intro x_k_r29 x_g_r29))) (fun _=>?_);clear hK K
 refine takeH 31 69 (v:=?vr31_30) rfl (by rfl) (by kernel_rfl) (by kernel_rfl) (by kernel_rfl) (fun _ _ _ h=>h) (Or.inl ⟨by rfl,?_⟩) ((And.intro x_s_r29 (And.intro x_c_r29 (And.intro x_k_r29 x_g_r29)))) ?_
 rotate_left
 · intro wq hSq
   go_simp
   exact rfl
 try simp only [Act.put,qzA,qz0,qzS]
 refine takeH 32 70 (v:=?vr32_31) rfl (by rfl) (by kernel_rfl) (by kernel_rfl) (by kernel_rfl) (fun _ _ _ h=>h) (Or.inl ⟨by rfl,?_⟩) ((And.intro x_s_r29 (And.intro x_c_r29 (And.intro x_k_r29 x_g_r29)))) ?_
 rotate_left
 · intro wq hSq
   go_simp
   exact rfl
 try simp only [Act.put,qzA,qz0,qzS]
 refine wpAnyH_done (by kernel_rfl) ?_ _
 have hB6:=Br29;have hs6:=hB6.size
 have x_s6:=x_s_r29
 have x_c6:=x_c_r29
 have x_k6:=x_k_r29
 have x_g6:=x_g_r29
 have J_b6:=j_b_r29
 have J_m6:=j_m_r29
 clear Br29 x_s_r29 x_c_r29 x_k_r29 x_g_r29 j_b_r29 j_m_r29
 clear rm1 rm2
 clear J_b6
 clear J_m6
 clear x_s6
 have hbb:(b != b)=false:=bne_self_eq_false b
 go_upto_region 8 with (first | (refine wpList_load_box9 rfl _ _ rfl x_g6 rfl Tryz.underlying23 rfl SG.out ?_) | (refine wpList_load_rangew rfl _ _ rfl (Box.rangeMid x_c6 15 (UX) ([]) DG.out) rfl Tryz.underlying23 rfl SX.out ?_))
 clear x_g6
 clear x_k6
 go_cut [15,16] (fun p q wx=>∃ (bD:Nat) (a b:Value),p=.pointer (some ⟨bD,0,none⟩)∧q=.int .i64 0∧w.heap.size + 1 < bD∧Box wx (w.heap.size + 1) CC∧Box wx bD [a,b]∧Hid (IsD wx (.agg #[a,b]) [] [c])∧Hid (∀ (U U':World) (us:List Value),Below wx.heap.size wx U→Stored U (w.heap.size + 1) us U'→IsD U' (.agg #[a,b]) [] [c])∧Below w.heap.size w wx)
 case first =>
   refine wp_region_held_drew (S:=fun W=>Box W (w.heap.size + 1) (CC)) (by kernel_rfl) (x_c6).drew (fun _=>?_)
   refine F_drew (F:=fun W=>wpAnyH _ _ _ _ _ _ _ _ W) ?_
   intro Ws0 hbs0
   clear hs6
   have x_c_s0:Box Ws0 (w.heap.size + 1) (CC):=Box.below x_c6 hbs0
   have Bs0:=below_thru hB6 hbs0
   clear x_c6 hB6 hbs0
   refine takeH 1 79 (v:=.agg (CC).toArray) rfl (by rfl) (by kernel_rfl) (by kernel_rfl) (by kernel_rfl) (fun _ _ _ h=>h) (yieldsIf_load_mid (by rfl) _ _ rfl _ _ rfl (CC) _ (fun wq hq=>Box.range (hq)) Tryz.underlying35 rfl SQ.out) (x_c_s0) ?_
   try simp only [Act.put,qzA,qz0,qzS]
   refine wpAnyH_ready (rs:=[0,6]) (by kernel_rfl) (by simp) (AllReadyH.cons rfl (fun K hK=>?_) (AllReadyH.cons rfl (fun K hK=>?_) AllReadyH.nil))
   · skip
     go_simp
     refine (NW _).mono ?_
     rintro e Ws1 ⟨n1,n2,rfl,on1,on2,hbs1⟩
     have IN:IsD Ws1 (.agg #[n1,n2]) [] []:=⟨_,_,rfl,IsR.own on1 rfl rfl,IsR.own on2 rfl rfl⟩
     clear on1 on2
     have x_c_s1:Box Ws1 (w.heap.size + 1) (CC):=Box.below x_c_s0 hbs1
     have Bs1:=below_thru Bs0 hbs1
     clear x_c_s0 Bs0 hbs1
     have KN1:Below Ws1.heap.size Ws1 Ws1:=Below.refl _ _
     refine hK.out _ _ x_c_s1 (fun _=>?_);clear hK K
     refine wpAnyH_ready (rs:=[2,6]) (by kernel_rfl) (by simp) (AllReadyH.cons rfl (fun K hK=>?_) (AllReadyH.cons rfl (fun K hK=>?_) AllReadyH.nil))
     · skip
       have zB1:=Below.size Bs1
       have zt_c:=(x_c_s1).lt
       go_simp
       refine (P1 _ _ (IN.below KN1)).mono ?_
       rintro e Ws2 ⟨d1,d2,rfl,od1,od2,hbs2⟩
       have ID:IsD Ws2 (.agg #[d1,d2]) [] [c]:=⟨_,_,rfl,IsR.own od1 rfl rfl,IsR.own od2 rfl rfl⟩
       obtain ⟨pd1,nd1,rfl⟩:=own_slR od1;obtain ⟨pd2,nd2,rfl⟩:=own_slR od2;have OD1:=Lib.hid od1;have OD2:=Lib.hid od2;clear od1 od2;have OE1:=OD1;have OE2:=OD2
       have x_c_s2:Box Ws2 (w.heap.size + 1) (CC):=Box.below x_c_s1 hbs2
       have Bs2:=below_thru Bs1 hbs2
       have K_NEW_s2:=below_thru KN1 hbs2
       clear x_c_s1 Bs1 KN1 hbs2
       have KT2:Below Ws2.heap.size Ws2 Ws2:=Below.refl _ _
       refine hK.out _ _ x_c_s2 (fun _=>?_);clear hK K
       refine takeH 3 77 (v:=?vs3_3) rfl (by rfl) (by kernel_rfl) (by kernel_rfl) (by kernel_rfl) (fun _ _ _ h=>h) (Or.inl ⟨by rfl,?_⟩) (x_c_s2) ?_
       rotate_left
       · intro wq hSq
         go_simp
         exact rfl
       try simp only [Act.put,qzA,qz0,qzS]
       refine takeH 4 81 (v:=?vs4_4) rfl (by rfl) (by kernel_rfl) (by kernel_rfl) (by kernel_rfl) (fun _ _ _ h=>h) (Or.inl ⟨by rfl,?_⟩) (x_c_s2) ?_
       rotate_left
       · intro wq hSq
         go_simp
         exact rfl
       try simp only [Act.put,qzA,qz0,qzS]
       refine takeH 5 82 (v:=?vs5_5) rfl (by rfl) (by kernel_rfl) (by kernel_rfl) (by kernel_rfl) (fun _ _ _ h=>h) (Or.inl ⟨by rfl,?_⟩) (x_c_s2) ?_
       rotate_left
       · intro wq hSq
         go_simp
         exact rfl
       try simp only [Act.put,qzA,qz0,qzS]
       refine wpAnyH_ready (rs:=[6]) (by kernel_rfl) (by simp) (AllReadyH.cons rfl (fun K hK=>?_) AllReadyH.nil)
       go_simp
       refine hK.out _ _ (Box.alloc x_c_s2 _) (fun _=>?_);clear hK K
       have zz_c:=(x_c_s2).lt
       have zB:=Below.size Bs2
       have zK_NEW:=Below.size K_NEW_s2
       have zK_TOK:=Below.size KT2
       refine F_alloc (F:=fun W=>wpAnyH _ _ _ _ _ _ _ _ W) id0 rfl ?_
       intro Ws6 hS6 hbs6
       have x_c_s6:Box Ws6 (w.heap.size + 1) (CC):=Box.below x_c_s2 hbs6
       have o_d1_s6:=Lib.hid (ownR_below OD1.out hbs6)
       have o_d2_s6:=Lib.hid (ownR_below OD2.out hbs6)
       have Bs6:=below_thru Bs2 hbs6
       have K_NEW_s6:=below_thru K_NEW_s2 hbs6
       have K_TOK_s6:=below_thru KT2 hbs6
       clear x_c_s2 OD1 OD2 Bs2 K_NEW_s2 KT2 hbs6
       obtain ⟨bS,hbS⟩:∃ b,Ws2.heap.size=b:=⟨_,rfl⟩
       rw [hbS] at hS6 zB zz_c zK_NEW zK_TOK ⊢;have zE:=Nat.le_of_eq hbS;clear hbS
       refine wpAnyH_ready (rs:=[7]) (by kernel_rfl) (by simp) (AllReadyH.cons rfl (fun K hK=>?_) AllReadyH.nil)
       refine step_store_box0 (cs:=[.slice pd1 ([]:List Tk).length nd1,.slice pd2 ([c]:List Cmd).length nd2]) rfl rfl _ _ _ rfl hS6 rfl rfl (size_id12 _ _) rfl (one_id12 _ _ _ _ _ _) (fun Ws7 hW=>?_)
       have x_c_f:=hW.past _ _ (by omega) x_c_s6
       have Bf:=hW.below _ _ (by omega) Bs6;have Df:=hW.box
       have IDf:IsD Ws7 (.agg #[.slice pd1 ([]:List Tk).length nd1,.slice pd2 ([c]:List Cmd).length nd2]) [] [c]:=by
         first | exact ID.below (hW.below _ _ (by first | omega | (have:=Below.size K_TOK_s6;omega)) K_TOK_s6) | exact ⟨_,_,rfl,IsR.own (ownR_stored hW o_d1_s6.out (by omega)) rfl rfl,IsR.own (ownR_stored hW o_d2_s6.out (by omega)) rfl rfl⟩
       have F0:Ws7.ownsRow Ws1.heap.size 27 36 (.slice pd1 ([]:List Tk).length nd1) ([]:List Tk).length (flatR LT ([]:List Tk)):=by
         first | exact ownR_below OE1.out (hW.below _ _ (by first | omega | (have:=Below.size K_TOK_s6;omega)) K_TOK_s6) | exact ownR_stored hW o_d1_s6.out (by omega)
       have F1:Ws7.ownsRow Ws1.heap.size 35 47 (.slice pd2 ([c]:List Cmd).length nd2) ([c]:List Cmd).length (flatR LC ([c]:List Cmd)):=by
         first | exact ownR_below OE2.out (hW.below _ _ (by first | omega | (have:=Below.size K_TOK_s6;omega)) K_TOK_s6) | exact ownR_stored hW o_d2_s6.out (by omega)
       have AF:=Lib.hid (fun (U U':World) (us:List Value) (hu:Below Ws7.heap.size Ws7 U) (hs:Stored U (w.heap.size + 1) us U')=>(show IsD U' (.agg #[.slice pd1 ([]:List Tk).length nd1,.slice pd2 ([c]:List Cmd).length nd2]) ([]:List Tk) ([c]:List Cmd) from ⟨_,_,rfl,IsR.own (ownR_stored hs (ownR_below F0 hu) (by omega)) rfl rfl,IsR.own (ownR_stored hs (ownR_below F1 hu) (by omega)) rfl rfl⟩));clear F0 F1
       refine hK.out _ _ x_c_f (fun _=>?_);clear hK
       refine takeH 8 16 (v:=?vs8_8) rfl (by rfl) (by kernel_rfl) (by kernel_rfl) (by kernel_rfl) (fun _ _ _ h=>h) (Or.inl ⟨by rfl,?_⟩) (x_c_f) ?_
       rotate_left
       · intro wq hSq
         go_simp
         exact rfl
       try simp only [Act.put,qzA,qz0,qzS]
       refine wpAnyH_done (by kernel_rfl) ?_ _
       go_wp2_with fail
       go_meet
       exact ⟨bS,_,_,rfl,rfl,by omega,x_c_f,Df,Lib.hid IDf,AF,Bf⟩
     · skip
       go_simp
       refine hK.out _ _ (Box.alloc x_c_s1 _) (fun _=>?_);clear hK K
       have zz_c:=(x_c_s1).lt
       have zB:=Below.size Bs1
       have zK_NEW:=Below.size KN1
       refine F_alloc (F:=fun W=>wpAnyH _ _ _ _ _ _ _ _ W) id0 rfl ?_
       intro Ws9 hS9 hbs9
       have x_c_s9:Box Ws9 (w.heap.size + 1) (CC):=Box.below x_c_s1 hbs9
       have Bs9:=below_thru Bs1 hbs9
       have K_NEW_s9:=below_thru KN1 hbs9
       clear x_c_s1 Bs1 KN1 hbs9
       obtain ⟨bS,hbS⟩:∃ b,Ws1.heap.size=b:=⟨_,rfl⟩
       rw [hbS] at hS9 zB zz_c zK_NEW ⊢;have zE:=Nat.le_of_eq hbS;clear hbS
       refine wpAnyH_ready (rs:=[2]) (by kernel_rfl) (by simp) (AllReadyH.cons rfl (fun K hK=>?_) AllReadyH.nil)
       have zB1:=Below.size Bs9
       have zt_c:=(x_c_s9).lt
       have zdT:=(hS9).lt
       go_simp
       refine (P1 _ _ (IN.below K_NEW_s9)).mono ?_
       rintro e Ws10 ⟨d1,d2,rfl,od1,od2,hbs10⟩
       have ID:IsD Ws10 (.agg #[d1,d2]) [] [c]:=⟨_,_,rfl,IsR.own od1 rfl rfl,IsR.own od2 rfl rfl⟩
       obtain ⟨pd1,nd1,rfl⟩:=own_slR od1;obtain ⟨pd2,nd2,rfl⟩:=own_slR od2;have OD1:=Lib.hid od1;have OD2:=Lib.hid od2;clear od1 od2;have OE1:=OD1;have OE2:=OD2
       have x_c_s10:Box Ws10 (w.heap.size + 1) (CC):=Box.below x_c_s9 hbs10
       have z_d_s10:Box Ws10 (bS) (id0):=Box.below hS9 hbs10
       have Bs10:=below_thru Bs9 hbs10
       have K_NEW_s10:=below_thru K_NEW_s9 hbs10
       clear x_c_s9 hS9 Bs9 K_NEW_s9 hbs10
       have KT10:Below Ws10.heap.size Ws10 Ws10:=Below.refl _ _
       refine hK.out _ _ x_c_s10 (fun _=>?_);clear hK K
       refine takeH 3 77 (v:=?vs3_11) rfl (by rfl) (by kernel_rfl) (by kernel_rfl) (by kernel_rfl) (fun _ _ _ h=>h) (Or.inl ⟨by rfl,?_⟩) (x_c_s10) ?_
       rotate_left
       · intro wq hSq
         go_simp
         exact rfl
       try simp only [Act.put,qzA,qz0,qzS]
       refine takeH 4 81 (v:=?vs4_12) rfl (by rfl) (by kernel_rfl) (by kernel_rfl) (by kernel_rfl) (fun _ _ _ h=>h) (Or.inl ⟨by rfl,?_⟩) (x_c_s10) ?_
       rotate_left
       · intro wq hSq
         go_simp
         exact rfl
       try simp only [Act.put,qzA,qz0,qzS]
       refine takeH 5 82 (v:=?vs5_13) rfl (by rfl) (by kernel_rfl) (by kernel_rfl) (by kernel_rfl) (fun _ _ _ h=>h) (Or.inl ⟨by rfl,?_⟩) (x_c_s10) ?_
       rotate_left
       · intro wq hSq
         go_simp
         exact rfl
       try simp only [Act.put,qzA,qz0,qzS]
       refine wpAnyH_ready (rs:=[7]) (by kernel_rfl) (by simp) (AllReadyH.cons rfl (fun K hK=>?_) AllReadyH.nil)
       refine step_store_box0 (cs:=[.slice pd1 ([]:List Tk).length nd1,.slice pd2 ([c]:List Cmd).length nd2]) rfl rfl _ _ _ rfl z_d_s10 rfl rfl (size_id12 _ _) rfl (one_id12 _ _ _ _ _ _) (fun Ws14 hW=>?_)
       have x_c_f:=hW.past _ _ (by omega) x_c_s10
       have Bf:=hW.below _ _ (by omega) Bs10;have Df:=hW.box
       have IDf:IsD Ws14 (.agg #[.slice pd1 ([]:List Tk).length nd1,.slice pd2 ([c]:List Cmd).length nd2]) [] [c]:=by
         first | exact ID.below (hW.below _ _ (by first | omega | (have:=Below.size KT10;omega)) KT10) | exact ⟨_,_,rfl,IsR.own (ownR_stored hW OD1.out (by omega)) rfl rfl,IsR.own (ownR_stored hW OD2.out (by omega)) rfl rfl⟩
       have F0:Ws14.ownsRow Ws9.heap.size 27 36 (.slice pd1 ([]:List Tk).length nd1) ([]:List Tk).length (flatR LT ([]:List Tk)):=by
         first | exact ownR_below OE1.out (hW.below _ _ (by first | omega | (have:=Below.size KT10;omega)) KT10) | exact ownR_stored hW OD1.out (by omega)
       have F1:Ws14.ownsRow Ws9.heap.size 35 47 (.slice pd2 ([c]:List Cmd).length nd2) ([c]:List Cmd).length (flatR LC ([c]:List Cmd)):=by
         first | exact ownR_below OE2.out (hW.below _ _ (by first | omega | (have:=Below.size KT10;omega)) KT10) | exact ownR_stored hW OD2.out (by omega)
       have AF:=Lib.hid (fun (U U':World) (us:List Value) (hu:Below Ws14.heap.size Ws14 U) (hs:Stored U (w.heap.size + 1) us U')=>(show IsD U' (.agg #[.slice pd1 ([]:List Tk).length nd1,.slice pd2 ([c]:List Cmd).length nd2]) ([]:List Tk) ([c]:List Cmd) from ⟨_,_,rfl,IsR.own (ownR_stored hs (ownR_below F0 hu) (by omega)) rfl rfl,IsR.own (ownR_stored hs (ownR_below F1 hu) (by omega)) rfl rfl⟩));clear F0 F1
       refine hK.out _ _ x_c_f (fun _=>?_);clear hK
       refine takeH 8 16 (v:=?vs8_15) rfl (by rfl) (by kernel_rfl) (by kernel_rfl) (by kernel_rfl) (fun _ _ _ h=>h) (Or.inl ⟨by rfl,?_⟩) (x_c_f) ?_
       rotate_left
       · intro wq hSq
         go_simp
         exact rfl
       try simp only [Act.put,qzA,qz0,qzS]
       refine wpAnyH_done (by kernel_rfl) ?_ _
       go_wp2_with fail
       go_meet
       exact ⟨bS,_,_,rfl,rfl,by omega,x_c_f,Df,Lib.hid IDf,AF,Bf⟩
   · skip
     go_simp
     refine hK.out _ _ (Box.alloc x_c_s0 _) (fun _=>?_);clear hK K
     have zz_c:=(x_c_s0).lt
     have zB:=Below.size Bs0
     refine F_alloc (F:=fun W=>wpAnyH _ _ _ _ _ _ _ _ W) id0 rfl ?_
     intro Ws16 hS16 hbs16
     have x_c_s16:Box Ws16 (w.heap.size + 1) (CC):=Box.below x_c_s0 hbs16
     have Bs16:=below_thru Bs0 hbs16
     clear x_c_s0 Bs0 hbs16
     obtain ⟨bS,hbS⟩:∃ b,Ws0.heap.size=b:=⟨_,rfl⟩
     rw [hbS] at hS16 zB zz_c  ⊢;have zE:=Nat.le_of_eq hbS;clear hbS
     refine wpAnyH_ready (rs:=[0]) (by kernel_rfl) (by simp) (AllReadyH.cons rfl (fun K hK=>?_) AllReadyH.nil)
     go_simp
     refine (NW _).mono ?_
     rintro e Ws17 ⟨n1,n2,rfl,on1,on2,hbs17⟩
     have IN:IsD Ws17 (.agg #[n1,n2]) [] []:=⟨_,_,rfl,IsR.own on1 rfl rfl,IsR.own on2 rfl rfl⟩
     clear on1 on2
     have x_c_s17:Box Ws17 (w.heap.size + 1) (CC):=Box.below x_c_s16 hbs17
     have z_d_s17:Box Ws17 (bS) (id0):=Box.below hS16 hbs17
     have Bs17:=below_thru Bs16 hbs17
     clear x_c_s16 hS16 Bs16 hbs17
     have KN17:Below Ws17.heap.size Ws17 Ws17:=Below.refl _ _
     refine hK.out _ _ x_c_s17 (fun _=>?_);clear hK K
     refine wpAnyH_ready (rs:=[2]) (by kernel_rfl) (by simp) (AllReadyH.cons rfl (fun K hK=>?_) AllReadyH.nil)
     have zB1:=Below.size Bs17
     have zt_c:=(x_c_s17).lt
     have zdT:=(z_d_s17).lt
     go_simp
     refine (P1 _ _ (IN.below KN17)).mono ?_
     rintro e Ws18 ⟨d1,d2,rfl,od1,od2,hbs18⟩
     have ID:IsD Ws18 (.agg #[d1,d2]) [] [c]:=⟨_,_,rfl,IsR.own od1 rfl rfl,IsR.own od2 rfl rfl⟩
     obtain ⟨pd1,nd1,rfl⟩:=own_slR od1;obtain ⟨pd2,nd2,rfl⟩:=own_slR od2;have OD1:=Lib.hid od1;have OD2:=Lib.hid od2;clear od1 od2;have OE1:=OD1;have OE2:=OD2
     have x_c_s18:Box Ws18 (w.heap.size + 1) (CC):=Box.below x_c_s17 hbs18
     have z_d_s18:Box Ws18 (bS) (id0):=Box.below z_d_s17 hbs18
     have Bs18:=below_thru Bs17 hbs18
     have K_NEW_s18:=below_thru KN17 hbs18
     clear x_c_s17 z_d_s17 Bs17 KN17 hbs18
     have KT18:Below Ws18.heap.size Ws18 Ws18:=Below.refl _ _
     refine hK.out _ _ x_c_s18 (fun _=>?_);clear hK K
     refine takeH 3 77 (v:=?vs3_19) rfl (by rfl) (by kernel_rfl) (by kernel_rfl) (by kernel_rfl) (fun _ _ _ h=>h) (Or.inl ⟨by rfl,?_⟩) (x_c_s18) ?_
     rotate_left
     · intro wq hSq
       go_simp
       exact rfl
     try simp only [Act.put,qzA,qz0,qzS]
     refine takeH 4 81 (v:=?vs4_20) rfl (by rfl) (by kernel_rfl) (by kernel_rfl) (by kernel_rfl) (fun _ _ _ h=>h) (Or.inl ⟨by rfl,?_⟩) (x_c_s18) ?_
     rotate_left
     · intro wq hSq
       go_simp
       exact rfl
     try simp only [Act.put,qzA,qz0,qzS]
     refine takeH 5 82 (v:=?vs5_21) rfl (by rfl) (by kernel_rfl) (by kernel_rfl) (by kernel_rfl) (fun _ _ _ h=>h) (Or.inl ⟨by rfl,?_⟩) (x_c_s18) ?_
     rotate_left
     · intro wq hSq
       go_simp
       exact rfl
     try simp only [Act.put,qzA,qz0,qzS]
     refine wpAnyH_ready (rs:=[7]) (by kernel_rfl) (by simp) (AllReadyH.cons rfl (fun K hK=>?_) AllReadyH.nil)
     refine step_store_box0 (cs:=[.slice pd1 ([]:List Tk).length nd1,.slice pd2 ([c]:List Cmd).length nd2]) rfl rfl _ _ _ rfl z_d_s18 rfl rfl (size_id12 _ _) rfl (one_id12 _ _ _ _ _ _) (fun Ws22 hW=>?_)
     have x_c_f:=hW.past _ _ (by omega) x_c_s18
     have Bf:=hW.below _ _ (by omega) Bs18;have Df:=hW.box
     have IDf:IsD Ws22 (.agg #[.slice pd1 ([]:List Tk).length nd1,.slice pd2 ([c]:List Cmd).length nd2]) [] [c]:=by
       first | exact ID.below (hW.below _ _ (by first | omega | (have:=Below.size KT18;omega)) KT18) | exact ⟨_,_,rfl,IsR.own (ownR_stored hW OD1.out (by omega)) rfl rfl,IsR.own (ownR_stored hW OD2.out (by omega)) rfl rfl⟩
     have F0:Ws22.ownsRow Ws17.heap.size 27 36 (.slice pd1 ([]:List Tk).length nd1) ([]:List Tk).length (flatR LT ([]:List Tk)):=by
       first | exact ownR_below OE1.out (hW.below _ _ (by first | omega | (have:=Below.size KT18;omega)) KT18) | exact ownR_stored hW OD1.out (by omega)
     have F1:Ws22.ownsRow Ws17.heap.size 35 47 (.slice pd2 ([c]:List Cmd).length nd2) ([c]:List Cmd).length (flatR LC ([c]:List Cmd)):=by
       first | exact ownR_below OE2.out (hW.below _ _ (by first | omega | (have:=Below.size KT18;omega)) KT18) | exact ownR_stored hW OD2.out (by omega)
     have AF:=Lib.hid (fun (U U':World) (us:List Value) (hu:Below Ws22.heap.size Ws22 U) (hs:Stored U (w.heap.size + 1) us U')=>(show IsD U' (.agg #[.slice pd1 ([]:List Tk).length nd1,.slice pd2 ([c]:List Cmd).length nd2]) ([]:List Tk) ([c]:List Cmd) from ⟨_,_,rfl,IsR.own (ownR_stored hs (ownR_below F0 hu) (by omega)) rfl rfl,IsR.own (ownR_stored hs (ownR_below F1 hu) (by omega)) rfl rfl⟩));clear F0 F1
     refine hK.out _ _ x_c_f (fun _=>?_);clear hK
     refine takeH 8 16 (v:=?vs8_23) rfl (by rfl) (by kernel_rfl) (by kernel_rfl) (by kernel_rfl) (fun _ _ _ h=>h) (Or.inl ⟨by rfl,?_⟩) (x_c_f) ?_
     rotate_left
     · intro wq hSq
       go_simp
       exact rfl
     try simp only [Act.put,qzA,qz0,qzS]
     refine wpAnyH_done (by kernel_rfl) ?_ _
     go_wp2_with fail
     go_meet
     exact ⟨bS,_,_,rfl,rfl,by omega,x_c_f,Df,Lib.hid IDf,AF,Bf⟩
 case rest =>
   clear x_c6 hB6 hs6
   obtain ⟨bD,da,db,rfl,rfl,zD,y_c,y_d,ID,AF,y_B⟩:=hcut
   obtain ⟨W3,rfl⟩:∃ u:World,u=wc:=⟨_,rfl⟩
   have x_c7:Box W3 (w.heap.size + 1) CC:=y_c;have x_d7:Box W3 bD [da,db]:=y_d;have hB7:Below w.heap.size w W3:=y_B;have hs7:=hB7.size;clear y_c y_d y_B
   have K_W3_7:Below W3.heap.size W3 W3:=Below.refl _ _
   go_wp2_with (first
     | (refine wpList_load_box9 rfl _ _ rfl x_d7 rfl Tryz.underlying62 rfl (size_id12 _ _) ?_)
     | (refine wpList_load_box9 rfl _ _ rfl x_c7 rfl Tryz.underlying35 rfl SQ.out ?_)
     | (refine wpList_build9 rfl 37 _ rfl (us:=#[(0,.int .u8 2),(2,.agg CC.toArray)]) (by rfl) (BF _) ?_))
   refine (A1 _ _ (ID.out.below K_W3_7)).mono ?_
   rintro e w8 ⟨rfl,hb⟩
   have K_W3_8:Below W3.heap.size W3 w8:=below_thru K_W3_7 hb
   clear K_W3_7
   have hB8:Below w.heap.size w w8:=below_thru hB7 hb
   have hs8:=hB8.size
   have x_c8:Box w8 (w.heap.size + 1) (CC):=Box.below x_c7 hb
   have x_d8:Box w8 (bD) ([da,db]):=Box.below x_d7 hb
   clear hB7 hs7 x_c7 x_d7
   clear hb
   go_upto_region 10 with fail
   have ce:=(x_c8).c 15 _ c15
   have ze:=(x_c8).lt
   have lq_c:=(x_c8).lt
   have lq_d:=(x_d8).lt
   go_upto_region 11 with (first | (refine wpList_store_cell (k:=15) (ws:=CY) (v:=.int .u8 (bits .xor .u8 x0 1)) rfl _ _ _ rfl x_c8 rfl rfl rfl rfl size_u8n (by rw [n3.out];decide) E3.out ?_;intro S8_0 hS8_0))
   have x_c9:=hS8_0.box
   have x_d9:Box S8_0 (bD) ([da,db]):=(hS8_0.past _ _ (by omega) x_d8)
   have hB9:=(hS8_0.below _ _ (by omega) hB8);have hs9:=hB9.size
   clear x_c8 x_d8 hB8 hs8 lq_c lq_d
   have ID2:=Lib.hid (AF.out _ _ _ K_W3_8 hS8_0)
   clear hS8_0
   clear K_W3_8 AF ID
   clear ce ze
   go_wp2_with (first
     | (refine wpList_load_box9 rfl _ _ rfl x_d9 rfl Tryz.underlying62 rfl (size_id12 _ _) ?_)
     | (refine wpList_load_box9 rfl _ _ rfl x_c9 rfl Tryz.underlying35 rfl SY.out ?_)
     | (refine wpList_build9 rfl 37 _ rfl (us:=#[(0,.int .u8 2),(2,.agg CY.toArray)]) (by rfl) (BG _) ?_))
   refine (A2 _ _ ID2.out).mono ?_
   rintro e w10 ⟨rfl,hb⟩
   have hB10:Below w.heap.size w w10:=below_thru hB9 hb
   have hs10:=hB10.size
   have x_c10:Box w10 (w.heap.size + 1) (CY):=Box.below x_c9 hb
   have x_d10:Box w10 (bD) ([da,db]):=Box.below x_d9 hb
   clear hB9 hs9 x_c9 x_d9
   clear hb
   go_wp2_with fail
   go_returns
   exact ⟨rfl,hB10⟩
end Go.Proofs.YtnfejdfjlnpldaaGreatDoor
