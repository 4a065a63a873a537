import Derived.Test.YtnfejdfjlnpldaaGreatDoorKyB
import Derived.Test.YtnfejdfjlnpldaaGreatDoorAp06
set_option maxHeartbeats 6400000
set_option maxRecDepth 100000
namespace Go.Proofs.YtnfejdfjlnpldaaGreatDoor
open Go.RowKit
set_option maxRecDepth 100000 in
set_option maxHeartbeats 6400000 in
theorem tg12_is {va vb:Value} {K m O:List Int} (w:World) (h1:IsL w .u8 va K) (h2:IsL w .u8 vb m) (hK:K.length≤200) (hm:m.length≤1000) (hk:Hid (bytesL K)) (hx:Hid (bytesL m)) (hO:Hid (tagL K m=O)) (hL:Hid (LaidS w)):Calls Tryz.prog 29 #[va,vb] w fun e w'=>e=.returned (.tuple #[.agg (O.map (Value.int .u8)).toArray,.bool true])∧Below w.heap.size w w':=by
 obtain ⟨a0,c0,rfl,hr0,_⟩:=id h1;obtain ⟨a1,c1,rfl,hr1,_⟩:=id h2
 have G1:=Lib.hid h1;have G2:=Lib.hid h2
 obtain ⟨P,hP⟩:∃ P,padI K=P:=⟨_,rfl⟩
 obtain ⟨Q,hQ⟩:∃ P,padO K=P:=⟨_,rfl⟩
 obtain ⟨I,hI⟩:∃ P,innerL K m=P:=⟨_,rfl⟩
 have hO2:outerL K I=O:=by rw [← hI];exact hO.out
 have lP:P.length=64:=by rw [← hP];exact padI_len K
 have lQ:Q.length=64:=by rw [← hQ];exact padO_len K
 have lI:I.length=32:=by rw [← hI];exact shaOf_len _
 have lO:O.length=32:=by rw [← hO2];exact shaOf_len _
 have H5:=Lib.hid (show shaOf (P ++ m)=I by rw [← hP,← hI];rfl)
 have H6:=Lib.hid (show shaOf (Q ++ I)=O by rw [← hQ,← hO2];rfl)
 have bI:bytesL I:=by rw [← hI];exact shaOf_bytes _
 have BP:=Lib.hid (show bytesL (P ++ m) by rw [← hP];exact (padI_bytes hk.out).append hx.out)
 have BQ:=Lib.hid (show bytesL (Q ++ I) by rw [← hQ];exact (padO_bytes hk.out).append bI)
 have LP:=Lib.hid lP;have LQ:=Lib.hid lQ;have LI:=Lib.hid lI
 have PX:=Lib.hid (show (P ++ m).length≤128000 by rw [List.length_append];omega)
 have QX:=Lib.hid (show (Q ++ I).length≤128000 by rw [List.length_append];omega)
 have SP:=Lib.hid (size_of64 lP);have NP:=Lib.hid (len_of64 lP)
 have SQ:=Lib.hid (size_of64 lQ);have NQ:=Lib.hid (len_of64 lQ)
 have SI:=Lib.hid (size_dig lI);have NI:=Lib.hid (len_dig lI)
 have SO:=Lib.hid (size_dig lO);have NO:=Lib.hid (len_dig lO)
 have HP:=Lib.hid hP;have HQ:=Lib.hid hQ
 have PA:=fun (W:World) (h:Hid (IsL W .u8 (.slice a0 K.length c0) K)) (hL:Hid (LaidS W))=>pads_ok W h hK hk HP HQ hL
 obtain ⟨ti,hin,hz0,hz1,hz2⟩:=info8
 have m2:=hr0.room;have m3:=hr0.most;have m4:=hr1.room;have m5:=hr1.most
 clear hP hQ hI hO hO2 lP lQ lI lO bI h1 h2 hr0 hr1 HP HQ hk hK
 go_enter Tryz.func29,Tryz.ntmps29
 go_upto_region 1 with fail
 refine F_gen (F:=fun W=>Code.wp _ _ _ _ W) (J:=fun W=>Box W (w.heap.size) (zero32)∧Below w.heap.size w W) (And.intro (Box.newc rfl rfl) (by go_grown)) ?_
 intro w0 ⟨e_r,hB0⟩
 have hs0:=hB0.size
 have x_r0:=e_r;clear e_r
 have J_k0:Hid (IsL w0 .u8 (.slice a0 K.length c0) K):=Lib.hid (G1.out.below hB0)
 have J_m0:Hid (IsL w0 .u8 (.slice a1 m.length c1) m):=Lib.hid (G2.out.below hB0)
 clear G1 G2
 go_wp2_with fail
 refine (PA _ J_k0 (Lib.hid (hL.out.below hB0))).mono ?_
 rintro e w1 ⟨rfl,hb⟩
 have hB1:Below w.heap.size w w1:=below_thru hB0 hb
 have hs1:=hB1.size
 have x_r1:Box w1 (w.heap.size) (zero32):=Box.below x_r0 hb
 have J_k1:Hid (IsL w1 .u8 (.slice a0 K.length c0) K):=Lib.hid (IsL.below J_k0.out hb)
 have J_m1:Hid (IsL w1 .u8 (.slice a1 m.length c1) m):=Lib.hid (IsL.below J_m0.out hb)
 clear hB0 hs0 x_r0 J_k0 J_m0
 clear hb
 clear J_k1
 have d_p_r:=(x_r1).lt
 have d_p_0:=hs1
 go_upto_region 2 with (first
   | (refine wpList_store_box (cs:=P.map (Value.int .u8)) rfl _ _ _ rfl (Box.alloc (Box.newc (l:=zero64) rfl rfl) _) rfl rfl SP.out NP.out (oneCell_ints _) ?_;intro W1_0 hW1_0)
   | (refine wpList_store_box (cs:=Q.map (Value.int .u8)) rfl _ _ _ rfl (hW1_0.past _ _ (by omega) (Box.newc (l:=zero64) rfl (by simp))) rfl rfl SQ.out NQ.out (oneCell_ints _) ?_;intro W1_1 hW1_1))
 have hN:Below w1.heap.size w1 W1_1:=(hW1_1.below _ _ (by omega) (hW1_0.below _ _ (by omega) (((Below.refl _ w1).alloc (Nat.le_refl _) _).alloc (by simp) _)))
 have x_p2:Box W1_1 (w1.heap.size) (P.map (Value.int .u8)):=(hW1_1.past _ _ (by omega) hW1_0.box)
 have x_q2:Box W1_1 (w1.heap.size + 1) (Q.map (Value.int .u8)):=hW1_1.box
 have hB2:Below w.heap.size w W1_1:=below_thru hB1 hN
 have hs2:=hB2.size
 have x_r2:Box W1_1 (w.heap.size) (zero32):=Box.below x_r1 hN
 have J_m2:Hid (IsL W1_1 .u8 (.slice a1 m.length c1) m):=Lib.hid (IsL.below J_m1.out hN)
 clear hB1 hs1 x_r1 J_m1
 clear hN hW1_0 hW1_1
 go_wp2_with (first
   | (at_builtin;refine wpList_append_built rfl _ _ 43 rfl 5 ti (.int .u8 0) 1 .u8 Tryz.underlying43 hin hz0 hz1 hz2 rfl [] P _ (.slice (some ⟨w1.heap.size,0,none⟩) 64 64) _ _ _ rfl rfl rfl rfl rfl rfl (IsL.box 64 LP.out x_p2 (by omega)) (by have:=LP.out;unfold maxLen;simp <;> omega) (by have:=LP.out;simp <;> omega) ?_;intro va wa howa hba)
   | (at_builtin;refine wpList_append_onto rfl _ _ 43 rfl W1_1.heap.size 5 ti (.int .u8 0) 1 .u8 Tryz.underlying43 hin hz0 hz1 hz2 rfl va ([] ++ P) m (.slice a1 m.length c1) rfl rfl howa (IsL.below J_m2.out hba) (by have:=LP.out;unfold maxLen;simp <;> omega) (by have:=LP.out;simp <;> omega) hba.size ?_;intro vb wb howb hbb))
 have hN:Below W1_1.heap.size W1_1 wb:=hba.trans hbb
 have JA:Hid (IsL wb .u8 vb (P ++ m)):=Lib.hid (IsL.own howb rfl)
 have hB3:Below w.heap.size w wb:=below_thru hB2 hN
 have hs3:=hB3.size
 have x_r3:Box wb (w.heap.size) (zero32):=Box.below x_r2 hN
 have x_p3:Box wb (w1.heap.size) (P.map (Value.int .u8)):=Box.below x_p2 hN
 have x_q3:Box wb (w1.heap.size + 1) (Q.map (Value.int .u8)):=Box.below x_q2 hN
 have J_m3:Hid (IsL wb .u8 (.slice a1 m.length c1) m):=Lib.hid (IsL.below J_m2.out hN)
 clear hB2 hs2 x_r2 x_p2 x_q2 J_m2
 clear hN hba hbb howa howb
 clear J_m3
 clear x_p3
 refine (sum_ok _ JA PX.out BP H5 (Lib.hid (hL.out.below hB3))).mono ?_
 rintro e w4 ⟨rfl,hb⟩
 clear JA
 have hB4:Below w.heap.size w w4:=below_thru hB3 hb
 have hs4:=hB4.size
 have x_r4:Box w4 (w.heap.size) (zero32):=Box.below x_r3 hb
 have x_q4:Box w4 (w1.heap.size + 1) (Q.map (Value.int .u8)):=Box.below x_q3 hb
 clear hB3 hs3 x_r3 x_q3
 clear hb
 have d_x_r:=(x_r4).lt
 have d_x_q:=(x_q4).lt
 have d_x_0:=hs4
 go_upto_region 3 with (refine wpList_store_box (cs:=I.map (Value.int .u8)) rfl _ _ _ rfl (Box.newc (l:=zero32) rfl rfl) rfl rfl SI.out NI.out (oneCell_ints _) ?_;intro W4_0 hW4_0)
 have hN:Below w4.heap.size w4 W4_0:=(hW4_0.below _ _ (by omega) ((Below.refl _ w4).alloc (Nat.le_refl _) _))
 have x_x5:Box W4_0 (w4.heap.size) (I.map (Value.int .u8)):=hW4_0.box
 have hB5:Below w.heap.size w W4_0:=below_thru hB4 hN
 have hs5:=hB5.size
 have x_r5:Box W4_0 (w.heap.size) (zero32):=Box.below x_r4 hN
 have x_q5:Box W4_0 (w1.heap.size + 1) (Q.map (Value.int .u8)):=Box.below x_q4 hN
 clear hB4 hs4 x_r4 x_q4
 clear hN hW4_0
 have LB:=(Lib.hid (hL.out.below hB5))
 go_cut [11,12] (fun p z wx=>∃ b:Nat,p=.pointer (some ⟨b,0,none⟩)∧z=.int .i64 0∧Box wx b (O.map (Value.int .u8))∧Below W4_0.heap.size W4_0 wx)
 case first =>
   refine wp_region_held_drew (S:=fun _=>True) (by kernel_rfl) trivial (fun _=>?_)
   refine F_drew (F:=fun W=>wpAnyH _ _ _ _ _ _ _ _ W) ?_
   intro W0 hb0
   have sz0:=hb0.size
   refine takeH 1 30 (v:=?va1_1) rfl (by rfl) (by kernel_rfl) (by kernel_rfl) (by kernel_rfl) (fun _ _ _ h=>h) (Or.inl ⟨by rfl,?_⟩) (trivial) ?_
   rotate_left
   · intro wq hSq
     go_simp
     exact rfl
   try simp only [Act.put,qzA,qz0,qzS]
   refine takeH 3 32 (v:=?va3_2) rfl (by rfl) (by kernel_rfl) (by kernel_rfl) (by kernel_rfl) (fun _ _ _ h=>h) (Or.inl ⟨by rfl,?_⟩) (trivial) ?_
   rotate_left
   · intro wq hSq
     go_simp
     exact rfl
   try simp only [Act.put,qzA,qz0,qzS]
   refine wpAnyH_ready (rs:=[0,9]) (by kernel_rfl) (by simp) (AllReadyH.cons rfl (fun K hK=>?_) (AllReadyH.cons rfl (fun K hK=>?_) AllReadyH.nil))
   · skip
     go_simp
     refine hK.out _ _ trivial (fun _=>?_);clear hK K
     refine F_own6 (F:=fun W=>wpAnyH _ _ _ _ _ _ _ _ W) (base:=W4_0.heap.size) (Below.size hb0) ?_
     intro W3 own3 hb3
     have hB3:=below_thru hb0 hb3
     refine wpAnyH_ready (rs:=[2,9]) (by kernel_rfl) (by simp) (AllReadyH.cons rfl (fun K hK=>?_) (AllReadyH.cons rfl (fun K hK=>?_) AllReadyH.nil))
     · skip
       refine step_append_at rfl _ _ 43 (by rfl) W4_0.heap.size 5 ti (.int .u8 0) 1 .u8 Tryz.underlying43 hin hz0 hz1 hz2 rfl (.slice (some ⟨W0.heap.size,0,none⟩) 0 0) [] Q _ (by rfl) (by rfl) own3 (IsL.box 64 LQ.out (Box.below x_q5 hB3) (by omega)) (by have:=LQ.out;have:=LI.out;unfold maxLen;simp <;> omega) (by have:=LQ.out;have:=LI.out;simp <;> omega) (Below.size hB3) ?_
       intro v4 W4 own4 hg4 hat4
       have hB4:=Below.grown hB3 hg4 (Below.size hB3) (own_block own3)
       refine hK.out _ _ trivial (fun _=>?_);clear hK K
       refine wpAnyH_ready (rs:=[4,9]) (by kernel_rfl) (by simp) (AllReadyH.cons rfl (fun K hK=>?_) (AllReadyH.cons rfl (fun K hK=>?_) AllReadyH.nil))
       · skip
         refine step_append_at rfl _ _ 43 (by rfl) W4_0.heap.size 5 ti (.int .u8 0) 1 .u8 Tryz.underlying43 hin hz0 hz1 hz2 rfl v4 ([] ++ Q) I _ (by rfl) (by rfl) own4 (IsL.box 32 LI.out (Box.below x_x5 hB4) (by omega)) (by have:=LQ.out;have:=LI.out;unfold maxLen;simp <;> omega) (by have:=LQ.out;have:=LI.out;simp <;> omega) (Below.size hB4) ?_
         intro v5 W5 own5 hg5 hat5
         have hB5:=Below.grown hB4 hg5 (Below.size hB4) (own_block own4)
         refine hK.out _ _ trivial (fun _=>?_);clear hK K
         refine wpAnyH_ready (rs:=[5,9]) (by kernel_rfl) (by simp) (AllReadyH.cons rfl (fun K hK=>?_) (AllReadyH.cons rfl (fun K hK=>?_) AllReadyH.nil))
         · skip
           go_simp
           have js6:Hid (IsL W5 .u8 v5 (Q ++ I)):=Lib.hid (IsL.own own5 rfl)
           refine (sum_ok _ js6 QX.out BQ H6 (Lib.hid (LB.out.below hB5))).mono ?_
           rintro e W6 ⟨rfl,hb6⟩
           have hB6:=below_thru hB5 hb6
           refine hK.out _ _ trivial (fun _=>?_);clear hK K
           refine takeH 6 28 (v:=?va6_7) rfl (by rfl) (by kernel_rfl) (by kernel_rfl) (by kernel_rfl) (fun _ _ _ h=>h) (Or.inl ⟨by rfl,?_⟩) (trivial) ?_
           rotate_left
           · intro wq hSq
             go_simp
             exact rfl
           try simp only [Act.put,qzA,qz0,qzS]
           refine takeH 7 35 (v:=?va7_8) rfl (by rfl) (by kernel_rfl) (by kernel_rfl) (by kernel_rfl) (fun _ _ _ h=>h) (Or.inl ⟨by rfl,?_⟩) (trivial) ?_
           rotate_left
           · intro wq hSq
             go_simp
             exact rfl
           try simp only [Act.put,qzA,qz0,qzS]
           refine takeH 8 36 (v:=?va8_9) rfl (by rfl) (by kernel_rfl) (by kernel_rfl) (by kernel_rfl) (fun _ _ _ h=>h) (Or.inl ⟨by rfl,?_⟩) (trivial) ?_
           rotate_left
           · intro wq hSq
             go_simp
             exact rfl
           try simp only [Act.put,qzA,qz0,qzS]
           refine wpAnyH_ready (rs:=[9]) (by kernel_rfl) (by simp) (AllReadyH.cons rfl (fun K hK=>?_) AllReadyH.nil)
           go_simp
           refine hK.out _ _ trivial (fun _=>?_);clear hK K
           refine F_alloc (F:=fun W=>wpAnyH _ _ _ _ _ _ _ _ W) zero32 rfl ?_
           intro W10 bx10 hb10
           have lo10:=Below.size hB6;have hB10:=below_thru hB6 hb10
           refine wpAnyH_ready (rs:=[10]) (by kernel_rfl) (by simp) (AllReadyH.cons rfl (fun K hK=>?_) AllReadyH.nil)
           refine step_store_box0 (cs:=O.map (Value.int .u8)) rfl rfl _ _ _ rfl bx10 rfl rfl SO.out NO.out (oneCell_ints _) ?_
           intro W11 hW11
           have bx11:=hW11.box;have hB11:=hW11.below _ _ lo10 hB10
           refine hK.out _ _ trivial (fun _=>?_);clear hK K
           refine takeH 11 12 (v:=?va11_12) rfl (by rfl) (by kernel_rfl) (by kernel_rfl) (by kernel_rfl) (fun _ _ _ h=>h) (Or.inl ⟨by rfl,?_⟩) (trivial) ?_
           rotate_left
           · intro wq hSq
             go_simp
             exact rfl
           try simp only [Act.put,qzA,qz0,qzS]
           refine wpAnyH_done (by kernel_rfl) ?_ _
           go_wp2_with fail
           go_meet
           exact ⟨_,rfl,rfl,bx11,hB11⟩
         · skip
           go_simp
           refine hK.out _ _ trivial (fun _=>?_);clear hK K
           refine F_alloc (F:=fun W=>wpAnyH _ _ _ _ _ _ _ _ W) zero32 rfl ?_
           intro W13 bx13 hb13
           have lo13:=Below.size hB5;have hB13:=below_thru hB5 hb13
           have ap13:=Apart.new (fun g hg=>(World.ownsRow.lt own5 g hg).2);have own13:=own_below own5 hb13
           refine wpAnyH_ready (rs:=[5]) (by kernel_rfl) (by simp) (AllReadyH.cons rfl (fun K hK=>?_) AllReadyH.nil)
           go_simp
           have js14:Hid (IsL W13 .u8 v5 (Q ++ I)):=Lib.hid (IsL.own own13 rfl)
           refine (sum_ok _ js14 QX.out BQ H6 (Lib.hid (LB.out.below hB13))).mono ?_
           rintro e W14 ⟨rfl,hb14⟩
           have hB14:=below_thru hB13 hb14
           have bx14:=Box.below bx13 hb14
           refine hK.out _ _ trivial (fun _=>?_);clear hK K
           refine takeH 6 28 (v:=?va6_15) rfl (by rfl) (by kernel_rfl) (by kernel_rfl) (by kernel_rfl) (fun _ _ _ h=>h) (Or.inl ⟨by rfl,?_⟩) (trivial) ?_
           rotate_left
           · intro wq hSq
             go_simp
             exact rfl
           try simp only [Act.put,qzA,qz0,qzS]
           refine takeH 7 35 (v:=?va7_16) rfl (by rfl) (by kernel_rfl) (by kernel_rfl) (by kernel_rfl) (fun _ _ _ h=>h) (Or.inl ⟨by rfl,?_⟩) (trivial) ?_
           rotate_left
           · intro wq hSq
             go_simp
             exact rfl
           try simp only [Act.put,qzA,qz0,qzS]
           refine takeH 8 36 (v:=?va8_17) rfl (by rfl) (by kernel_rfl) (by kernel_rfl) (by kernel_rfl) (fun _ _ _ h=>h) (Or.inl ⟨by rfl,?_⟩) (trivial) ?_
           rotate_left
           · intro wq hSq
             go_simp
             exact rfl
           try simp only [Act.put,qzA,qz0,qzS]
           refine wpAnyH_ready (rs:=[10]) (by kernel_rfl) (by simp) (AllReadyH.cons rfl (fun K hK=>?_) AllReadyH.nil)
           refine step_store_box0 (cs:=O.map (Value.int .u8)) rfl rfl _ _ _ rfl bx14 rfl rfl SO.out NO.out (oneCell_ints _) ?_
           intro W18 hW18
           have bx18:=hW18.box;have hB18:=hW18.below _ _ lo13 hB14
           refine hK.out _ _ trivial (fun _=>?_);clear hK K
           refine takeH 11 12 (v:=?va11_19) rfl (by rfl) (by kernel_rfl) (by kernel_rfl) (by kernel_rfl) (fun _ _ _ h=>h) (Or.inl ⟨by rfl,?_⟩) (trivial) ?_
           rotate_left
           · intro wq hSq
             go_simp
             exact rfl
           try simp only [Act.put,qzA,qz0,qzS]
           refine wpAnyH_done (by kernel_rfl) ?_ _
           go_wp2_with fail
           go_meet
           exact ⟨_,rfl,rfl,bx18,hB18⟩
       · skip
         go_simp
         refine hK.out _ _ trivial (fun _=>?_);clear hK K
         refine F_alloc (F:=fun W=>wpAnyH _ _ _ _ _ _ _ _ W) zero32 rfl ?_
         intro W20 bx20 hb20
         have lo20:=Below.size hB4;have hB20:=below_thru hB4 hb20
         have ap20:=Apart.new (fun g hg=>(World.ownsRow.lt own4 g hg).2);have own20:=own_below own4 hb20
         refine wpAnyH_ready (rs:=[4]) (by kernel_rfl) (by simp) (AllReadyH.cons rfl (fun K hK=>?_) AllReadyH.nil)
         refine step_append_at rfl _ _ 43 (by rfl) W4_0.heap.size 5 ti (.int .u8 0) 1 .u8 Tryz.underlying43 hin hz0 hz1 hz2 rfl v4 ([] ++ Q) I _ (by rfl) (by rfl) own20 (IsL.box 32 LI.out (Box.below x_x5 hB20) (by omega)) (by have:=LQ.out;have:=LI.out;unfold maxLen;simp <;> omega) (by have:=LQ.out;have:=LI.out;simp <;> omega) (Below.size hB20) ?_
         intro v21 W21 own21 hg21 hat21
         have hB21:=Below.grown hB20 hg21 (Below.size hB20) (own_block own20)
         have bx21:=Box.grown bx20 hg21 ap20;have ap21:=Apart.app hat21 ap20 (Box.lts bx20)
         refine hK.out _ _ trivial (fun _=>?_);clear hK K
         refine wpAnyH_ready (rs:=[5]) (by kernel_rfl) (by simp) (AllReadyH.cons rfl (fun K hK=>?_) AllReadyH.nil)
         go_simp
         have js22:Hid (IsL W21 .u8 v21 (Q ++ I)):=Lib.hid (IsL.own own21 rfl)
         refine (sum_ok _ js22 QX.out BQ H6 (Lib.hid (LB.out.below hB21))).mono ?_
         rintro e W22 ⟨rfl,hb22⟩
         have hB22:=below_thru hB21 hb22
         have bx22:=Box.below bx21 hb22
         refine hK.out _ _ trivial (fun _=>?_);clear hK K
         refine takeH 6 28 (v:=?va6_23) rfl (by rfl) (by kernel_rfl) (by kernel_rfl) (by kernel_rfl) (fun _ _ _ h=>h) (Or.inl ⟨by rfl,?_⟩) (trivial) ?_
         rotate_left
         · intro wq hSq
           go_simp
           exact rfl
         try simp only [Act.put,qzA,qz0,qzS]
         refine takeH 7 35 (v:=?va7_24) rfl (by rfl) (by kernel_rfl) (by kernel_rfl) (by kernel_rfl) (fun _ _ _ h=>h) (Or.inl ⟨by rfl,?_⟩) (trivial) ?_
         rotate_left
         · intro wq hSq
           go_simp
           exact rfl
         try simp only [Act.put,qzA,qz0,qzS]
         refine takeH 8 36 (v:=?va8_25) rfl (by rfl) (by kernel_rfl) (by kernel_rfl) (by kernel_rfl) (fun _ _ _ h=>h) (Or.inl ⟨by rfl,?_⟩) (trivial) ?_
         rotate_left
         · intro wq hSq
           go_simp
           exact rfl
         try simp only [Act.put,qzA,qz0,qzS]
         refine wpAnyH_ready (rs:=[10]) (by kernel_rfl) (by simp) (AllReadyH.cons rfl (fun K hK=>?_) AllReadyH.nil)
         refine step_store_box0 (cs:=O.map (Value.int .u8)) rfl rfl _ _ _ rfl bx22 rfl rfl SO.out NO.out (oneCell_ints _) ?_
         intro W26 hW26
         have bx26:=hW26.box;have hB26:=hW26.below _ _ lo20 hB22
         refine hK.out _ _ trivial (fun _=>?_);clear hK K
         refine takeH 11 12 (v:=?va11_27) rfl (by rfl) (by kernel_rfl) (by kernel_rfl) (by kernel_rfl) (fun _ _ _ h=>h) (Or.inl ⟨by rfl,?_⟩) (trivial) ?_
         rotate_left
         · intro wq hSq
           go_simp
           exact rfl
         try simp only [Act.put,qzA,qz0,qzS]
         refine wpAnyH_done (by kernel_rfl) ?_ _
         go_wp2_with fail
         go_meet
         exact ⟨_,rfl,rfl,bx26,hB26⟩
     · skip
       go_simp
       refine hK.out _ _ trivial (fun _=>?_);clear hK K
       refine F_alloc (F:=fun W=>wpAnyH _ _ _ _ _ _ _ _ W) zero32 rfl ?_
       intro W28 bx28 hb28
       have lo28:=Below.size hB3;have hB28:=below_thru hB3 hb28
       have ap28:=Apart.new (fun g hg=>(World.ownsRow.lt own3 g hg).2);have own28:=own_below own3 hb28
       refine wpAnyH_ready (rs:=[2]) (by kernel_rfl) (by simp) (AllReadyH.cons rfl (fun K hK=>?_) AllReadyH.nil)
       refine step_append_at rfl _ _ 43 (by rfl) W4_0.heap.size 5 ti (.int .u8 0) 1 .u8 Tryz.underlying43 hin hz0 hz1 hz2 rfl (.slice (some ⟨W0.heap.size,0,none⟩) 0 0) [] Q _ (by rfl) (by rfl) own28 (IsL.box 64 LQ.out (Box.below x_q5 hB28) (by omega)) (by have:=LQ.out;have:=LI.out;unfold maxLen;simp <;> omega) (by have:=LQ.out;have:=LI.out;simp <;> omega) (Below.size hB28) ?_
       intro v29 W29 own29 hg29 hat29
       have hB29:=Below.grown hB28 hg29 (Below.size hB28) (own_block own28)
       have bx29:=Box.grown bx28 hg29 ap28;have ap29:=Apart.app hat29 ap28 (Box.lts bx28)
       refine hK.out _ _ trivial (fun _=>?_);clear hK K
       refine wpAnyH_ready (rs:=[4]) (by kernel_rfl) (by simp) (AllReadyH.cons rfl (fun K hK=>?_) AllReadyH.nil)
       refine step_append_at rfl _ _ 43 (by rfl) W4_0.heap.size 5 ti (.int .u8 0) 1 .u8 Tryz.underlying43 hin hz0 hz1 hz2 rfl v29 ([] ++ Q) I _ (by rfl) (by rfl) own29 (IsL.box 32 LI.out (Box.below x_x5 hB29) (by omega)) (by have:=LQ.out;have:=LI.out;unfold maxLen;simp <;> omega) (by have:=LQ.out;have:=LI.out;simp <;> omega) (Below.size hB29) ?_
       intro v30 W30 own30 hg30 hat30
       have hB30:=Below.grown hB29 hg30 (Below.size hB29) (own_block own29)
       have bx30:=Box.grown bx29 hg30 ap29;have ap30:=Apart.app hat30 ap29 (Box.lts bx29)
       refine hK.out _ _ trivial (fun _=>?_);clear hK K
       refine wpAnyH_ready (rs:=[5]) (by kernel_rfl) (by simp) (AllReadyH.cons rfl (fun K hK=>?_) AllReadyH.nil)
       go_simp
       have js31:Hid (IsL W30 .u8 v30 (Q ++ I)):=Lib.hid (IsL.own own30 rfl)
       refine (sum_ok _ js31 QX.out BQ H6 (Lib.hid (LB.out.below hB30))).mono ?_
       rintro e W31 ⟨rfl,hb31⟩
       have hB31:=below_thru hB30 hb31
       have bx31:=Box.below bx30 hb31
       refine hK.out _ _ trivial (fun _=>?_);clear hK K
       refine takeH 6 28 (v:=?va6_32) rfl (by rfl) (by kernel_rfl) (by kernel_rfl) (by kernel_rfl) (fun _ _ _ h=>h) (Or.inl ⟨by rfl,?_⟩) (trivial) ?_
       rotate_left
       · intro wq hSq
         go_simp
         exact rfl
       try simp only [Act.put,qzA,qz0,qzS]
       refine takeH 7 35 (v:=?va7_33) rfl (by rfl) (by kernel_rfl) (by kernel_rfl) (by kernel_rfl) (fun _ _ _ h=>h) (Or.inl ⟨by rfl,?_⟩) (trivial) ?_
       rotate_left
       · intro wq hSq
         go_simp
         exact rfl
       try simp only [Act.put,qzA,qz0,qzS]
       refine takeH 8 36 (v:=?va8_34) rfl (by rfl) (by kernel_rfl) (by kernel_rfl) (by kernel_rfl) (fun _ _ _ h=>h) (Or.inl ⟨by rfl,?_⟩) (trivial) ?_
       rotate_left
       · intro wq hSq
         go_simp
         exact rfl
       try simp only [Act.put,qzA,qz0,qzS]
       refine wpAnyH_ready (rs:=[10]) (by kernel_rfl) (by simp) (AllReadyH.cons rfl (fun K hK=>?_) AllReadyH.nil)
       refine step_store_box0 (cs:=O.map (Value.int .u8)) rfl rfl _ _ _ rfl bx31 rfl rfl SO.out NO.out (oneCell_ints _) ?_
       intro W35 hW35
       have bx35:=hW35.box;have hB35:=hW35.below _ _ lo28 hB31
       refine hK.out _ _ trivial (fun _=>?_);clear hK K
       refine takeH 11 12 (v:=?va11_36) rfl (by rfl) (by kernel_rfl) (by kernel_rfl) (by kernel_rfl) (fun _ _ _ h=>h) (Or.inl ⟨by rfl,?_⟩) (trivial) ?_
       rotate_left
       · intro wq hSq
         go_simp
         exact rfl
       try simp only [Act.put,qzA,qz0,qzS]
       refine wpAnyH_done (by kernel_rfl) ?_ _
       go_wp2_with fail
       go_meet
       exact ⟨_,rfl,rfl,bx35,hB35⟩
   · skip
     go_simp
     refine hK.out _ _ trivial (fun _=>?_);clear hK K
     refine F_alloc (F:=fun W=>wpAnyH _ _ _ _ _ _ _ _ W) zero32 rfl ?_
     intro W37 bx37 hb37
     have lo37:=Below.size hb0;have hB37:=below_thru hb0 hb37
     refine wpAnyH_ready (rs:=[0]) (by kernel_rfl) (by simp) (AllReadyH.cons rfl (fun K hK=>?_) AllReadyH.nil)
     go_simp
     refine hK.out _ _ trivial (fun _=>?_);clear hK K
     refine F_own6 (F:=fun W=>wpAnyH _ _ _ _ _ _ _ _ W) (base:=W4_0.heap.size) (Below.size hB37) ?_
     intro W38 own38 hb38
     have hB38:=below_thru hB37 hb38
     have ap38:Apart (some W37.heap.size) (some W0.heap.size):=Apart.symm (Apart.new (Box.lts bx37));have bx38:=Box.below bx37 hb38
     refine wpAnyH_ready (rs:=[2]) (by kernel_rfl) (by simp) (AllReadyH.cons rfl (fun K hK=>?_) AllReadyH.nil)
     refine step_append_at rfl _ _ 43 (by rfl) W4_0.heap.size 5 ti (.int .u8 0) 1 .u8 Tryz.underlying43 hin hz0 hz1 hz2 rfl (.slice (some ⟨W37.heap.size,0,none⟩) 0 0) [] Q _ (by rfl) (by rfl) own38 (IsL.box 64 LQ.out (Box.below x_q5 hB38) (by omega)) (by have:=LQ.out;have:=LI.out;unfold maxLen;simp <;> omega) (by have:=LQ.out;have:=LI.out;simp <;> omega) (Below.size hB38) ?_
     intro v39 W39 own39 hg39 hat39
     have hB39:=Below.grown hB38 hg39 (Below.size hB38) (own_block own38)
     have bx39:=Box.grown bx38 hg39 ap38;have ap39:=Apart.app hat39 ap38 (Box.lts bx38)
     refine hK.out _ _ trivial (fun _=>?_);clear hK K
     refine wpAnyH_ready (rs:=[4]) (by kernel_rfl) (by simp) (AllReadyH.cons rfl (fun K hK=>?_) AllReadyH.nil)
     refine step_append_at rfl _ _ 43 (by rfl) W4_0.heap.size 5 ti (.int .u8 0) 1 .u8 Tryz.underlying43 hin hz0 hz1 hz2 rfl v39 ([] ++ Q) I _ (by rfl) (by rfl) own39 (IsL.box 32 LI.out (Box.below x_x5 hB39) (by omega)) (by have:=LQ.out;have:=LI.out;unfold maxLen;simp <;> omega) (by have:=LQ.out;have:=LI.out;simp <;> omega) (Below.size hB39) ?_
     intro v40 W40 own40 hg40 hat40
     have hB40:=Below.grown hB39 hg40 (Below.size hB39) (own_block own39)
     have bx40:=Box.grown bx39 hg40 ap39;have ap40:=Apart.app hat40 ap39 (Box.lts bx39)
     refine hK.out _ _ trivial (fun _=>?_);clear hK K
     refine wpAnyH_ready (rs:=[5]) (by kernel_rfl) (by simp) (AllReadyH.cons rfl (fun K hK=>?_) AllReadyH.nil)
     go_simp
     have js41:Hid (IsL W40 .u8 v40 (Q ++ I)):=Lib.hid (IsL.own own40 rfl)
     refine (sum_ok _ js41 QX.out BQ H6 (Lib.hid (LB.out.below hB40))).mono ?_
     rintro e W41 ⟨rfl,hb41⟩
     have hB41:=below_thru hB40 hb41
     have bx41:=Box.below bx40 hb41
     refine hK.out _ _ trivial (fun _=>?_);clear hK K
     refine takeH 6 28 (v:=?va6_42) rfl (by rfl) (by kernel_rfl) (by kernel_rfl) (by kernel_rfl) (fun _ _ _ h=>h) (Or.inl ⟨by rfl,?_⟩) (trivial) ?_
     rotate_left
     · intro wq hSq
       go_simp
       exact rfl
     try simp only [Act.put,qzA,qz0,qzS]
     refine takeH 7 35 (v:=?va7_43) rfl (by rfl) (by kernel_rfl) (by kernel_rfl) (by kernel_rfl) (fun _ _ _ h=>h) (Or.inl ⟨by rfl,?_⟩) (trivial) ?_
     rotate_left
     · intro wq hSq
       go_simp
       exact rfl
     try simp only [Act.put,qzA,qz0,qzS]
     refine takeH 8 36 (v:=?va8_44) rfl (by rfl) (by kernel_rfl) (by kernel_rfl) (by kernel_rfl) (fun _ _ _ h=>h) (Or.inl ⟨by rfl,?_⟩) (trivial) ?_
     rotate_left
     · intro wq hSq
       go_simp
       exact rfl
     try simp only [Act.put,qzA,qz0,qzS]
     refine wpAnyH_ready (rs:=[10]) (by kernel_rfl) (by simp) (AllReadyH.cons rfl (fun K hK=>?_) AllReadyH.nil)
     refine step_store_box0 (cs:=O.map (Value.int .u8)) rfl rfl _ _ _ rfl bx41 rfl rfl SO.out NO.out (oneCell_ints _) ?_
     intro W45 hW45
     have bx45:=hW45.box;have hB45:=hW45.below _ _ lo37 hB41
     refine hK.out _ _ trivial (fun _=>?_);clear hK K
     refine takeH 11 12 (v:=?va11_46) rfl (by rfl) (by kernel_rfl) (by kernel_rfl) (by kernel_rfl) (fun _ _ _ h=>h) (Or.inl ⟨by rfl,?_⟩) (trivial) ?_
     rotate_left
     · intro wq hSq
       go_simp
       exact rfl
     try simp only [Act.put,qzA,qz0,qzS]
     refine wpAnyH_done (by kernel_rfl) ?_ _
     go_wp2_with fail
     go_meet
     exact ⟨_,rfl,rfl,bx45,hB45⟩
 case rest =>
   obtain ⟨by9,rfl,rfl,hy9,hN⟩:=hcut
   obtain ⟨wc9,rfl⟩:∃ u:World,u=wc:=⟨_,rfl⟩
   have hB6:Below w.heap.size w wc9:=below_thru hB5 hN
   have hs6:=hB6.size
   have x_r6:Box wc9 (w.heap.size) (zero32):=Box.below x_r5 hN
   have x_q6:Box wc9 (w1.heap.size + 1) (Q.map (Value.int .u8)):=Box.below x_q5 hN
   have x_x6:Box wc9 (w4.heap.size) (I.map (Value.int .u8)):=Box.below x_x5 hN
   clear hB5 hs5 x_r5 x_q5 x_x5
   have x_y6:=hy9
   clear hN hy9 LB
   clear x_q6
   clear x_x6
   have lq:=(x_r6).lt
   go_wp2_with (first | (refine wpList_load_box9 rfl _ _ rfl x_y6 rfl Tryz.underlying23 rfl SO.out ?_) | (refine wpList_store_box (cs:=O.map (Value.int .u8)) rfl _ _ _ rfl x_r6 rfl rfl SO.out NO.out (oneCell_ints _) ?_;intro W99 hW99))
   exact bodyPost_ret (results_box2 Tryz.results29 hW99.box rfl rfl Tryz.underlying23 rfl SO.out) rfl ⟨rfl,hW99.below _ _ (by omega) hB6⟩
end Go.Proofs.YtnfejdfjlnpldaaGreatDoor
