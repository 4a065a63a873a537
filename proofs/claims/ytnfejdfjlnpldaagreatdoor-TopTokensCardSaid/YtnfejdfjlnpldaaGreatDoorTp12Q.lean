import Derived.Test.YtnfejdfjlnpldaaGreatDoorTp12D
import Derived.Test.YtnfejdfjlnpldaaGreatDoorTp12B
import Derived.Test.YtnfejdfjlnpldaaGreatDoorTp12N
set_option maxHeartbeats 6400000
set_option maxRecDepth 100000
namespace Go.Proofs.YtnfejdfjlnpldaaGreatDoor
open Go.RowKit
set_option maxRecDepth 100000 in
set_option maxHeartbeats 6400000 in
theorem tpr_n (r:Req) (hr:r.k.t < 16) {S:List Int} (hS:S.length=32) {b:Bool} (hb:b=true↔TruT S r.k r.g) {v:Value} (w:World) (h1:IsL w .u8 v (1 :: r.bs)) (hk:¬ HasKey r.k.t r.k.e):Calls Tryz.prog 11 #[.agg (S.map (Value.int .u8)).toArray,.agg (mcell (Frm.req r)).toArray,v,.bool b] w fun e w'=>e=.returned (.bool true)∧Below w.heap.size w w':=by
 have hb0:b=false:=by
   cases b with
   | false=>rfl
   | true=>exact absurd (hb.1 rfl).1 hk
 subst hb0
 have hl:=rbs_len r
 obtain ⟨a0,c0,rfl,hr0,_⟩:=id h1;have i1:=hr0.room;have i2:=hr0.most;obtain ⟨bb,off,rfl,_⟩:=h1.get 0 (by omega)
 rw [hl] at i1 ⊢
 have h2:IsL w .u8 (.slice (some ⟨bb,off,none⟩) (1 :: r.bs).length c0) (1 :: r.bs):=h1
 have SL:=Lib.hid (show IsL w .u8 (.slice (some ⟨bb,off,none⟩) 59 c0) (1 :: r.bs) by rw [← hl];exact h1)
 have S21:=Lib.hid (show IsL w .u8 (.slice (some ⟨bb,off + 1,none⟩) 20 (c0 - 1)) (r.k.msg) by rw [← rbs_msg r];exact (h2.taken (m:=21) (by omega)).dropped (by rw [List.length_take];omega) (by rw [List.length_take];omega) rfl (Or.inl rfl))
 have S53:=Lib.hid (show IsL w .u8 (.slice (some ⟨bb,off + 1,none⟩) 52 (c0 - 1)) (r.k.msg ++ r.g) by rw [← rbs_tok r];exact (h2.taken (m:=53) (by omega)).dropped (by rw [List.length_take];omega) (by rw [List.length_take];omega) rfl (Or.inl rfl))
 clear hr0 h1 h2 hl
 have j1:¬ c0=1:=by omega
 have j9:¬ c0=9:=by omega
 have q5:(5:Int)≤(c0:Int):=by omega
 have q13:(13:Int)≤(c0:Int):=by omega
 have q21:(21:Int)≤(c0:Int):=by omega
 have q53:(53:Int)≤(c0:Int):=by omega
 have RD:=fun (W:World) (a b:Value) (h1:IsL W .u8 a kinQ) (h2:IsL W .u8 b (1 :: r.bs))=>read_is W h1 h2 (by decide) (rbs_byts r);rw [(rrow_rea r).1,(rrow_rea r).2] at RD
 have BY:=fun W=>bytes_is r.k (g:=r.g) W;have TR:=fun (W:World) (v:Value) (h:IsL W .u8 v (r.k.msg ++ r.g))=>tread_ok r.k r.hg W h;have SB:=fun (W:World) (v1 v2:Value) (h1:IsL W .u8 v1 r.k.msg) (h2:IsL W .u8 v2 r.k.msg)=>sameb_tt W h1 h2
 obtain ⟨q,hq⟩:=bool_ex (HasKey r.k.t r.k.e);have IS:=fun W=>ris_is hq W
 have EV:=fun (W:World)=>eq_tok_self r.k r.hg W;have EG:=fun W=>tp_eqd r.hg r.hg (b:=true) ⟨fun _=>rfl,fun _=>rfl⟩ W
 have wt:IntKind.u64.wrap r.k.t=r.k.t:=by have:=r.k.ht;rw [IntKind.wrap_u64];omega
 have wu:IntKind.u64.wrap r.k.u=r.k.u:=by have:=r.k.hu;rw [IntKind.wrap_u64];omega
 have we:IntKind.u64.wrap r.k.e=r.k.e:=by have:=r.k.he;rw [IntKind.wrap_u64];omega
 have wp:IntKind.u64.wrap r.ep=r.ep:=by have:=r.hep;rw [IntKind.wrap_u64];omega
 have wc:IntKind.u64.wrap r.co=r.co:=by have:=r.hco;rw [IntKind.wrap_u64];omega
 have SS:=Lib.hid (size_dig hS);have LS:=Lib.hid (len_dig hS);have OS:=Lib.hid (oneCell_ints (k:=.u8) S)
 have SW:=Lib.hid (size_frm (Frm.req r));have LW:=Lib.hid (len_frm Frm.zero (Frm.req r));have OW:=Lib.hid (one_frm (Frm.req r))
 have SK:=Lib.hid (size_tok r.k r.hg);have LK:Hid (zeroTk.length=(tcell r.k r.g).length):=Lib.hid (len_tok Nums.zero r.k zd32 r.hg);have OK:=Lib.hid (tcell_one r.k r.g)
 have SG:=Lib.hid (size_dig r.hg)
 have hm:=r.k.msg_len;have SM:=Lib.hid (size_msg hm);have LM:=Lib.hid (len_msg hm);have OM:=Lib.hid (oneCell_ints (k:=.u8) r.k.msg);have LMM:=Lib.hid (fun (W:World) (b:Nat) (h:Box W b (r.k.msg.map (Value.int .u8)))=>IsL.boxed 20 hm h (by omega))
 have DT:Hid ((mcell (Frm.req r)).drop 1=tcell r.k r.g ++ ([Value.int .u16 r.ep,Value.int .u32 r.co] ++ ccell Cmd.zero)):=Lib.hid (by show (tcell r.k r.g ++ [Value.int .u16 r.ep,Value.int .u32 r.co]) ++ ccell Cmd.zero=_;rw [List.append_assoc]);have DG:Hid ((tcell r.k r.g).drop 4=r.g.map (Value.int .u8) ++ []):=Lib.hid (by rw [List.append_nil];rfl)
 have f37:(mcell (Frm.req r))[37]? = some (.int .u16 r.ep):=mcell_ep (Frm.req r);have f38:(mcell (Frm.req r))[38]? = some (.int .u32 r.co):=mcell_co (Frm.req r)
 have t0:(tcell r.k r.g)[0]? = some (.int .u32 r.k.t):=rfl
 have t1:(tcell r.k r.g)[1]? = some (.int .u32 r.k.u):=rfl
 have t2:(tcell r.k r.g)[2]? = some (.int .u32 r.k.e):=rfl
 have t3:(tcell r.k r.g)[3]? = some (.int .u64 r.k.x):=rfl
 have y1:∃ f,(rrow r)[1]? = some f∧f.v[1]? = some (.int .u64 r.k.t):=⟨_,rfl,rfl⟩
 have y2:∃ f,(rrow r)[2]? = some f∧f.v[1]? = some (.int .u64 r.k.u):=⟨_,rfl,rfl⟩
 have y3:∃ f,(rrow r)[3]? = some f∧f.v[1]? = some (.int .u64 r.k.e):=⟨_,rfl,rfl⟩
 have y4:∃ f,(rrow r)[4]? = some f∧f.v[1]? = some (.int .u64 r.k.x):=⟨_,rfl,rfl⟩
 have y5:∃ f,(rrow r)[5]? = some f∧f.v.drop 2=r.g.map (Value.int .u8):=⟨_,rfl,rfl⟩
 have y6:∃ f,(rrow r)[6]? = some f∧f.v[1]? = some (.int .u64 r.ep):=⟨_,rfl,rfl⟩
 have y7:∃ f,(rrow r)[7]? = some f∧f.v[1]? = some (.int .u64 r.co):=⟨_,rfl,rfl⟩
 have hR:(rrow r).length=8:=rfl;have HR:=Lib.hid hR;clear hR
 obtain ⟨R,hR⟩:∃ R,[Value.int .u16 r.ep,Value.int .u32 r.co] ++ ccell Cmd.zero=R:=⟨_,rfl⟩;rw [hR] at DT;clear hR
 obtain ⟨FS,hFS⟩:∃ X,rrow r=X:=⟨_,rfl⟩
 rw [hFS] at RD HR y1 y2 y3 y4 y5 y6 y7
 clear hFS
 obtain ⟨V,hV⟩:∃ X,mcell (Frm.req r)=X:=⟨_,rfl⟩
 rw [hV] at SW LW OW DT f37 f38 ⊢
 clear hV
 obtain ⟨TV,hTV⟩:∃ X,tcell r.k r.g=X:=⟨_,rfl⟩
 rw [hTV] at BY TR EV SK LK OK DT DG t0 t1 t2 t3
 clear hTV
 obtain ⟨US,hUS⟩:∃ X,S.map (Value.int .u8)=X:=⟨_,rfl⟩
 rw [hUS] at SS LS OS ⊢
 clear hUS
 obtain ⟨M,hM⟩:∃ X,r.k.msg=X:=⟨_,rfl⟩;rw [hM] at BY TR SB S21 S53 SM LM OM LMM hm;clear hM
 have HM:=Lib.hid hm;clear hm
 obtain ⟨MM,hMM⟩:∃ X,M.map (Value.int .u8)=X:=⟨_,rfl⟩
 rw [hMM] at BY SM LM OM LMM
 clear hMM
 obtain ⟨UG,hUG⟩:∃ X,r.g.map (Value.int .u8)=X:=⟨_,rfl⟩
 rw [hUG] at EG DG SG y5
 clear hUG
 obtain ⟨XS,hX⟩:∃ X,1 :: r.bs=X:=⟨_,rfl⟩;rw [hX] at RD SL;clear hX
 obtain ⟨Z,hZ⟩:∃ X,M ++ r.g=X:=⟨_,rfl⟩;rw [hZ] at TR S53;clear hZ
 obtain ⟨xt,hxt⟩:∃ X,r.k.t=X:=⟨_,rfl⟩;rw [hxt] at IS wt t0 y1;clear hxt
 obtain ⟨xu,hxu⟩:∃ X,r.k.u=X:=⟨_,rfl⟩;rw [hxu] at wu t1 y2;clear hxu
 obtain ⟨xe,hxe⟩:∃ X,r.k.e=X:=⟨_,rfl⟩;rw [hxe] at IS we t2 y3;clear hxe
 obtain ⟨xx,hxx⟩:∃ X,r.k.x=X:=⟨_,rfl⟩;rw [hxx] at t3 y4;clear hxx
 obtain ⟨xp,hxp⟩:∃ X,r.ep=X:=⟨_,rfl⟩;rw [hxp] at wp f37 y6;clear hxp
 obtain ⟨xc,hxc⟩:∃ X,r.co=X:=⟨_,rfl⟩;rw [hxc] at wc f38 y7;clear hxc
 have hq0:q=false:=by
   cases q with
   | false=>rfl
   | true=>exact absurd (hq.1 rfl) hk
 subst hq0;clear hq hb hk
 go_enter Tryz.func11,Tryz.ntmps11
 go_upto_region 1 with fail
 refine F_gen (F:=fun W=>Code.wp _ _ _ _ W) (J:=fun W=>Box W (w.heap.size) (US)∧Box W (w.heap.size + 1) (V)∧Below w.heap.size w W) (And.intro (Box.alloc (Box.newc rfl rfl) _) (And.intro (Box.newc rfl (by simp)) (by go_grown))) ?_
 intro w0 ⟨e_s,e_f,hB0⟩
 have hs0:=hB0.size
 have x_s0:=e_s;clear e_s
 have x_f0:=e_f;clear e_f
 have J_b0:Hid (IsL w0 .u8 (.slice (some ⟨bb,off,none⟩) 59 c0) XS):=Lib.hid (SL.out.below hB0)
 have J_m0:Hid (IsL w0 .u8 (.slice (some ⟨bb,off + 1,none⟩) 20 (c0 - 1)) M):=Lib.hid (S21.out.below hB0)
 have J_z0:Hid (IsL w0 .u8 (.slice (some ⟨bb,off + 1,none⟩) 52 (c0 - 1)) Z):=Lib.hid (S53.out.below hB0)
 clear SL S21 S53
 have d_t_s:=(x_s0).lt
 have d_t_f:=(x_f0).lt
 have d_t_0:=hs0
 go_upto_region 2 with (first
   | (refine wpList_load_rangew rfl _ _ rfl (Box.rangeMid x_f0 1 (TV) (R) DT.out) rfl Tryz.underlying27 rfl SK.out ?_)
   | (refine wpList_store_box (cs:=TV) rfl _ _ _ rfl (Box.newc (l:=zeroTk) rfl rfl) rfl rfl SK.out LK.out OK.out ?_;intro W0_0 hW0_0))
 have hN:Below w0.heap.size w0 W0_0:=(hW0_0.below _ _ (by omega) ((Below.refl _ w0).alloc (Nat.le_refl _) _))
 have x_t1:Box W0_0 (w0.heap.size) (TV):=hW0_0.box
 have hB1:Below w.heap.size w W0_0:=below_thru hB0 hN
 have hs1:=hB1.size
 have x_s1:Box W0_0 (w.heap.size) (US):=Box.below x_s0 hN
 have x_f1:Box W0_0 (w.heap.size + 1) (V):=Box.below x_f0 hN
 have J_b1:Hid (IsL W0_0 .u8 (.slice (some ⟨bb,off,none⟩) 59 c0) XS):=Lib.hid (IsL.below J_b0.out hN)
 have J_m1:Hid (IsL W0_0 .u8 (.slice (some ⟨bb,off + 1,none⟩) 20 (c0 - 1)) M):=Lib.hid (IsL.below J_m0.out hN)
 have J_z1:Hid (IsL W0_0 .u8 (.slice (some ⟨bb,off + 1,none⟩) 52 (c0 - 1)) Z):=Lib.hid (IsL.below J_z0.out hN)
 clear hB0 hs0 x_s0 x_f0 J_b0 J_m0 J_z0
 clear hN hW0_0
 have LB:IsL (W0_0.alloc (.cells #[.int .u8 2,.int .u8 4,.int .u8 4,.int .u8 4,.int .u8 5,.int .u8 6,.int .u8 3,.int .u8 4] 5)) .u8 (.slice (some ⟨W0_0.heap.size,0,none⟩) 8 8) kinQ:=IsL.built kinQ rfl rfl rfl rfl (by decide)
 go_wp2_with fail
 refine (RD _ _ _ LB (J_b1.out.alloc _)).mono ?_
 rintro e w2 ⟨vr,rfl,hor,hb⟩
 have HI:IsR LF w2 vr FS:=IsR.own hor rfl rfl
 have hN:Below W0_0.heap.size W0_0 w2:=below_thru ((Below.refl _ _).alloc (Nat.le_refl _) _) hb
 clear hb LB hor
 have hB2:Below w.heap.size w w2:=below_thru hB1 hN
 have hs2:=hB2.size
 have x_s2:Box w2 (w.heap.size) (US):=Box.below x_s1 hN
 have x_f2:Box w2 (w.heap.size + 1) (V):=Box.below x_f1 hN
 have x_t2:Box w2 (w0.heap.size) (TV):=Box.below x_t1 hN
 have J_b2:Hid (IsL w2 .u8 (.slice (some ⟨bb,off,none⟩) 59 c0) XS):=Lib.hid (IsL.below J_b1.out hN)
 have J_m2:Hid (IsL w2 .u8 (.slice (some ⟨bb,off + 1,none⟩) 20 (c0 - 1)) M):=Lib.hid (IsL.below J_m1.out hN)
 have J_z2:Hid (IsL w2 .u8 (.slice (some ⟨bb,off + 1,none⟩) 52 (c0 - 1)) Z):=Lib.hid (IsL.below J_z1.out hN)
 clear hB1 hs1 x_s1 x_f1 x_t1 J_b1 J_m1 J_z1
 clear hN
 clear J_b2
 obtain ⟨aR,cR,rfl,hr3⟩:=id HI;have i3:=hr3.room;have i4:=hr3.most;clear hr3
 obtain ⟨f1,e1,g1⟩:=y1;obtain ⟨bR,oR,rfl,hR1⟩:=HI.get 34 rfl e1;have c1:=hR1 1 _ g1
 obtain ⟨f2,e2,g2⟩:=y2;obtain ⟨_,_,hh,hR2⟩:=HI.get 34 rfl e2;cases hh;have c2:=hR2 1 _ g2
 obtain ⟨f3,e3,g3⟩:=y3;obtain ⟨_,_,hh,hR3⟩:=HI.get 34 rfl e3;cases hh;have c3:=hR3 1 _ g3
 obtain ⟨f4,e4,g4⟩:=y4;obtain ⟨_,_,hh,hR4⟩:=HI.get 34 rfl e4;cases hh;have c4:=hR4 1 _ g4
 obtain ⟨f6,e6,g6⟩:=y6;obtain ⟨_,_,hh,hR6⟩:=HI.get 34 rfl e6;cases hh;have c6:=hR6 1 _ g6
 obtain ⟨f7,e7,g7⟩:=y7;obtain ⟨_,_,hh,hR7⟩:=HI.get 34 rfl e7;cases hh;have c7:=hR7 1 _ g7
 obtain ⟨f5,e5,g5⟩:=y5;obtain ⟨_,_,hh,hR5⟩:=HI.get 34 rfl e5;cases hh
 have r5:w2.rangeAt bR (oR + 5 * 34 + 2) UG:=fun j v hj=>by have:=hR5 (2 + j) v (by rw [← g5,List.getElem?_drop] at hj;exact hj);rwa [show oR + 5 * 34 + (2 + j)=oR + 5 * 34 + 2 + j by omega] at this
 rw [HR.out] at i3 ⊢;clear HI hR1 hR2 hR3 hR4 hR5 hR6 hR7 e1 e2 e3 e4 e5 e6 e7 g1 g2 g3 g4 g5 g6 g7 f1 f2 f3 f4 f5 f6 f7 HR
 go_upto_region 3 with fail
 refine wp_region_held_drew (S:=fun W=>Box W (w.heap.size) (US)∧Box W (w.heap.size + 1) (V)∧Box W (w0.heap.size) (TV)∧W.cell? ⟨bR,oR + 35,none⟩=some (.int .u64 xt)∧W.cell? ⟨bR,oR + 69,none⟩=some (.int .u64 xu)∧W.cell? ⟨bR,oR + 103,none⟩=some (.int .u64 xe)∧W.cell? ⟨bR,oR + 137,none⟩=some (.int .u64 xx)∧W.cell? ⟨bR,oR + 205,none⟩=some (.int .u64 xp)∧W.cell? ⟨bR,oR + 239,none⟩=some (.int .u64 xc)∧W.rangeAt (bR) (oR + 172) (UG)) (by kernel_rfl) (And.intro (x_s2).drew (And.intro (x_f2).drew (And.intro (x_t2).drew (And.intro c1 (And.intro c2 (And.intro c3 (And.intro c4 (And.intro c6 (And.intro c7 r5))))))))) (fun _=>?_)
 refine F_drew (F:=fun W=>wpAnyH _ _ _ _ _ _ _ _ W) ?_
 intro Wa0 hba0
 clear hs2
 have x_s_a0:Box Wa0 (w.heap.size) (US):=Box.below x_s2 hba0
 have x_f_a0:Box Wa0 (w.heap.size + 1) (V):=Box.below x_f2 hba0
 have x_t_a0:Box Wa0 (w0.heap.size) (TV):=Box.below x_t2 hba0
 have c_n1_a0:=cell_below hba0 c1
 have c_n2_a0:=cell_below hba0 c2
 have c_n3_a0:=cell_below hba0 c3
 have c_n4_a0:=cell_below hba0 c4
 have c_n6_a0:=cell_below hba0 c6
 have c_n7_a0:=cell_below hba0 c7
 have c_d5_a0:=range_below r5 hba0
 have j_m_a0:=Lib.hid (IsL.below J_m2.out hba0)
 have j_z_a0:=Lib.hid (IsL.below J_z2.out hba0)
 have Ba0:=below_thru hB2 hba0
 clear x_s2 x_f2 x_t2 c1 c2 c3 c4 c6 c7 r5 J_m2 J_z2 hB2 hba0
 refine takeH 0 32 (v:=?va0_1) rfl (by rfl) (by kernel_rfl) (by kernel_rfl) (by kernel_rfl) (fun _ _ _ h=>h) (Or.inl ⟨by rfl,?_⟩) ((And.intro x_s_a0 (And.intro x_f_a0 (And.intro x_t_a0 (And.intro c_n1_a0 (And.intro c_n2_a0 (And.intro c_n3_a0 (And.intro c_n4_a0 (And.intro c_n6_a0 (And.intro c_n7_a0 c_d5_a0)))))))))) ?_
 rotate_left
 · intro wq hSq
   go_simp
   exact rfl
 try simp only [Act.put,qzA,qz0,qzS]
 refine takeH 1 33 (v:=?va1_2) rfl (by rfl) (by kernel_rfl) (by kernel_rfl) (by kernel_rfl) (fun _ _ _ h=>h) (Or.inl ⟨by rfl,?_⟩) ((And.intro x_s_a0 (And.intro x_f_a0 (And.intro x_t_a0 (And.intro c_n1_a0 (And.intro c_n2_a0 (And.intro c_n3_a0 (And.intro c_n4_a0 (And.intro c_n6_a0 (And.intro c_n7_a0 c_d5_a0)))))))))) ?_
 rotate_left
 · intro wq hSq
   go_simp
   exact rfl
 try simp only [Act.put,qzA,qz0,qzS]
 refine takeH 2 34 (v:=?va2_3) rfl (by rfl) (by kernel_rfl) (by kernel_rfl) (by kernel_rfl) (fun _ _ _ h=>h) (Or.inl ⟨by rfl,?_⟩) ((And.intro x_s_a0 (And.intro x_f_a0 (And.intro x_t_a0 (And.intro c_n1_a0 (And.intro c_n2_a0 (And.intro c_n3_a0 (And.intro c_n4_a0 (And.intro c_n6_a0 (And.intro c_n7_a0 c_d5_a0)))))))))) ?_
 rotate_left
 · intro wq hSq
   go_simp
   exact rfl
 try simp only [Act.put,qzA,qz0,qzS]
 refine takeH 3 35 (v:=?va3_4) rfl (by rfl) (by kernel_rfl) (by kernel_rfl) (by kernel_rfl) (fun _ _ _ h=>h) (Or.inl ⟨by rfl,?_⟩) ((And.intro x_s_a0 (And.intro x_f_a0 (And.intro x_t_a0 (And.intro c_n1_a0 (And.intro c_n2_a0 (And.intro c_n3_a0 (And.intro c_n4_a0 (And.intro c_n6_a0 (And.intro c_n7_a0 c_d5_a0)))))))))) ?_
 rotate_left
 · intro wq hSq
   go_simp
   exact rfl
 try simp only [Act.put,qzA,qz0,qzS]
 refine takeH 4 36 (v:=?va4_5) rfl (by rfl) (by kernel_rfl) (by kernel_rfl) (by kernel_rfl) (fun _ _ _ h=>h) (Or.inl ⟨by rfl,?_⟩) ((And.intro x_s_a0 (And.intro x_f_a0 (And.intro x_t_a0 (And.intro c_n1_a0 (And.intro c_n2_a0 (And.intro c_n3_a0 (And.intro c_n4_a0 (And.intro c_n6_a0 (And.intro c_n7_a0 c_d5_a0)))))))))) ?_
 rotate_left
 · intro wq hSq
   go_simp
   exact rfl
 try simp only [Act.put,qzA,qz0,qzS]
 refine takeH 5 37 (v:=?va5_6) rfl (by rfl) (by kernel_rfl) (by kernel_rfl) (by kernel_rfl) (fun _ _ _ h=>h) (Or.inl ⟨by rfl,?_⟩) ((And.intro x_s_a0 (And.intro x_f_a0 (And.intro x_t_a0 (And.intro c_n1_a0 (And.intro c_n2_a0 (And.intro c_n3_a0 (And.intro c_n4_a0 (And.intro c_n6_a0 (And.intro c_n7_a0 c_d5_a0)))))))))) ?_
 rotate_left
 · intro wq hSq
   go_simp
   exact rfl
 try simp only [Act.put,qzA,qz0,qzS]
 refine takeH 6 38 (v:=?va6_7) rfl (by rfl) (by kernel_rfl) (by kernel_rfl) (by kernel_rfl) (fun _ _ _ h=>h) (Or.inl ⟨by rfl,?_⟩) ((And.intro x_s_a0 (And.intro x_f_a0 (And.intro x_t_a0 (And.intro c_n1_a0 (And.intro c_n2_a0 (And.intro c_n3_a0 (And.intro c_n4_a0 (And.intro c_n6_a0 (And.intro c_n7_a0 c_d5_a0)))))))))) ?_
 rotate_left
 · intro wq hSq
   go_simp
   exact rfl
 try simp only [Act.put,qzA,qz0,qzS]
 refine takeH 7 39 (v:=?va7_8) rfl (by rfl) (by kernel_rfl) (by kernel_rfl) (by kernel_rfl) (fun _ _ _ h=>h) (Or.inl ⟨by rfl,?_⟩) ((And.intro x_s_a0 (And.intro x_f_a0 (And.intro x_t_a0 (And.intro c_n1_a0 (And.intro c_n2_a0 (And.intro c_n3_a0 (And.intro c_n4_a0 (And.intro c_n6_a0 (And.intro c_n7_a0 c_d5_a0)))))))))) ?_
 rotate_left
 · intro wq hSq
   go_simp
   exact rfl
 try simp only [Act.put,qzA,qz0,qzS]
 refine takeH 8 40 (v:=?va8_9) rfl (by rfl) (by kernel_rfl) (by kernel_rfl) (by kernel_rfl) (fun _ _ _ h=>h) (Or.inl ⟨by rfl,?_⟩) ((And.intro x_s_a0 (And.intro x_f_a0 (And.intro x_t_a0 (And.intro c_n1_a0 (And.intro c_n2_a0 (And.intro c_n3_a0 (And.intro c_n4_a0 (And.intro c_n6_a0 (And.intro c_n7_a0 c_d5_a0)))))))))) ?_
 rotate_left
 · intro wq hSq
   go_simp
   exact rfl
 try simp only [Act.put,qzA,qz0,qzS]
 refine takeH 9 41 (v:=?va9_10) rfl (by rfl) (by kernel_rfl) (by kernel_rfl) (by kernel_rfl) (fun _ _ _ h=>h) (Or.inl ⟨by rfl,?_⟩) ((And.intro x_s_a0 (And.intro x_f_a0 (And.intro x_t_a0 (And.intro c_n1_a0 (And.intro c_n2_a0 (And.intro c_n3_a0 (And.intro c_n4_a0 (And.intro c_n6_a0 (And.intro c_n7_a0 c_d5_a0)))))))))) ?_
 rotate_left
 · intro wq hSq
   go_simp
   exact rfl
 try simp only [Act.put,qzA,qz0,qzS]
 refine takeH 10 42 (v:=?va10_11) rfl (by rfl) (by kernel_rfl) (by kernel_rfl) (by kernel_rfl) (fun _ _ _ h=>h) (Or.inl ⟨by rfl,?_⟩) ((And.intro x_s_a0 (And.intro x_f_a0 (And.intro x_t_a0 (And.intro c_n1_a0 (And.intro c_n2_a0 (And.intro c_n3_a0 (And.intro c_n4_a0 (And.intro c_n6_a0 (And.intro c_n7_a0 c_d5_a0)))))))))) ?_
 rotate_left
 · intro wq hSq
   go_simp
   exact rfl
 try simp only [Act.put,qzA,qz0,qzS]
 refine takeH 11 43 (v:=?va11_12) rfl (by rfl) (by kernel_rfl) (by kernel_rfl) (by kernel_rfl) (fun _ _ _ h=>h) (Or.inl ⟨by rfl,?_⟩) ((And.intro x_s_a0 (And.intro x_f_a0 (And.intro x_t_a0 (And.intro c_n1_a0 (And.intro c_n2_a0 (And.intro c_n3_a0 (And.intro c_n4_a0 (And.intro c_n6_a0 (And.intro c_n7_a0 c_d5_a0)))))))))) ?_
 rotate_left
 · intro wq hSq
   have cq:=hSq.2.2.2.1
   have zq:=lt_of_cell cq
   go_simp
   exact rfl
 try simp only [Act.put,qzA,qz0,qzS]
 refine takeH 12 44 (v:=?va12_13) rfl (by rfl) (by kernel_rfl) (by kernel_rfl) (by kernel_rfl) (fun _ _ _ h=>h) (Or.inl ⟨by rfl,?_⟩) ((And.intro x_s_a0 (And.intro x_f_a0 (And.intro x_t_a0 (And.intro c_n1_a0 (And.intro c_n2_a0 (And.intro c_n3_a0 (And.intro c_n4_a0 (And.intro c_n6_a0 (And.intro c_n7_a0 c_d5_a0)))))))))) ?_
 rotate_left
 · intro wq hSq
   go_simp
   exact rfl
 try simp only [Act.put,qzA,qz0,qzS]
 refine takeH 13 45 (v:=?va13_14) rfl (by rfl) (by kernel_rfl) (by kernel_rfl) (by kernel_rfl) (fun _ _ _ h=>h) (Or.inl ⟨by rfl,?_⟩) ((And.intro x_s_a0 (And.intro x_f_a0 (And.intro x_t_a0 (And.intro c_n1_a0 (And.intro c_n2_a0 (And.intro c_n3_a0 (And.intro c_n4_a0 (And.intro c_n6_a0 (And.intro c_n7_a0 c_d5_a0)))))))))) ?_
 rotate_left
 · intro wq hSq
   have cq:=(hSq.2.2.1).c 0 _ t0
   have zq:=lt_of_cell cq
   go_simp
   exact rfl
 try simp only [Act.put,qzA,qz0,qzS]
 refine takeH 14 46 (v:=?va14_15) rfl (by rfl) (by kernel_rfl) (by kernel_rfl) (by kernel_rfl) (fun _ _ _ h=>h) (Or.inl ⟨by rfl,?_⟩) ((And.intro x_s_a0 (And.intro x_f_a0 (And.intro x_t_a0 (And.intro c_n1_a0 (And.intro c_n2_a0 (And.intro c_n3_a0 (And.intro c_n4_a0 (And.intro c_n6_a0 (And.intro c_n7_a0 c_d5_a0)))))))))) ?_
 rotate_left
 · intro wq hSq
   go_simp
   exact rfl
 try simp only [Act.put,qzA,qz0,qzS]
 refine takeH 15 47 (v:=?va15_16) rfl (by rfl) (by kernel_rfl) (by kernel_rfl) (by kernel_rfl) (fun _ _ _ h=>h) (Or.inl ⟨by rfl,?_⟩) ((And.intro x_s_a0 (And.intro x_f_a0 (And.intro x_t_a0 (And.intro c_n1_a0 (And.intro c_n2_a0 (And.intro c_n3_a0 (And.intro c_n4_a0 (And.intro c_n6_a0 (And.intro c_n7_a0 c_d5_a0)))))))))) ?_
 rotate_left
 · intro wq hSq
   go_simp
   exact rfl
 try simp only [Act.put,qzA,qz0,qzS]
 refine takeH 16 48 (v:=?va16_17) rfl (by rfl) (by kernel_rfl) (by kernel_rfl) (by kernel_rfl) (fun _ _ _ h=>h) (Or.inl ⟨by rfl,?_⟩) ((And.intro x_s_a0 (And.intro x_f_a0 (And.intro x_t_a0 (And.intro c_n1_a0 (And.intro c_n2_a0 (And.intro c_n3_a0 (And.intro c_n4_a0 (And.intro c_n6_a0 (And.intro c_n7_a0 c_d5_a0)))))))))) ?_
 rotate_left
 · intro wq hSq
   go_simp
   exact rfl
 try simp only [Act.put,qzA,qz0,qzS]
 refine takeH 17 49 (v:=?va17_18) rfl (by rfl) (by kernel_rfl) (by kernel_rfl) (by kernel_rfl) (fun _ _ _ h=>h) (Or.inl ⟨by rfl,?_⟩) ((And.intro x_s_a0 (And.intro x_f_a0 (And.intro x_t_a0 (And.intro c_n1_a0 (And.intro c_n2_a0 (And.intro c_n3_a0 (And.intro c_n4_a0 (And.intro c_n6_a0 (And.intro c_n7_a0 c_d5_a0)))))))))) ?_
 rotate_left
 · intro wq hSq
   go_simp
   exact rfl
 try simp only [Act.put,qzA,qz0,qzS]
 refine takeH 18 50 (v:=?va18_19) rfl (by rfl) (by kernel_rfl) (by kernel_rfl) (by kernel_rfl) (fun _ _ _ h=>h) (Or.inl ⟨by rfl,?_⟩) ((And.intro x_s_a0 (And.intro x_f_a0 (And.intro x_t_a0 (And.intro c_n1_a0 (And.intro c_n2_a0 (And.intro c_n3_a0 (And.intro c_n4_a0 (And.intro c_n6_a0 (And.intro c_n7_a0 c_d5_a0)))))))))) ?_
 rotate_left
 · intro wq hSq
   go_simp
   exact rfl
 try simp only [Act.put,qzA,qz0,qzS]
 refine takeH 19 51 (v:=?va19_20) rfl (by rfl) (by kernel_rfl) (by kernel_rfl) (by kernel_rfl) (fun _ _ _ h=>h) (Or.inl ⟨by rfl,?_⟩) ((And.intro x_s_a0 (And.intro x_f_a0 (And.intro x_t_a0 (And.intro c_n1_a0 (And.intro c_n2_a0 (And.intro c_n3_a0 (And.intro c_n4_a0 (And.intro c_n6_a0 (And.intro c_n7_a0 c_d5_a0)))))))))) ?_
 rotate_left
 · intro wq hSq
   go_simp
   exact rfl
 try simp only [Act.put,qzA,qz0,qzS]
 refine takeH 20 52 (v:=?va20_21) rfl (by rfl) (by kernel_rfl) (by kernel_rfl) (by kernel_rfl) (fun _ _ _ h=>h) (Or.inl ⟨by rfl,?_⟩) ((And.intro x_s_a0 (And.intro x_f_a0 (And.intro x_t_a0 (And.intro c_n1_a0 (And.intro c_n2_a0 (And.intro c_n3_a0 (And.intro c_n4_a0 (And.intro c_n6_a0 (And.intro c_n7_a0 c_d5_a0)))))))))) ?_
 rotate_left
 · intro wq hSq
   go_simp
   exact rfl
 try simp only [Act.put,qzA,qz0,qzS]
 refine takeH 21 53 (v:=?va21_22) rfl (by rfl) (by kernel_rfl) (by kernel_rfl) (by kernel_rfl) (fun _ _ _ h=>h) (Or.inl ⟨by rfl,?_⟩) ((And.intro x_s_a0 (And.intro x_f_a0 (And.intro x_t_a0 (And.intro c_n1_a0 (And.intro c_n2_a0 (And.intro c_n3_a0 (And.intro c_n4_a0 (And.intro c_n6_a0 (And.intro c_n7_a0 c_d5_a0)))))))))) ?_
 rotate_left
 · intro wq hSq
   have cq:=hSq.2.2.2.2.1
   have zq:=lt_of_cell cq
   go_simp
   exact rfl
 try simp only [Act.put,qzA,qz0,qzS]
 refine takeH 22 54 (v:=?va22_23) rfl (by rfl) (by kernel_rfl) (by kernel_rfl) (by kernel_rfl) (fun _ _ _ h=>h) (Or.inl ⟨by rfl,?_⟩) ((And.intro x_s_a0 (And.intro x_f_a0 (And.intro x_t_a0 (And.intro c_n1_a0 (And.intro c_n2_a0 (And.intro c_n3_a0 (And.intro c_n4_a0 (And.intro c_n6_a0 (And.intro c_n7_a0 c_d5_a0)))))))))) ?_
 rotate_left
 · intro wq hSq
   go_simp
   exact rfl
 try simp only [Act.put,qzA,qz0,qzS]
 refine takeH 23 55 (v:=?va23_24) rfl (by rfl) (by kernel_rfl) (by kernel_rfl) (by kernel_rfl) (fun _ _ _ h=>h) (Or.inl ⟨by rfl,?_⟩) ((And.intro x_s_a0 (And.intro x_f_a0 (And.intro x_t_a0 (And.intro c_n1_a0 (And.intro c_n2_a0 (And.intro c_n3_a0 (And.intro c_n4_a0 (And.intro c_n6_a0 (And.intro c_n7_a0 c_d5_a0)))))))))) ?_
 rotate_left
 · intro wq hSq
   have cq:=(hSq.2.2.1).c 1 _ t1
   have zq:=lt_of_cell cq
   go_simp
   exact rfl
 try simp only [Act.put,qzA,qz0,qzS]
 refine takeH 24 56 (v:=?va24_25) rfl (by rfl) (by kernel_rfl) (by kernel_rfl) (by kernel_rfl) (fun _ _ _ h=>h) (Or.inl ⟨by rfl,?_⟩) ((And.intro x_s_a0 (And.intro x_f_a0 (And.intro x_t_a0 (And.intro c_n1_a0 (And.intro c_n2_a0 (And.intro c_n3_a0 (And.intro c_n4_a0 (And.intro c_n6_a0 (And.intro c_n7_a0 c_d5_a0)))))))))) ?_
 rotate_left
 · intro wq hSq
   go_simp
   exact rfl
 try simp only [Act.put,qzA,qz0,qzS]
 refine takeH 25 57 (v:=?va25_26) rfl (by rfl) (by kernel_rfl) (by kernel_rfl) (by kernel_rfl) (fun _ _ _ h=>h) (Or.inl ⟨by rfl,?_⟩) ((And.intro x_s_a0 (And.intro x_f_a0 (And.intro x_t_a0 (And.intro c_n1_a0 (And.intro c_n2_a0 (And.intro c_n3_a0 (And.intro c_n4_a0 (And.intro c_n6_a0 (And.intro c_n7_a0 c_d5_a0)))))))))) ?_
 rotate_left
 · intro wq hSq
   go_simp
   exact rfl
 try simp only [Act.put,qzA,qz0,qzS]
 refine takeH 26 58 (v:=?va26_27) rfl (by rfl) (by kernel_rfl) (by kernel_rfl) (by kernel_rfl) (fun _ _ _ h=>h) (Or.inl ⟨by rfl,?_⟩) ((And.intro x_s_a0 (And.intro x_f_a0 (And.intro x_t_a0 (And.intro c_n1_a0 (And.intro c_n2_a0 (And.intro c_n3_a0 (And.intro c_n4_a0 (And.intro c_n6_a0 (And.intro c_n7_a0 c_d5_a0)))))))))) ?_
 rotate_left
 · intro wq hSq
   go_simp
   exact rfl
 try simp only [Act.put,qzA,qz0,qzS]
 refine takeH 27 59 (v:=?va27_28) rfl (by rfl) (by kernel_rfl) (by kernel_rfl) (by kernel_rfl) (fun _ _ _ h=>h) (Or.inl ⟨by rfl,?_⟩) ((And.intro x_s_a0 (And.intro x_f_a0 (And.intro x_t_a0 (And.intro c_n1_a0 (And.intro c_n2_a0 (And.intro c_n3_a0 (And.intro c_n4_a0 (And.intro c_n6_a0 (And.intro c_n7_a0 c_d5_a0)))))))))) ?_
 rotate_left
 · intro wq hSq
   go_simp
   exact rfl
 try simp only [Act.put,qzA,qz0,qzS]
 refine takeH 28 60 (v:=?va28_29) rfl (by rfl) (by kernel_rfl) (by kernel_rfl) (by kernel_rfl) (fun _ _ _ h=>h) (Or.inl ⟨by rfl,?_⟩) ((And.intro x_s_a0 (And.intro x_f_a0 (And.intro x_t_a0 (And.intro c_n1_a0 (And.intro c_n2_a0 (And.intro c_n3_a0 (And.intro c_n4_a0 (And.intro c_n6_a0 (And.intro c_n7_a0 c_d5_a0)))))))))) ?_
 rotate_left
 · intro wq hSq
   go_simp
   exact rfl
 try simp only [Act.put,qzA,qz0,qzS]
 refine takeH 29 61 (v:=?va29_30) rfl (by rfl) (by kernel_rfl) (by kernel_rfl) (by kernel_rfl) (fun _ _ _ h=>h) (Or.inl ⟨by rfl,?_⟩) ((And.intro x_s_a0 (And.intro x_f_a0 (And.intro x_t_a0 (And.intro c_n1_a0 (And.intro c_n2_a0 (And.intro c_n3_a0 (And.intro c_n4_a0 (And.intro c_n6_a0 (And.intro c_n7_a0 c_d5_a0)))))))))) ?_
 rotate_left
 · intro wq hSq
   go_simp
   exact rfl
 try simp only [Act.put,qzA,qz0,qzS]
 refine takeH 30 62 (v:=?va30_31) rfl (by rfl) (by kernel_rfl) (by kernel_rfl) (by kernel_rfl) (fun _ _ _ h=>h) (Or.inl ⟨by rfl,?_⟩) ((And.intro x_s_a0 (And.intro x_f_a0 (And.intro x_t_a0 (And.intro c_n1_a0 (And.intro c_n2_a0 (And.intro c_n3_a0 (And.intro c_n4_a0 (And.intro c_n6_a0 (And.intro c_n7_a0 c_d5_a0)))))))))) ?_
 rotate_left
 · intro wq hSq
   go_simp
   exact rfl
 try simp only [Act.put,qzA,qz0,qzS]
 refine takeH 31 63 (v:=?va31_32) rfl (by rfl) (by kernel_rfl) (by kernel_rfl) (by kernel_rfl) (fun _ _ _ h=>h) (Or.inl ⟨by rfl,?_⟩) ((And.intro x_s_a0 (And.intro x_f_a0 (And.intro x_t_a0 (And.intro c_n1_a0 (And.intro c_n2_a0 (And.intro c_n3_a0 (And.intro c_n4_a0 (And.intro c_n6_a0 (And.intro c_n7_a0 c_d5_a0)))))))))) ?_
 rotate_left
 · intro wq hSq
   have cq:=hSq.2.2.2.2.2.1
   have zq:=lt_of_cell cq
   go_simp
   exact rfl
 try simp only [Act.put,qzA,qz0,qzS]
 refine takeH 32 64 (v:=?va32_33) rfl (by rfl) (by kernel_rfl) (by kernel_rfl) (by kernel_rfl) (fun _ _ _ h=>h) (Or.inl ⟨by rfl,?_⟩) ((And.intro x_s_a0 (And.intro x_f_a0 (And.intro x_t_a0 (And.intro c_n1_a0 (And.intro c_n2_a0 (And.intro c_n3_a0 (And.intro c_n4_a0 (And.intro c_n6_a0 (And.intro c_n7_a0 c_d5_a0)))))))))) ?_
 rotate_left
 · intro wq hSq
   go_simp
   exact rfl
 try simp only [Act.put,qzA,qz0,qzS]
 refine takeH 33 65 (v:=?va33_34) rfl (by rfl) (by kernel_rfl) (by kernel_rfl) (by kernel_rfl) (fun _ _ _ h=>h) (Or.inl ⟨by rfl,?_⟩) ((And.intro x_s_a0 (And.intro x_f_a0 (And.intro x_t_a0 (And.intro c_n1_a0 (And.intro c_n2_a0 (And.intro c_n3_a0 (And.intro c_n4_a0 (And.intro c_n6_a0 (And.intro c_n7_a0 c_d5_a0)))))))))) ?_
 rotate_left
 · intro wq hSq
   have cq:=(hSq.2.2.1).c 2 _ t2
   have zq:=lt_of_cell cq
   go_simp
   exact rfl
 try simp only [Act.put,qzA,qz0,qzS]
 refine takeH 34 66 (v:=?va34_35) rfl (by rfl) (by kernel_rfl) (by kernel_rfl) (by kernel_rfl) (fun _ _ _ h=>h) (Or.inl ⟨by rfl,?_⟩) ((And.intro x_s_a0 (And.intro x_f_a0 (And.intro x_t_a0 (And.intro c_n1_a0 (And.intro c_n2_a0 (And.intro c_n3_a0 (And.intro c_n4_a0 (And.intro c_n6_a0 (And.intro c_n7_a0 c_d5_a0)))))))))) ?_
 rotate_left
 · intro wq hSq
   go_simp
   exact rfl
 try simp only [Act.put,qzA,qz0,qzS]
 refine takeH 35 67 (v:=?va35_36) rfl (by rfl) (by kernel_rfl) (by kernel_rfl) (by kernel_rfl) (fun _ _ _ h=>h) (Or.inl ⟨by rfl,?_⟩) ((And.intro x_s_a0 (And.intro x_f_a0 (And.intro x_t_a0 (And.intro c_n1_a0 (And.intro c_n2_a0 (And.intro c_n3_a0 (And.intro c_n4_a0 (And.intro c_n6_a0 (And.intro c_n7_a0 c_d5_a0)))))))))) ?_
 rotate_left
 · intro wq hSq
   go_simp
   exact rfl
 try simp only [Act.put,qzA,qz0,qzS]
 refine takeH 36 68 (v:=?va36_37) rfl (by rfl) (by kernel_rfl) (by kernel_rfl) (by kernel_rfl) (fun _ _ _ h=>h) (Or.inl ⟨by rfl,?_⟩) ((And.intro x_s_a0 (And.intro x_f_a0 (And.intro x_t_a0 (And.intro c_n1_a0 (And.intro c_n2_a0 (And.intro c_n3_a0 (And.intro c_n4_a0 (And.intro c_n6_a0 (And.intro c_n7_a0 c_d5_a0)))))))))) ?_
 rotate_left
 · intro wq hSq
   go_simp
   exact rfl
 try simp only [Act.put,qzA,qz0,qzS]
 refine takeH 37 69 (v:=?va37_38) rfl (by rfl) (by kernel_rfl) (by kernel_rfl) (by kernel_rfl) (fun _ _ _ h=>h) (Or.inl ⟨by rfl,?_⟩) ((And.intro x_s_a0 (And.intro x_f_a0 (And.intro x_t_a0 (And.intro c_n1_a0 (And.intro c_n2_a0 (And.intro c_n3_a0 (And.intro c_n4_a0 (And.intro c_n6_a0 (And.intro c_n7_a0 c_d5_a0)))))))))) ?_
 rotate_left
 · intro wq hSq
   go_simp
   exact rfl
 try simp only [Act.put,qzA,qz0,qzS]
 refine takeH 38 70 (v:=?va38_39) rfl (by rfl) (by kernel_rfl) (by kernel_rfl) (by kernel_rfl) (fun _ _ _ h=>h) (Or.inl ⟨by rfl,?_⟩) ((And.intro x_s_a0 (And.intro x_f_a0 (And.intro x_t_a0 (And.intro c_n1_a0 (And.intro c_n2_a0 (And.intro c_n3_a0 (And.intro c_n4_a0 (And.intro c_n6_a0 (And.intro c_n7_a0 c_d5_a0)))))))))) ?_
 rotate_left
 · intro wq hSq
   go_simp
   exact rfl
 try simp only [Act.put,qzA,qz0,qzS]
 refine takeH 39 71 (v:=?va39_40) rfl (by rfl) (by kernel_rfl) (by kernel_rfl) (by kernel_rfl) (fun _ _ _ h=>h) (Or.inl ⟨by rfl,?_⟩) ((And.intro x_s_a0 (And.intro x_f_a0 (And.intro x_t_a0 (And.intro c_n1_a0 (And.intro c_n2_a0 (And.intro c_n3_a0 (And.intro c_n4_a0 (And.intro c_n6_a0 (And.intro c_n7_a0 c_d5_a0)))))))))) ?_
 rotate_left
 · intro wq hSq
   go_simp
   exact rfl
 try simp only [Act.put,qzA,qz0,qzS]
 refine takeH 40 72 (v:=?va40_41) rfl (by rfl) (by kernel_rfl) (by kernel_rfl) (by kernel_rfl) (fun _ _ _ h=>h) (Or.inl ⟨by rfl,?_⟩) ((And.intro x_s_a0 (And.intro x_f_a0 (And.intro x_t_a0 (And.intro c_n1_a0 (And.intro c_n2_a0 (And.intro c_n3_a0 (And.intro c_n4_a0 (And.intro c_n6_a0 (And.intro c_n7_a0 c_d5_a0)))))))))) ?_
 rotate_left
 · intro wq hSq
   go_simp
   exact rfl
 try simp only [Act.put,qzA,qz0,qzS]
 refine takeH 41 73 (v:=?va41_42) rfl (by rfl) (by kernel_rfl) (by kernel_rfl) (by kernel_rfl) (fun _ _ _ h=>h) (Or.inl ⟨by rfl,?_⟩) ((And.intro x_s_a0 (And.intro x_f_a0 (And.intro x_t_a0 (And.intro c_n1_a0 (And.intro c_n2_a0 (And.intro c_n3_a0 (And.intro c_n4_a0 (And.intro c_n6_a0 (And.intro c_n7_a0 c_d5_a0)))))))))) ?_
 rotate_left
 · intro wq hSq
   have cq:=hSq.2.2.2.2.2.2.1
   have zq:=lt_of_cell cq
   go_simp
   exact rfl
 try simp only [Act.put,qzA,qz0,qzS]
 refine takeH 42 74 (v:=?va42_43) rfl (by rfl) (by kernel_rfl) (by kernel_rfl) (by kernel_rfl) (fun _ _ _ h=>h) (Or.inl ⟨by rfl,?_⟩) ((And.intro x_s_a0 (And.intro x_f_a0 (And.intro x_t_a0 (And.intro c_n1_a0 (And.intro c_n2_a0 (And.intro c_n3_a0 (And.intro c_n4_a0 (And.intro c_n6_a0 (And.intro c_n7_a0 c_d5_a0)))))))))) ?_
 rotate_left
 · intro wq hSq
   go_simp
   exact rfl
 try simp only [Act.put,qzA,qz0,qzS]
 refine takeH 43 75 (v:=?va43_44) rfl (by rfl) (by kernel_rfl) (by kernel_rfl) (by kernel_rfl) (fun _ _ _ h=>h) (Or.inl ⟨by rfl,?_⟩) ((And.intro x_s_a0 (And.intro x_f_a0 (And.intro x_t_a0 (And.intro c_n1_a0 (And.intro c_n2_a0 (And.intro c_n3_a0 (And.intro c_n4_a0 (And.intro c_n6_a0 (And.intro c_n7_a0 c_d5_a0)))))))))) ?_
 rotate_left
 · intro wq hSq
   have cq:=(hSq.2.2.1).c 3 _ t3
   have zq:=lt_of_cell cq
   go_simp
   exact rfl
 try simp only [Act.put,qzA,qz0,qzS]
 refine takeH 44 76 (v:=?va44_45) rfl (by rfl) (by kernel_rfl) (by kernel_rfl) (by kernel_rfl) (fun _ _ _ h=>h) (Or.inl ⟨by rfl,?_⟩) ((And.intro x_s_a0 (And.intro x_f_a0 (And.intro x_t_a0 (And.intro c_n1_a0 (And.intro c_n2_a0 (And.intro c_n3_a0 (And.intro c_n4_a0 (And.intro c_n6_a0 (And.intro c_n7_a0 c_d5_a0)))))))))) ?_
 rotate_left
 · intro wq hSq
   go_simp
   exact rfl
 try simp only [Act.put,qzA,qz0,qzS]
 refine takeH 45 77 (v:=?va45_46) rfl (by rfl) (by kernel_rfl) (by kernel_rfl) (by kernel_rfl) (fun _ _ _ h=>h) (Or.inl ⟨by rfl,?_⟩) ((And.intro x_s_a0 (And.intro x_f_a0 (And.intro x_t_a0 (And.intro c_n1_a0 (And.intro c_n2_a0 (And.intro c_n3_a0 (And.intro c_n4_a0 (And.intro c_n6_a0 (And.intro c_n7_a0 c_d5_a0)))))))))) ?_
 rotate_left
 · intro wq hSq
   go_simp
   exact rfl
 try simp only [Act.put,qzA,qz0,qzS]
 refine takeH 46 78 (v:=?va46_47) rfl (by rfl) (by kernel_rfl) (by kernel_rfl) (by kernel_rfl) (fun _ _ _ h=>h) (Or.inl ⟨by rfl,?_⟩) ((And.intro x_s_a0 (And.intro x_f_a0 (And.intro x_t_a0 (And.intro c_n1_a0 (And.intro c_n2_a0 (And.intro c_n3_a0 (And.intro c_n4_a0 (And.intro c_n6_a0 (And.intro c_n7_a0 c_d5_a0)))))))))) ?_
 rotate_left
 · intro wq hSq
   go_simp
   exact rfl
 try simp only [Act.put,qzA,qz0,qzS]
 refine takeH 47 79 (v:=?va47_48) rfl (by rfl) (by kernel_rfl) (by kernel_rfl) (by kernel_rfl) (fun _ _ _ h=>h) (Or.inl ⟨by rfl,?_⟩) ((And.intro x_s_a0 (And.intro x_f_a0 (And.intro x_t_a0 (And.intro c_n1_a0 (And.intro c_n2_a0 (And.intro c_n3_a0 (And.intro c_n4_a0 (And.intro c_n6_a0 (And.intro c_n7_a0 c_d5_a0)))))))))) ?_
 rotate_left
 · intro wq hSq
   go_simp
   exact rfl
 try simp only [Act.put,qzA,qz0,qzS]
 refine takeH 48 80 (v:=?va48_49) rfl (by rfl) (by kernel_rfl) (by kernel_rfl) (by kernel_rfl) (fun _ _ _ h=>h) (Or.inl ⟨by rfl,?_⟩) ((And.intro x_s_a0 (And.intro x_f_a0 (And.intro x_t_a0 (And.intro c_n1_a0 (And.intro c_n2_a0 (And.intro c_n3_a0 (And.intro c_n4_a0 (And.intro c_n6_a0 (And.intro c_n7_a0 c_d5_a0)))))))))) ?_
 rotate_left
 · intro wq hSq
   go_simp
   exact rfl
 try simp only [Act.put,qzA,qz0,qzS]
 refine takeH 49 81 (v:=?va49_50) rfl (by rfl) (by kernel_rfl) (by kernel_rfl) (by kernel_rfl) (fun _ _ _ h=>h) (Or.inl ⟨by rfl,?_⟩) ((And.intro x_s_a0 (And.intro x_f_a0 (And.intro x_t_a0 (And.intro c_n1_a0 (And.intro c_n2_a0 (And.intro c_n3_a0 (And.intro c_n4_a0 (And.intro c_n6_a0 (And.intro c_n7_a0 c_d5_a0)))))))))) ?_
 rotate_left
 · intro wq hSq
   go_simp
   exact rfl
 try simp only [Act.put,qzA,qz0,qzS]
 refine takeH 51 83 (v:=?va51_51) rfl (by rfl) (by kernel_rfl) (by kernel_rfl) (by kernel_rfl) (fun _ _ _ h=>h) (Or.inl ⟨by rfl,?_⟩) ((And.intro x_s_a0 (And.intro x_f_a0 (And.intro x_t_a0 (And.intro c_n1_a0 (And.intro c_n2_a0 (And.intro c_n3_a0 (And.intro c_n4_a0 (And.intro c_n6_a0 (And.intro c_n7_a0 c_d5_a0)))))))))) ?_
 rotate_left
 · intro wq hSq
   go_simp
   exact rfl
 try simp only [Act.put,qzA,qz0,qzS]
 refine takeH 50 82 (v:=.agg (UG).toArray) rfl (by rfl) (by kernel_rfl) (by kernel_rfl) (by kernel_rfl) (fun _ _ _ h=>h) (yieldsIf_load_mid (by rfl) _ _ rfl _ _ rfl (UG) _ (fun wq hq=>hq.2.2.2.2.2.2.2.2.2) Tryz.underlying23 rfl SG.out) ((And.intro x_s_a0 (And.intro x_f_a0 (And.intro x_t_a0 (And.intro c_n1_a0 (And.intro c_n2_a0 (And.intro c_n3_a0 (And.intro c_n4_a0 (And.intro c_n6_a0 (And.intro c_n7_a0 c_d5_a0)))))))))) ?_
 try simp only [Act.put,qzA,qz0,qzS]
 refine takeH 52 84 (v:=.agg (UG).toArray) rfl (by rfl) (by kernel_rfl) (by kernel_rfl) (by kernel_rfl) (fun _ _ _ h=>h) (yieldsIf_load_mid (by rfl) _ _ rfl _ _ rfl (UG) _ (fun wq hq=>Box.rangeMid (hq.2.2.1) 4 (UG) ([]) DG.out) Tryz.underlying23 rfl SG.out) ((And.intro x_s_a0 (And.intro x_f_a0 (And.intro x_t_a0 (And.intro c_n1_a0 (And.intro c_n2_a0 (And.intro c_n3_a0 (And.intro c_n4_a0 (And.intro c_n6_a0 (And.intro c_n7_a0 c_d5_a0)))))))))) ?_
 try simp only [Act.put,qzA,qz0,qzS]
 refine takeH 53 85 (v:=?va53_52) rfl (by rfl) (by kernel_rfl) (by kernel_rfl) (by kernel_rfl) (fun _ _ _ h=>h) (Or.inl ⟨by rfl,?_⟩) ((And.intro x_s_a0 (And.intro x_f_a0 (And.intro x_t_a0 (And.intro c_n1_a0 (And.intro c_n2_a0 (And.intro c_n3_a0 (And.intro c_n4_a0 (And.intro c_n6_a0 (And.intro c_n7_a0 c_d5_a0)))))))))) ?_
 rotate_left
 · intro wq hSq
   go_simp
   exact rfl
 try simp only [Act.put,qzA,qz0,qzS]
 refine takeH 54 86 (v:=?va54_53) rfl (by rfl) (by kernel_rfl) (by kernel_rfl) (by kernel_rfl) (fun _ _ _ h=>h) (Or.inl ⟨by rfl,?_⟩) ((And.intro x_s_a0 (And.intro x_f_a0 (And.intro x_t_a0 (And.intro c_n1_a0 (And.intro c_n2_a0 (And.intro c_n3_a0 (And.intro c_n4_a0 (And.intro c_n6_a0 (And.intro c_n7_a0 c_d5_a0)))))))))) ?_
 rotate_left
 · intro wq hSq
   go_simp
   exact rfl
 try simp only [Act.put,qzA,qz0,qzS]
 refine takeH 55 87 (v:=?va55_54) rfl (by rfl) (by kernel_rfl) (by kernel_rfl) (by kernel_rfl) (fun _ _ _ h=>h) (Or.inl ⟨by rfl,?_⟩) ((And.intro x_s_a0 (And.intro x_f_a0 (And.intro x_t_a0 (And.intro c_n1_a0 (And.intro c_n2_a0 (And.intro c_n3_a0 (And.intro c_n4_a0 (And.intro c_n6_a0 (And.intro c_n7_a0 c_d5_a0)))))))))) ?_
 rotate_left
 · intro wq hSq
   go_simp
   exact rfl
 try simp only [Act.put,qzA,qz0,qzS]
 refine takeH 56 88 (v:=?va56_55) rfl (by rfl) (by kernel_rfl) (by kernel_rfl) (by kernel_rfl) (fun _ _ _ h=>h) (Or.inl ⟨by rfl,?_⟩) ((And.intro x_s_a0 (And.intro x_f_a0 (And.intro x_t_a0 (And.intro c_n1_a0 (And.intro c_n2_a0 (And.intro c_n3_a0 (And.intro c_n4_a0 (And.intro c_n6_a0 (And.intro c_n7_a0 c_d5_a0)))))))))) ?_
 rotate_left
 · intro wq hSq
   go_simp
   exact rfl
 try simp only [Act.put,qzA,qz0,qzS]
 refine takeH 57 89 (v:=?va57_56) rfl (by rfl) (by kernel_rfl) (by kernel_rfl) (by kernel_rfl) (fun _ _ _ h=>h) (Or.inl ⟨by rfl,?_⟩) ((And.intro x_s_a0 (And.intro x_f_a0 (And.intro x_t_a0 (And.intro c_n1_a0 (And.intro c_n2_a0 (And.intro c_n3_a0 (And.intro c_n4_a0 (And.intro c_n6_a0 (And.intro c_n7_a0 c_d5_a0)))))))))) ?_
 rotate_left
 · intro wq hSq
   go_simp
   exact rfl
 try simp only [Act.put,qzA,qz0,qzS]
 refine takeH 58 90 (v:=?va58_57) rfl (by rfl) (by kernel_rfl) (by kernel_rfl) (by kernel_rfl) (fun _ _ _ h=>h) (Or.inl ⟨by rfl,?_⟩) ((And.intro x_s_a0 (And.intro x_f_a0 (And.intro x_t_a0 (And.intro c_n1_a0 (And.intro c_n2_a0 (And.intro c_n3_a0 (And.intro c_n4_a0 (And.intro c_n6_a0 (And.intro c_n7_a0 c_d5_a0)))))))))) ?_
 rotate_left
 · intro wq hSq
   go_simp
   exact rfl
 try simp only [Act.put,qzA,qz0,qzS]
 refine takeH 59 91 (v:=?va59_58) rfl (by rfl) (by kernel_rfl) (by kernel_rfl) (by kernel_rfl) (fun _ _ _ h=>h) (Or.inl ⟨by rfl,?_⟩) ((And.intro x_s_a0 (And.intro x_f_a0 (And.intro x_t_a0 (And.intro c_n1_a0 (And.intro c_n2_a0 (And.intro c_n3_a0 (And.intro c_n4_a0 (And.intro c_n6_a0 (And.intro c_n7_a0 c_d5_a0)))))))))) ?_
 rotate_left
 · intro wq hSq
   have cq:=hSq.2.2.2.2.2.2.2.1
   have zq:=lt_of_cell cq
   go_simp
   exact rfl
 try simp only [Act.put,qzA,qz0,qzS]
 refine takeH 60 92 (v:=?va60_59) rfl (by rfl) (by kernel_rfl) (by kernel_rfl) (by kernel_rfl) (fun _ _ _ h=>h) (Or.inl ⟨by rfl,?_⟩) ((And.intro x_s_a0 (And.intro x_f_a0 (And.intro x_t_a0 (And.intro c_n1_a0 (And.intro c_n2_a0 (And.intro c_n3_a0 (And.intro c_n4_a0 (And.intro c_n6_a0 (And.intro c_n7_a0 c_d5_a0)))))))))) ?_
 rotate_left
 · intro wq hSq
   go_simp
   exact rfl
 try simp only [Act.put,qzA,qz0,qzS]
 refine takeH 61 93 (v:=?va61_60) rfl (by rfl) (by kernel_rfl) (by kernel_rfl) (by kernel_rfl) (fun _ _ _ h=>h) (Or.inl ⟨by rfl,?_⟩) ((And.intro x_s_a0 (And.intro x_f_a0 (And.intro x_t_a0 (And.intro c_n1_a0 (And.intro c_n2_a0 (And.intro c_n3_a0 (And.intro c_n4_a0 (And.intro c_n6_a0 (And.intro c_n7_a0 c_d5_a0)))))))))) ?_
 rotate_left
 · intro wq hSq
   go_simp
   exact rfl
 try simp only [Act.put,qzA,qz0,qzS]
 refine takeH 62 94 (v:=?va62_61) rfl (by rfl) (by kernel_rfl) (by kernel_rfl) (by kernel_rfl) (fun _ _ _ h=>h) (Or.inl ⟨by rfl,?_⟩) ((And.intro x_s_a0 (And.intro x_f_a0 (And.intro x_t_a0 (And.intro c_n1_a0 (And.intro c_n2_a0 (And.intro c_n3_a0 (And.intro c_n4_a0 (And.intro c_n6_a0 (And.intro c_n7_a0 c_d5_a0)))))))))) ?_
 rotate_left
 · intro wq hSq
   have cq:=(hSq.2.1).c 37 _ f37
   have zq:=lt_of_cell cq
   go_simp
   exact rfl
 try simp only [Act.put,qzA,qz0,qzS]
 refine takeH 63 95 (v:=?va63_62) rfl (by rfl) (by kernel_rfl) (by kernel_rfl) (by kernel_rfl) (fun _ _ _ h=>h) (Or.inl ⟨by rfl,?_⟩) ((And.intro x_s_a0 (And.intro x_f_a0 (And.intro x_t_a0 (And.intro c_n1_a0 (And.intro c_n2_a0 (And.intro c_n3_a0 (And.intro c_n4_a0 (And.intro c_n6_a0 (And.intro c_n7_a0 c_d5_a0)))))))))) ?_
 rotate_left
 · intro wq hSq
   go_simp
   exact rfl
 try simp only [Act.put,qzA,qz0,qzS]
 refine takeH 64 96 (v:=?va64_63) rfl (by rfl) (by kernel_rfl) (by kernel_rfl) (by kernel_rfl) (fun _ _ _ h=>h) (Or.inl ⟨by rfl,?_⟩) ((And.intro x_s_a0 (And.intro x_f_a0 (And.intro x_t_a0 (And.intro c_n1_a0 (And.intro c_n2_a0 (And.intro c_n3_a0 (And.intro c_n4_a0 (And.intro c_n6_a0 (And.intro c_n7_a0 c_d5_a0)))))))))) ?_
 rotate_left
 · intro wq hSq
   go_simp
   exact rfl
 try simp only [Act.put,qzA,qz0,qzS]
 refine takeH 65 97 (v:=?va65_64) rfl (by rfl) (by kernel_rfl) (by kernel_rfl) (by kernel_rfl) (fun _ _ _ h=>h) (Or.inl ⟨by rfl,?_⟩) ((And.intro x_s_a0 (And.intro x_f_a0 (And.intro x_t_a0 (And.intro c_n1_a0 (And.intro c_n2_a0 (And.intro c_n3_a0 (And.intro c_n4_a0 (And.intro c_n6_a0 (And.intro c_n7_a0 c_d5_a0)))))))))) ?_
 rotate_left
 · intro wq hSq
   go_simp
   exact rfl
 try simp only [Act.put,qzA,qz0,qzS]
 refine takeH 66 98 (v:=?va66_65) rfl (by rfl) (by kernel_rfl) (by kernel_rfl) (by kernel_rfl) (fun _ _ _ h=>h) (Or.inl ⟨by rfl,?_⟩) ((And.intro x_s_a0 (And.intro x_f_a0 (And.intro x_t_a0 (And.intro c_n1_a0 (And.intro c_n2_a0 (And.intro c_n3_a0 (And.intro c_n4_a0 (And.intro c_n6_a0 (And.intro c_n7_a0 c_d5_a0)))))))))) ?_
 rotate_left
 · intro wq hSq
   go_simp
   exact rfl
 try simp only [Act.put,qzA,qz0,qzS]
 refine takeH 67 99 (v:=?va67_66) rfl (by rfl) (by kernel_rfl) (by kernel_rfl) (by kernel_rfl) (fun _ _ _ h=>h) (Or.inl ⟨by rfl,?_⟩) ((And.intro x_s_a0 (And.intro x_f_a0 (And.intro x_t_a0 (And.intro c_n1_a0 (And.intro c_n2_a0 (And.intro c_n3_a0 (And.intro c_n4_a0 (And.intro c_n6_a0 (And.intro c_n7_a0 c_d5_a0)))))))))) ?_
 rotate_left
 · intro wq hSq
   go_simp
   exact rfl
 try simp only [Act.put,qzA,qz0,qzS]
 refine takeH 68 100 (v:=?va68_67) rfl (by rfl) (by kernel_rfl) (by kernel_rfl) (by kernel_rfl) (fun _ _ _ h=>h) (Or.inl ⟨by rfl,?_⟩) ((And.intro x_s_a0 (And.intro x_f_a0 (And.intro x_t_a0 (And.intro c_n1_a0 (And.intro c_n2_a0 (And.intro c_n3_a0 (And.intro c_n4_a0 (And.intro c_n6_a0 (And.intro c_n7_a0 c_d5_a0)))))))))) ?_
 rotate_left
 · intro wq hSq
   go_simp
   exact rfl
 try simp only [Act.put,qzA,qz0,qzS]
 refine takeH 69 101 (v:=?va69_68) rfl (by rfl) (by kernel_rfl) (by kernel_rfl) (by kernel_rfl) (fun _ _ _ h=>h) (Or.inl ⟨by rfl,?_⟩) ((And.intro x_s_a0 (And.intro x_f_a0 (And.intro x_t_a0 (And.intro c_n1_a0 (And.intro c_n2_a0 (And.intro c_n3_a0 (And.intro c_n4_a0 (And.intro c_n6_a0 (And.intro c_n7_a0 c_d5_a0)))))))))) ?_
 rotate_left
 · intro wq hSq
   go_simp
   exact rfl
 try simp only [Act.put,qzA,qz0,qzS]
 refine takeH 70 102 (v:=?va70_69) rfl (by rfl) (by kernel_rfl) (by kernel_rfl) (by kernel_rfl) (fun _ _ _ h=>h) (Or.inl ⟨by rfl,?_⟩) ((And.intro x_s_a0 (And.intro x_f_a0 (And.intro x_t_a0 (And.intro c_n1_a0 (And.intro c_n2_a0 (And.intro c_n3_a0 (And.intro c_n4_a0 (And.intro c_n6_a0 (And.intro c_n7_a0 c_d5_a0)))))))))) ?_
 rotate_left
 · intro wq hSq
   have cq:=hSq.2.2.2.2.2.2.2.2.1
   have zq:=lt_of_cell cq
   go_simp
   exact rfl
 try simp only [Act.put,qzA,qz0,qzS]
 refine takeH 71 103 (v:=?va71_70) rfl (by rfl) (by kernel_rfl) (by kernel_rfl) (by kernel_rfl) (fun _ _ _ h=>h) (Or.inl ⟨by rfl,?_⟩) ((And.intro x_s_a0 (And.intro x_f_a0 (And.intro x_t_a0 (And.intro c_n1_a0 (And.intro c_n2_a0 (And.intro c_n3_a0 (And.intro c_n4_a0 (And.intro c_n6_a0 (And.intro c_n7_a0 c_d5_a0)))))))))) ?_
 rotate_left
 · intro wq hSq
   go_simp
   exact rfl
 try simp only [Act.put,qzA,qz0,qzS]
 refine takeH 72 104 (v:=?va72_71) rfl (by rfl) (by kernel_rfl) (by kernel_rfl) (by kernel_rfl) (fun _ _ _ h=>h) (Or.inl ⟨by rfl,?_⟩) ((And.intro x_s_a0 (And.intro x_f_a0 (And.intro x_t_a0 (And.intro c_n1_a0 (And.intro c_n2_a0 (And.intro c_n3_a0 (And.intro c_n4_a0 (And.intro c_n6_a0 (And.intro c_n7_a0 c_d5_a0)))))))))) ?_
 rotate_left
 · intro wq hSq
   go_simp
   exact rfl
 try simp only [Act.put,qzA,qz0,qzS]
 refine takeH 73 105 (v:=?va73_72) rfl (by rfl) (by kernel_rfl) (by kernel_rfl) (by kernel_rfl) (fun _ _ _ h=>h) (Or.inl ⟨by rfl,?_⟩) ((And.intro x_s_a0 (And.intro x_f_a0 (And.intro x_t_a0 (And.intro c_n1_a0 (And.intro c_n2_a0 (And.intro c_n3_a0 (And.intro c_n4_a0 (And.intro c_n6_a0 (And.intro c_n7_a0 c_d5_a0)))))))))) ?_
 rotate_left
 · intro wq hSq
   have cq:=(hSq.2.1).c 38 _ f38
   have zq:=lt_of_cell cq
   go_simp
   exact rfl
 try simp only [Act.put,qzA,qz0,qzS]
 refine takeH 74 106 (v:=?va74_73) rfl (by rfl) (by kernel_rfl) (by kernel_rfl) (by kernel_rfl) (fun _ _ _ h=>h) (Or.inl ⟨by rfl,?_⟩) ((And.intro x_s_a0 (And.intro x_f_a0 (And.intro x_t_a0 (And.intro c_n1_a0 (And.intro c_n2_a0 (And.intro c_n3_a0 (And.intro c_n4_a0 (And.intro c_n6_a0 (And.intro c_n7_a0 c_d5_a0)))))))))) ?_
 rotate_left
 · intro wq hSq
   go_simp
   exact rfl
 try simp only [Act.put,qzA,qz0,qzS]
 refine takeH 75 107 (v:=?va75_74) rfl (by rfl) (by kernel_rfl) (by kernel_rfl) (by kernel_rfl) (fun _ _ _ h=>h) (Or.inl ⟨by rfl,?_⟩) ((And.intro x_s_a0 (And.intro x_f_a0 (And.intro x_t_a0 (And.intro c_n1_a0 (And.intro c_n2_a0 (And.intro c_n3_a0 (And.intro c_n4_a0 (And.intro c_n6_a0 (And.intro c_n7_a0 c_d5_a0)))))))))) ?_
 rotate_left
 · intro wq hSq
   go_simp
   exact rfl
 try simp only [Act.put,qzA,qz0,qzS]
 refine takeH 76 108 (v:=?va76_75) rfl (by rfl) (by kernel_rfl) (by kernel_rfl) (by kernel_rfl) (fun _ _ _ h=>h) (Or.inl ⟨by rfl,?_⟩) ((And.intro x_s_a0 (And.intro x_f_a0 (And.intro x_t_a0 (And.intro c_n1_a0 (And.intro c_n2_a0 (And.intro c_n3_a0 (And.intro c_n4_a0 (And.intro c_n6_a0 (And.intro c_n7_a0 c_d5_a0)))))))))) ?_
 rotate_left
 · intro wq hSq
   go_simp
   exact rfl
 try simp only [Act.put,qzA,qz0,qzS]
 refine wpAnyH_done (by kernel_rfl) ?_ _
 have hB3:=Ba0;have hs3:=hB3.size
 have x_s3:=x_s_a0
 have x_f3:=x_f_a0
 have x_t3:=x_t_a0
 have J_m3:=j_m_a0
 have J_z3:=j_z_a0
 clear Ba0 x_s_a0 x_f_a0 x_t_a0 j_m_a0 j_z_a0
 go_wp2_with (refine wpList_load_box9 rfl _ _ rfl x_t3 rfl Tryz.underlying27 rfl SK.out ?_)
 refine (BY _).mono ?_
 rintro e w4 ⟨rfl,hb⟩
 have hB4:Below w.heap.size w w4:=below_thru hB3 hb
 have hs4:=hB4.size
 have x_s4:Box w4 (w.heap.size) (US):=Box.below x_s3 hb
 have x_f4:Box w4 (w.heap.size + 1) (V):=Box.below x_f3 hb
 have x_t4:Box w4 (w0.heap.size) (TV):=Box.below x_t3 hb
 have J_m4:Hid (IsL w4 .u8 (.slice (some ⟨bb,off + 1,none⟩) 20 (c0 - 1)) M):=Lib.hid (IsL.below J_m3.out hb)
 have J_z4:Hid (IsL w4 .u8 (.slice (some ⟨bb,off + 1,none⟩) 52 (c0 - 1)) Z):=Lib.hid (IsL.below J_z3.out hb)
 clear hB3 hs3 x_s3 x_f3 x_t3 J_m3 J_z3
 clear hb
 have d_g_s:=(x_s4).lt
 have d_g_f:=(x_f4).lt
 have d_g_t:=(x_t4).lt
 have d_g_0:=hs4
 go_upto_region 6 with (refine wpList_store_box (cs:=MM) rfl _ _ _ rfl (Box.newc (l:=zero20) rfl rfl) rfl rfl SM.out LM.out OM.out ?_;intro W4_0 hW4_0)
 have hN:Below w4.heap.size w4 W4_0:=(hW4_0.below _ _ (by omega) ((Below.refl _ w4).alloc (Nat.le_refl _) _))
 have x_g5:Box W4_0 (w4.heap.size) (MM):=hW4_0.box
 have hB5:Below w.heap.size w W4_0:=below_thru hB4 hN
 have hs5:=hB5.size
 have x_s5:Box W4_0 (w.heap.size) (US):=Box.below x_s4 hN
 have x_f5:Box W4_0 (w.heap.size + 1) (V):=Box.below x_f4 hN
 have x_t5:Box W4_0 (w0.heap.size) (TV):=Box.below x_t4 hN
 have J_m5:Hid (IsL W4_0 .u8 (.slice (some ⟨bb,off + 1,none⟩) 20 (c0 - 1)) M):=Lib.hid (IsL.below J_m4.out hN)
 have J_z5:Hid (IsL W4_0 .u8 (.slice (some ⟨bb,off + 1,none⟩) 52 (c0 - 1)) Z):=Lib.hid (IsL.below J_z4.out hN)
 clear hB4 hs4 x_s4 x_f4 x_t4 J_m4 J_z4
 clear hN hW4_0
 go_wp2_with fail
 refine (TR _ _ J_z5.out).mono ?_
 rintro e w6 ⟨rfl,hb⟩
 have hB6:Below w.heap.size w w6:=below_thru hB5 hb
 have hs6:=hB6.size
 have x_s6:Box w6 (w.heap.size) (US):=Box.below x_s5 hb
 have x_f6:Box w6 (w.heap.size + 1) (V):=Box.below x_f5 hb
 have x_t6:Box w6 (w0.heap.size) (TV):=Box.below x_t5 hb
 have x_g6:Box w6 (w4.heap.size) (MM):=Box.below x_g5 hb
 have J_m6:Hid (IsL w6 .u8 (.slice (some ⟨bb,off + 1,none⟩) 20 (c0 - 1)) M):=Lib.hid (IsL.below J_m5.out hb)
 have J_z6:Hid (IsL w6 .u8 (.slice (some ⟨bb,off + 1,none⟩) 52 (c0 - 1)) Z):=Lib.hid (IsL.below J_z5.out hb)
 clear hB5 hs5 x_s5 x_f5 x_t5 x_g5 J_m5 J_z5
 clear hb
 clear J_z6
 have d_u_s:=(x_s6).lt
 have d_u_f:=(x_f6).lt
 have d_u_t:=(x_t6).lt
 have d_u_g:=(x_g6).lt
 have d_u_0:=hs6
 go_upto_region 7 with (refine wpList_store_box (cs:=TV) rfl _ _ _ rfl (Box.newc (l:=zeroTk) rfl rfl) rfl rfl SK.out LK.out OK.out ?_;intro W6_0 hW6_0)
 have hN:Below w6.heap.size w6 W6_0:=(hW6_0.below _ _ (by omega) ((Below.refl _ w6).alloc (Nat.le_refl _) _))
 have x_u7:Box W6_0 (w6.heap.size) (TV):=hW6_0.box
 have hB7:Below w.heap.size w W6_0:=below_thru hB6 hN
 have hs7:=hB7.size
 have x_s7:Box W6_0 (w.heap.size) (US):=Box.below x_s6 hN
 have x_f7:Box W6_0 (w.heap.size + 1) (V):=Box.below x_f6 hN
 have x_t7:Box W6_0 (w0.heap.size) (TV):=Box.below x_t6 hN
 have x_g7:Box W6_0 (w4.heap.size) (MM):=Box.below x_g6 hN
 have J_m7:Hid (IsL W6_0 .u8 (.slice (some ⟨bb,off + 1,none⟩) 20 (c0 - 1)) M):=Lib.hid (IsL.below J_m6.out hN)
 clear hB6 hs6 x_s6 x_f6 x_t6 x_g6 J_m6
 clear hN hW6_0
 refine wp_region_held_drew (S:=fun W=>Box W (w.heap.size) (US)∧Box W (w.heap.size + 1) (V)∧Box W (w0.heap.size) (TV)∧Box W (w4.heap.size) (MM)∧Box W (w6.heap.size) (TV)) (by kernel_rfl) (And.intro (x_s7).drew (And.intro (x_f7).drew (And.intro (x_t7).drew (And.intro (x_g7).drew (x_u7).drew)))) (fun _=>?_)
 refine F_drew (F:=fun W=>wpAnyH _ _ _ _ _ _ _ _ W) ?_
 intro Wk0 hbk0
 clear hs7
 have x_s_k0:Box Wk0 (w.heap.size) (US):=Box.below x_s7 hbk0
 have x_f_k0:Box Wk0 (w.heap.size + 1) (V):=Box.below x_f7 hbk0
 have x_t_k0:Box Wk0 (w0.heap.size) (TV):=Box.below x_t7 hbk0
 have x_g_k0:Box Wk0 (w4.heap.size) (MM):=Box.below x_g7 hbk0
 have x_u_k0:Box Wk0 (w6.heap.size) (TV):=Box.below x_u7 hbk0
 have j_m_k0:=Lib.hid (IsL.below J_m7.out hbk0)
 have Bk0:=below_thru hB7 hbk0
 clear x_s7 x_f7 x_t7 x_g7 x_u7 J_m7 hB7 hbk0
 refine takeH 0 117 (v:=?vk0_1) rfl (by rfl) (by kernel_rfl) (by kernel_rfl) (by kernel_rfl) (fun _ _ _ h=>h) (Or.inl ⟨by rfl,?_⟩) ((And.intro x_s_k0 (And.intro x_f_k0 (And.intro x_t_k0 (And.intro x_g_k0 x_u_k0))))) ?_
 rotate_left
 · intro wq hSq
   go_simp
   exact rfl
 try simp only [Act.put,qzA,qz0,qzS]
 refine takeH 1 118 (v:=?vk1_2) rfl (by rfl) (by kernel_rfl) (by kernel_rfl) (by kernel_rfl) (fun _ _ _ h=>h) (Or.inl ⟨by rfl,?_⟩) ((And.intro x_s_k0 (And.intro x_f_k0 (And.intro x_t_k0 (And.intro x_g_k0 x_u_k0))))) ?_
 rotate_left
 · intro wq hSq
   go_simp
   exact rfl
 try simp only [Act.put,qzA,qz0,qzS]
 refine takeH 2 119 (v:=?vk2_3) rfl (by rfl) (by kernel_rfl) (by kernel_rfl) (by kernel_rfl) (fun _ _ _ h=>h) (Or.inl ⟨by rfl,?_⟩) ((And.intro x_s_k0 (And.intro x_f_k0 (And.intro x_t_k0 (And.intro x_g_k0 x_u_k0))))) ?_
 rotate_left
 · intro wq hSq
   go_simp
   exact rfl
 try simp only [Act.put,qzA,qz0,qzS]
 refine takeH 3 120 (v:=.agg (TV).toArray) rfl (by rfl) (by kernel_rfl) (by kernel_rfl) (by kernel_rfl) (fun _ _ _ h=>h) (yieldsIf_load_mid (by rfl) _ _ rfl _ _ rfl (TV) _ (fun wq hq=>Box.range (hq.2.2.2.2)) Tryz.underlying27 rfl SK.out) ((And.intro x_s_k0 (And.intro x_f_k0 (And.intro x_t_k0 (And.intro x_g_k0 x_u_k0))))) ?_
 try simp only [Act.put,qzA,qz0,qzS]
 refine takeH 4 121 (v:=.agg (TV).toArray) rfl (by rfl) (by kernel_rfl) (by kernel_rfl) (by kernel_rfl) (fun _ _ _ h=>h) (yieldsIf_load_mid (by rfl) _ _ rfl _ _ rfl (TV) _ (fun wq hq=>Box.range (hq.2.2.1)) Tryz.underlying27 rfl SK.out) ((And.intro x_s_k0 (And.intro x_f_k0 (And.intro x_t_k0 (And.intro x_g_k0 x_u_k0))))) ?_
 try simp only [Act.put,qzA,qz0,qzS]
 refine takeH 5 122 (v:=?vk5_4) rfl (by rfl) (by kernel_rfl) (by kernel_rfl) (by kernel_rfl) (fun _ _ _ h=>h) (Or.inl ⟨by rfl,?_⟩) ((And.intro x_s_k0 (And.intro x_f_k0 (And.intro x_t_k0 (And.intro x_g_k0 x_u_k0))))) ?_
 rotate_left
 · intro wq hSq
   go_simp
   exact rfl
 try simp only [Act.put,qzA,qz0,qzS]
 refine takeH 6 123 (v:=?vk6_5) rfl (by rfl) (by kernel_rfl) (by kernel_rfl) (by kernel_rfl) (fun _ _ _ h=>h) (Or.inl ⟨by rfl,?_⟩) ((And.intro x_s_k0 (And.intro x_f_k0 (And.intro x_t_k0 (And.intro x_g_k0 x_u_k0))))) ?_
 rotate_left
 · intro wq hSq
   go_simp
   exact rfl
 try simp only [Act.put,qzA,qz0,qzS]
 refine takeH 7 124 (v:=?vk7_6) rfl (by rfl) (by kernel_rfl) (by kernel_rfl) (by kernel_rfl) (fun _ _ _ h=>h) (Or.inl ⟨by rfl,?_⟩) ((And.intro x_s_k0 (And.intro x_f_k0 (And.intro x_t_k0 (And.intro x_g_k0 x_u_k0))))) ?_
 rotate_left
 · intro wq hSq
   go_simp
   exact rfl
 try simp only [Act.put,qzA,qz0,qzS]
 refine takeH 8 125 (v:=?vk8_7) rfl (by rfl) (by kernel_rfl) (by kernel_rfl) (by kernel_rfl) (fun _ _ _ h=>h) (Or.inl ⟨by rfl,?_⟩) ((And.intro x_s_k0 (And.intro x_f_k0 (And.intro x_t_k0 (And.intro x_g_k0 x_u_k0))))) ?_
 rotate_left
 · intro wq hSq
   go_simp
   exact rfl
 try simp only [Act.put,qzA,qz0,qzS]
 refine takeH 9 126 (v:=?vk9_8) rfl (by rfl) (by kernel_rfl) (by kernel_rfl) (by kernel_rfl) (fun _ _ _ h=>h) (Or.inl ⟨by rfl,?_⟩) ((And.intro x_s_k0 (And.intro x_f_k0 (And.intro x_t_k0 (And.intro x_g_k0 x_u_k0))))) ?_
 rotate_left
 · intro wq hSq
   go_simp
   exact rfl
 try simp only [Act.put,qzA,qz0,qzS]
 refine takeH 10 127 (v:=?vk10_9) rfl (by rfl) (by kernel_rfl) (by kernel_rfl) (by kernel_rfl) (fun _ _ _ h=>h) (Or.inl ⟨by rfl,?_⟩) ((And.intro x_s_k0 (And.intro x_f_k0 (And.intro x_t_k0 (And.intro x_g_k0 x_u_k0))))) ?_
 rotate_left
 · intro wq hSq
   go_simp
   exact rfl
 try simp only [Act.put,qzA,qz0,qzS]
 refine wpAnyH_ready (rs:=[11]) (by kernel_rfl) (by simp) (AllReadyH.cons rfl (fun K hK=>?_) AllReadyH.nil)
 go_simp
 refine (SB _ _ _ j_m_k0.out (LMM.out _ _ x_g_k0)).mono ?_
 rintro e Wk10 ⟨rfl,hbk10⟩
 have x_s_k10:Box Wk10 (w.heap.size) (US):=Box.below x_s_k0 hbk10
 have x_f_k10:Box Wk10 (w.heap.size + 1) (V):=Box.below x_f_k0 hbk10
 have x_t_k10:Box Wk10 (w0.heap.size) (TV):=Box.below x_t_k0 hbk10
 have x_g_k10:Box Wk10 (w4.heap.size) (MM):=Box.below x_g_k0 hbk10
 have x_u_k10:Box Wk10 (w6.heap.size) (TV):=Box.below x_u_k0 hbk10
 have j_m_k10:=Lib.hid (IsL.below j_m_k0.out hbk10)
 have Bk10:=below_thru Bk0 hbk10
 clear x_s_k0 x_f_k0 x_t_k0 x_g_k0 x_u_k0 j_m_k0 Bk0 hbk10
 refine hK.out _ _ (And.intro x_s_k10 (And.intro x_f_k10 (And.intro x_t_k10 (And.intro x_g_k10 x_u_k10)))) (fun _=>?_);clear hK K
 refine takeH 12 129 (v:=?vk12_11) rfl (by rfl) (by kernel_rfl) (by kernel_rfl) (by kernel_rfl) (fun _ _ _ h=>h) (Or.inl ⟨by rfl,?_⟩) ((And.intro x_s_k10 (And.intro x_f_k10 (And.intro x_t_k10 (And.intro x_g_k10 x_u_k10))))) ?_
 rotate_left
 · intro wq hSq
   go_simp
   exact rfl
 try simp only [Act.put,qzA,qz0,qzS]
 refine takeH 13 130 (v:=?vk13_12) rfl (by rfl) (by kernel_rfl) (by kernel_rfl) (by kernel_rfl) (fun _ _ _ h=>h) (Or.inl ⟨by rfl,?_⟩) ((And.intro x_s_k10 (And.intro x_f_k10 (And.intro x_t_k10 (And.intro x_g_k10 x_u_k10))))) ?_
 rotate_left
 · intro wq hSq
   go_simp
   exact rfl
 try simp only [Act.put,qzA,qz0,qzS]
 refine wpAnyH_done (by kernel_rfl) ?_ _
 have hB8:=Bk10;have hs8:=hB8.size
 have x_s8:=x_s_k10
 have x_f8:=x_f_k10
 have x_t8:=x_t_k10
 have x_g8:=x_g_k10
 have x_u8:=x_u_k10
 have J_m8:=j_m_k10
 clear Bk10 x_s_k10 x_f_k10 x_t_k10 x_g_k10 x_u_k10 j_m_k10
 clear J_m8
 clear x_u8
 have ce0:=(x_t8).c 0 _ t0
 have ze0:=(x_t8).lt
 have ce2:=(x_t8).c 2 _ t2
 have ze2:=(x_t8).lt
 go_wp2_with fail
 refine (IS _).mono ?_
 rintro e w9 ⟨rfl,hb⟩
 have hB9:Below w.heap.size w w9:=below_thru hB8 hb
 have hs9:=hB9.size
 have x_s9:Box w9 (w.heap.size) (US):=Box.below x_s8 hb
 have x_f9:Box w9 (w.heap.size + 1) (V):=Box.below x_f8 hb
 have x_t9:Box w9 (w0.heap.size) (TV):=Box.below x_t8 hb
 have x_g9:Box w9 (w4.heap.size) (MM):=Box.below x_g8 hb
 clear hB8 hs8 x_s8 x_f8 x_t8 x_g8
 clear hb
 go_wp2_with fail
 go_returns
 exact ⟨rfl,hB9⟩
end Go.Proofs.YtnfejdfjlnpldaaGreatDoor
