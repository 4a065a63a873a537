import Derived.Test.YtnfejdfjlnpldaaGreatDoorGX3
set_option maxHeartbeats 12800000
set_option maxRecDepth 100000
namespace Go.Proofs.YtnfejdfjlnpldaaGreatDoor
open Go.RowKit
def GivesOE (xs:List Int) (q:Int) (w:World) (e:Ending) (w':World):Prop:=∃ v,e=.returned (.tuple #[v,.int .i64 q])∧w'.ownsRow w.heap.size 5 1 v xs.length (xs.map (Value.int .u8))∧Below w.heap.size w w'
set_option maxRecDepth 100000 in
set_option maxHeartbeats 3200000 in
theorem wr_f (f:Frm) (h:¬ f.Ok) (w:World):Calls Tryz.prog 7 #[.agg (mcell f).toArray] w (GivesOE [] 8 w):=by
 have SV:=Lib.hid (size_frm f)
 have SC:=Lib.hid (size_cmd f.c)
 have SR:=Lib.hid (size_req f.r)
 have DC:=Lib.hid (mcell_c f)
 have DR:=Lib.hid (mcell_r f)
 have DG:=Lib.hid (mcell_g f)
 have CK:=fun W=>chk_is f (q:=8) (Lib.hid (Or.inr ⟨rfl,h⟩)) W
 have v0:(mcell f)[0]? = some (.int .u8 f.kd):=by rfl
 have v1:=mcell_kt f;have v40:=mcell_ct f
 obtain ⟨V,hV⟩:∃ V,mcell f=V:=⟨_,rfl⟩
 obtain ⟨C,hC⟩:∃ V,ccell f.c=V:=⟨_,rfl⟩
 obtain ⟨R,hR⟩:∃ V,rcell f.r=V:=⟨_,rfl⟩
 rw [hV] at SV DC DR DG CK v0 v1 v40 ⊢
 rw [hC] at SC DC DR
 rw [hR] at SR DR
 clear hV hC hR h
 go_enter Tryz.func7,Tryz.ntmps7
 go_upto_region 1 with fail
 refine F_gen (F:=fun W=>Code.wp _ _ _ _ W) (J:=fun W=>Box W (w.heap.size) (V)∧Below w.heap.size w W) (And.intro (Box.newc rfl rfl) (by go_grown)) ?_
 intro w0 ⟨e_f,hB0⟩
 have hs0:=hB0.size
 have x_f0:=e_f;clear e_f
 go_wp2_with (refine wpList_load_box9 rfl _ _ rfl x_f0 rfl Tryz.underlying37 rfl SV.out ?_)
 refine (CK _).mono ?_
 rintro e w1 ⟨rfl,hb⟩
 have hB1:Below w.heap.size w w1:=below_thru hB0 hb
 have hs1:=hB1.size
 have x_f1:Box w1 (w.heap.size) (V):=Box.below x_f0 hb
 clear hB0 hs0 x_f0
 clear hb
 go_wp2_with fail
 go_returns
 exact ⟨_,rfl,ownU_nil,hB1⟩
set_option maxRecDepth 100000 in
set_option maxHeartbeats 3200000 in
theorem wr_1 (f:Frm) (h:f.Ok) (h0:f.kd=1) (w:World):Calls Tryz.prog 7 #[.agg (mcell f).toArray] w (GivesOE (1 :: f.r.bs) 0 w):=by
 have SV:=Lib.hid (size_frm f)
 have SC:=Lib.hid (size_cmd f.c)
 have SR:=Lib.hid (size_req f.r)
 have DC:=Lib.hid (mcell_c f)
 have DR:=Lib.hid (mcell_r f)
 have DG:=Lib.hid (mcell_g f)
 have CK:=fun W=>chk_is f (q:=0) (Lib.hid (Or.inl ⟨rfl,h⟩)) W
 have v0:(mcell f)[0]? = some (.int .u8 1):=by rw [← h0];rfl
 have v1:=mcell_kt f;have v40:=mcell_ct f
 have RB:=fun W=>reqb_is f.r W
 obtain ⟨X,hX⟩:∃ X,1 :: f.r.bs=X:=⟨_,rfl⟩
 rw [hX] at RB ⊢
 clear hX
 obtain ⟨V,hV⟩:∃ V,mcell f=V:=⟨_,rfl⟩
 obtain ⟨C,hC⟩:∃ V,ccell f.c=V:=⟨_,rfl⟩
 obtain ⟨R,hR⟩:∃ V,rcell f.r=V:=⟨_,rfl⟩
 rw [hV] at SV DC DR DG CK v0 v1 v40 ⊢
 rw [hC] at SC DC DR
 rw [hR] at SR DR RB
 clear hV hC hR h h0
 go_enter Tryz.func7,Tryz.ntmps7
 go_upto_region 1 with fail
 refine F_gen (F:=fun W=>Code.wp _ _ _ _ W) (J:=fun W=>Box W (w.heap.size) (V)∧Below w.heap.size w W) (And.intro (Box.newc rfl rfl) (by go_grown)) ?_
 intro w0 ⟨e_f,hB0⟩
 have hs0:=hB0.size
 have x_f0:=e_f;clear e_f
 go_wp2_with (refine wpList_load_box9 rfl _ _ rfl x_f0 rfl Tryz.underlying37 rfl SV.out ?_)
 refine (CK _).mono ?_
 rintro e w1 ⟨rfl,hb⟩
 have hB1:Below w.heap.size w w1:=below_thru hB0 hb
 have hs1:=hB1.size
 have x_f1:Box w1 (w.heap.size) (V):=Box.below x_f0 hb
 clear hB0 hs0 x_f0
 clear hb
 have ca:=(x_f1).c 0 _ v0
 have za:=(x_f1).lt
 go_wp2_with (refine wpList_load_rangew rfl _ _ rfl (Box.rangeMid x_f1 1 (R) (C) DR.out) rfl Tryz.underlying30 rfl SR.out ?_)
 refine (RB _).mono ?_
 rintro e w2 ⟨vr,rfl,ho,hb⟩
 have ho:=ownR_base ho hs1
 have hB2:=below_thru hB1 hb
 clear hb ca za
 go_wp2_with fail
 go_returns
 exact ⟨_,rfl,ho,hB2⟩
set_option maxRecDepth 100000 in
set_option maxHeartbeats 3200000 in
theorem wr_2 (f:Frm) (h:f.Ok) (hc:f.c.wd) (h0:f.kd=2) (w:World):Calls Tryz.prog 7 #[.agg (mcell f).toArray] w (GivesOE (f.c.msg ++ f.c.g) 0 w):=by
 have SV:=Lib.hid (size_frm f)
 have SC:=Lib.hid (size_cmd f.c)
 have SR:=Lib.hid (size_req f.r)
 have DC:=Lib.hid (mcell_c f)
 have DR:=Lib.hid (mcell_r f)
 have DG:=Lib.hid (mcell_g f)
 have CK:=fun W=>chk_is f (q:=0) (Lib.hid (Or.inl ⟨rfl,h⟩)) W
 have v0:(mcell f)[0]? = some (.int .u8 2):=by rw [← h0];rfl
 have v1:=mcell_kt f;have v40:=mcell_ct f
 have MR:=fun W=>msg_is f.c hc W
 have HM:=Lib.hid (Cmd.msg_len hc)
 have HG:=Lib.hid f.c.hg
 obtain ⟨M,hM⟩:∃ X,f.c.msg=X:=⟨_,rfl⟩
 rw [hM] at MR HM ⊢
 clear hM hc
 obtain ⟨V,hV⟩:∃ V,mcell f=V:=⟨_,rfl⟩
 obtain ⟨C,hC⟩:∃ V,ccell f.c=V:=⟨_,rfl⟩
 obtain ⟨R,hR⟩:∃ V,rcell f.r=V:=⟨_,rfl⟩
 rw [hV] at SV DC DR DG CK v0 v1 v40 ⊢
 rw [hC] at SC DC DR MR
 rw [hR] at SR DR
 clear hV hC hR h h0
 obtain ⟨G,hG⟩:∃ X,f.c.g=X:=⟨_,rfl⟩
 rw [hG] at HG DG ⊢
 clear hG
 go_enter Tryz.func7,Tryz.ntmps7
 go_upto_region 1 with fail
 refine F_gen (F:=fun W=>Code.wp _ _ _ _ W) (J:=fun W=>Box W (w.heap.size) (V)∧Below w.heap.size w W) (And.intro (Box.newc rfl rfl) (by go_grown)) ?_
 intro w0 ⟨e_f,hB0⟩
 have hs0:=hB0.size
 have x_f0:=e_f;clear e_f
 go_wp2_with (refine wpList_load_box9 rfl _ _ rfl x_f0 rfl Tryz.underlying37 rfl SV.out ?_)
 refine (CK _).mono ?_
 rintro e w1 ⟨rfl,hb⟩
 have hB1:Below w.heap.size w w1:=below_thru hB0 hb
 have hs1:=hB1.size
 have x_f1:Box w1 (w.heap.size) (V):=Box.below x_f0 hb
 clear hB0 hs0 x_f0
 clear hb
 have ca:=(x_f1).c 0 _ v0
 have za:=(x_f1).lt
 go_upto_region 6 with fail
 clear ca za
 refine wp_region_held_drew (S:=fun W=>Box W w.heap.size V) (by kernel_rfl) (x_f1).drew (fun _=>?_)
 refine F_drew (F:=fun W=>wpAnyH _ _ _ _ _ _ _ _ W) ?_
 intro W0 hb0
 have xc0:=x_f1.below hb0;have Bc0:=below_thru hB1 hb0
 clear x_f1 hB1 hs1 hb0
 refine takeH 0 16 (v:=?vt0_1) rfl (by rfl) (by kernel_rfl) (by kernel_rfl) (by kernel_rfl) (fun _ _ _ h=>h) (Or.inl ⟨by rfl,?_⟩) (xc0) ?_
 rotate_left
 · intro wq hSq
   go_simp
   exact rfl
 try simp only [Act.put,qzA,qz0,qzS]
 refine takeH 3 19 (v:=?vt3_2) rfl (by rfl) (by kernel_rfl) (by kernel_rfl) (by kernel_rfl) (fun _ _ _ h=>h) (Or.inl ⟨by rfl,?_⟩) (xc0) ?_
 rotate_left
 · intro wq hSq
   go_simp
   exact rfl
 try simp only [Act.put,qzA,qz0,qzS]
 refine takeH 4 20 (v:=?vt4_3) rfl (by rfl) (by kernel_rfl) (by kernel_rfl) (by kernel_rfl) (fun _ _ _ h=>h) (Or.inl ⟨by rfl,?_⟩) (xc0) ?_
 rotate_left
 · intro wq hSq
   go_simp
   exact rfl
 try simp only [Act.put,qzA,qz0,qzS]
 refine takeH 5 21 (v:=?vt5_4) rfl (by rfl) (by kernel_rfl) (by kernel_rfl) (by kernel_rfl) (fun _ _ _ h=>h) (Or.inl ⟨by rfl,?_⟩) (xc0) ?_
 rotate_left
 · intro wq hSq
   go_simp
   exact rfl
 try simp only [Act.put,qzA,qz0,qzS]
 refine takeH 1 17 (v:=.agg C.toArray) rfl (by rfl) (by kernel_rfl) (by kernel_rfl) (by kernel_rfl) (fun _ _ _ h=>h) (yieldsIf_load_mid (by rfl) _ _ rfl _ _ rfl C _ (fun wq hq=>Box.rangeMid hq 39 C [] DC.out) Tryz.underlying35 rfl SC.out) (xc0) ?_
 try simp only [Act.put,qzA,qz0,qzS]
 refine wpAnyH_ready (rs:=[2]) (by kernel_rfl) (by simp) (AllReadyH.cons rfl (fun K hK=>?_) AllReadyH.nil)
 go_simp
 refine (MR _).mono ?_
 rintro e W5 ⟨vm,rfl,hm,hb5⟩
 have xc5:=Box.below xc0 hb5;have Bc5:=below_thru Bc0 hb5
 clear xc0 Bc0
 obtain ⟨am,cm,rfl,hm2⟩:=id hm
 clear hm2 hb5
 have Jc5:=Lib.hid hm
 clear hm
 refine hK.out _ _ xc5 (fun _=>?_);clear hK K
 refine wpAnyH_ready (rs:=[6]) (by kernel_rfl) (by simp) (AllReadyH.cons rfl (fun K hK=>?_) AllReadyH.nil)
 go_simp
 refine hK.out _ _ (Box.alloc xc5 _) (fun _=>?_);clear hK K
 refine F_gen (F:=fun W=>wpAnyH _ _ _ _ _ _ _ _ W) (J:=fun W=>Box W W5.heap.size [.slice am M.length cm,.slice (some ⟨w.heap.size,54,none⟩) 32 32]∧Below W5.heap.size W5 W) (And.intro (Box.newc rfl rfl) ((Below.refl _ _).alloc (Nat.le_refl _) _)) ?_
 intro W6 ⟨hv,hb6⟩
 have xc6:=Box.below xc5 hb6;have Bc6:=below_thru Bc5 hb6
 clear xc5 Bc5
 have Jc6:=Lib.hid (Jc5.out.below hb6)
 refine wpAnyH_ready (rs:=[7]) (by kernel_rfl) (by simp) (AllReadyH.cons rfl (fun K hK=>?_) AllReadyH.nil)
 go_simp
 have L2:=IsL.range 32 32 HG.out (Box.rangeMid xc6 54 (G.map (Value.int .u8)) [] DG.out) (by omega) (by omega)
 have C:=concat_is (n:=2) (xss:=[M,G]) _ hv (fun i v xs h1 h2=>by match i,h1,h2 with | 0,h1,h2=>(cases h1;cases h2;exact Jc6.out) | 1,h1,h2=>(cases h1;cases h2;exact L2)) rfl rfl (by decide) (by simp [HM.out,HG.out])
 rw [show [M,G].flatten=M ++ G by simp] at C
 refine C.mono ?_
 rintro e W7 ⟨vr,rfl,ho,hb7⟩
 have ho:=ownR_base ho (Below.size Bc6)
 clear L2 C
 have xc7:=Box.below xc6 hb7;have Bc7:=below_thru Bc6 hb7
 clear xc6 Bc6
 refine hK.out _ _ xc7 (fun _=>?_);clear hK K
 refine takeH 8 2 (v:=?vt8_8) rfl (by rfl) (by kernel_rfl) (by kernel_rfl) (by kernel_rfl) (fun _ _ _ h=>h) (Or.inl ⟨by rfl,?_⟩) (xc7) ?_
 rotate_left
 · intro wq hSq
   go_simp
   exact rfl
 try simp only [Act.put,qzA,qz0,qzS]
 refine takeH 9 3 (v:=?vt9_9) rfl (by rfl) (by kernel_rfl) (by kernel_rfl) (by kernel_rfl) (fun _ _ _ h=>h) (Or.inl ⟨by rfl,?_⟩) (xc7) ?_
 rotate_left
 · intro wq hSq
   go_simp
   exact rfl
 try simp only [Act.put,qzA,qz0,qzS]
 refine wpAnyH_done (by kernel_rfl) ?_ _
 go_wp2_with fail
 go_returns
 exact ⟨_,rfl,ho,Bc7⟩
theorem wr_is (f:Frm) {xs:List Int} {q:Int} (h:(q=0∧f.Ok∧xs=f.bs)∨(q=8∧¬ f.Ok∧xs=[])) (w:World):Calls Tryz.prog 7 #[.agg (mcell f).toArray] w (GivesOE xs q w):=by
 rcases h with ⟨rfl,h,rfl⟩ | ⟨rfl,h,rfl⟩
 · rcases Frm.ok_two h with ⟨_,_,h0,e,_⟩ | ⟨_,hc,h0,e,_⟩
   · rw [e]
     exact wr_1 f h h0 w
   · rw [e]
     exact wr_2 f h (Cmd.ok_wd hc) h0 w
 · exact wr_f f h w
end Go.Proofs.YtnfejdfjlnpldaaGreatDoor
namespace Go.Proofs.YtnfejdfjlnpldaaGreatDoor
open Go.RowKit
theorem own_box {w:World} {B e s:Nat} {v:Value} {n:Nat} {xs:List Value} (h:w.ownsRow B e s v n xs) (hn:0 < n):∃ g c,v=.slice (some ⟨g,0,none⟩) n c∧B≤g∧n≤c∧c≤9223372036854775807∧Box w g xs:=by
 have hl:=h.1
 rcases h.2 with ⟨_,rfl⟩ | ⟨g,cap,cur,rfl,hb,hg,h1,h2,_⟩
 · omega
 · refine ⟨g,cap,rfl,hb,h1,h2,⟨fun i v e=>?_,fun i v e=>?_,(Array.getElem?_eq_some_iff.1 hg).1⟩⟩
   · rw [h.cellAt i (by rw [← hl];exact (List.getElem?_eq_some_iff.1 e).1)]
     exact e
   · exact h.frozenAt i
theorem IsR.ofBoxc {α:Type} {L:Lay α} {w:World} {b n c:Nat} {V:List Value} {xs:List α} (h:Box w b V) (hV:V=flatR L xs) (hn:n=xs.length) (h1:n≤c) (h2:c≤9223372036854775807):IsR L w (.slice (some ⟨b,0,Option.none⟩) n c) xs:=by
 subst hn hV
 refine ⟨_,c,rfl,h1,h2,fun _=>⟨b,0,rfl,fun i x hi j v hv=>?_⟩,fun q=>by cases q⟩
 rw [Nat.zero_add]
 exact h.c _ _ (flatR_at hi hv)
set_option maxRecDepth 100000 in
set_option maxHeartbeats 1600000 in
theorem cof1_is {b i:Nat} {v:Value} {fs:List Fd} {f:Fd} (w:World) (hc:w.cell? ⟨b,0,none⟩=some v) (h1:IsR LF w v fs) (hi:fs[i]? = some f) (hn:f.n≤4294967295) (him:i≤1000):Calls Tryz.prog 81 #[.int .i64 i,.pointer (some ⟨b,0,none⟩)] w fun e w'=>e=.returned (.int .i64 f.n)∧w'=w:=by
 obtain ⟨a0,c0,rfl,hr⟩:=id h1
 have i1:=hr.room
 have i2:=hr.most
 obtain ⟨b1,off,rfl,hR⟩:=h1.get 34 rfl hi
 have c1:=hR 1 (.int .u64 f.n) rfl
 have il:=(List.getElem?_eq_some_iff.1 hi).1
 have hw:IntKind.i64.wrap f.n=f.n:=by have:=f.hn;rw [IntKind.wrap_i64];omega
 obtain ⟨n,hnn⟩:∃ n,f.n=n:=⟨_,rfl⟩
 rw [hnn] at c1 hw ⊢
 have zb:=lt_of_cell hc
 have zc:=lt_of_cell c1
 have i3:(i:Int) < (fs.length:Int):=by omega
 have i4:(0:Int)≤(i:Int):=by omega
 clear hr h1 hR hi hn hnn
 go_enter Tryz.func81,Tryz.ntmps81
 go_wp2_with fail
 go_returns
 exact ⟨rfl,rfl⟩
set_option maxRecDepth 100000 in
set_option maxHeartbeats 3200000 in
theorem ck_is (w:World):Calls Tryz.prog 80 #[] w (GivesOwn kin9 w):=by
 obtain ⟨ti,hin,hz0,hz1,hz2⟩:=info_parts info_u8'
 have MR:=fun W=>mrow_is Cmd.zero Cmd.zero_wd W
 have BC:=fun W=>build_c0 W
 have HKK:=crow_k Cmd.zero_wd
 have HL:(crow Cmd.zero).length=16:=rfl
 obtain ⟨Z,hZ⟩:∃ V,ccell Cmd.zero=V:=⟨_,rfl⟩
 obtain ⟨fs,hfs⟩:∃ f,crow Cmd.zero=f:=⟨_,rfl⟩
 rw [hZ] at BC MR
 rw [hfs] at MR HKK HL
 clear hZ hfs
 have HT:=Lib.hid (fun (k:Nat) (h:k < fs.length)=>(show kin9.take (k + 1)=kin9.take k ++ [(fs[k]).k] by
   have e:(kin9.take 16)[k]? = some (fs[k]).k:=by rw [← HKK,List.getElem?_map,List.getElem?_eq_getElem h];rfl
   rw [List.getElem?_take_of_lt (by omega)] at e
   rw [List.take_add_one,e]
   rfl))
 have HE:Hid (kin9.take 16 ++ [6]=kin9):=Lib.hid rfl
 clear HKK
 have HLL:=Lib.hid HL
 go_enter Tryz.func80,Tryz.ntmps80
 go_wp2_with (refine wpList_build9 rfl 35 _ rfl (us:=#[]) (by rfl) (BC _) ?_)
 refine (MR _).mono ?_
 rintro e w1 ⟨vr,rfl,hr,hb⟩
 obtain ⟨a0,c0,rfl,hrr⟩:=id hr
 have hB1:Below w.heap.size w w1:=hb
 have HR:=Lib.hid hr
 have i1:=hrr.room
 have i2:=hrr.most
 rw [HL] at i1 HR ⊢
 clear hrr hr hb MR
 have hs1:=hB1.size
 go_wp2_with fail
 go_loopw [1,7] (fun s1 s7 wr=>∃ k:Nat,s7=.int .i64 k∧k≤16∧Hid (wr.ownsRow w1.heap.size 5 1 s1 k ((kin9.take k).map (Value.int .u8)))∧Below w1.heap.size w1 wr) (fun _ s7 _=>16 - (intOf s7).toNat)
 case atStart=>exact ⟨0,rfl,by omega,Lib.hid (by simpa using ownU_nil),Below.refl _ _⟩
 case round =>
   obtain ⟨k,rfl,hk,HO,hB⟩:=hrel
   have hs2:=hB.size
   by_cases hlt:k < 16
   case neg =>
     obtain rfl:k=16:=by omega
     have HO2:=ownR_below HO.out ((Below.refl wr.heap.size wr).alloc (Nat.le_refl _) (.cells #[.int .u8 6] 5))
     go_wp2_with (at_builtin;refine wpList_append_ints rfl _ _ 43 rfl w1.heap.size 5 ti (.int .u8 0) 1 .u8 Tryz.underlying43 hin hz0 hz1 hz2 rfl _ 16 _ rfl HO2 _ 1 [6] rfl ((IsL.built [6] rfl rfl rfl rfl (by simp)).ints) (fun h=>by cases h) (by unfold maxLen;simp) (by simp) (by simp;omega) ?_;intro v4 w4 hown4 hgrow4)
     have hB4:Below w1.heap.size w1 w4:=(hB.alloc hs2 _).grown hgrow4 (by simp;omega) (own_block HO2)
     have hown5:w4.ownsRow w.heap.size 5 1 v4 kin9.length (kin9.map (Value.int .u8)):=by
       have:=ownR_base hown4 hs1
       rwa [← List.map_append,HE.out] at this
     clear hown4 hgrow4
     go_wp2_with fail
     go_returns
     exact ⟨_,rfl,hown5,below_thru hB1 hB4⟩
   case pos =>
     have hlf:k < fs.length:=by have:=HLL.out;omega
     obtain ⟨b,off,e0,hR⟩:=HR.out.get 34 rfl (List.getElem?_eq_getElem hlf)
     subst e0
     have hR1:=range_below hR hB
     have HTk:=Lib.hid (HT.out k hlf)
     obtain ⟨f,hf⟩:∃ f,fs[k]=f:=⟨_,rfl⟩
     rw [hf] at hR1 HTk
     have hS:=lenFld f
     have h1:=oneFld f
     have hz:Fd.zero.v.length=f.v.length:=by rw [f.v_len,Fd.v_len]
     have v0:f.v[0]? = some (.int .u8 f.k):=rfl
     clear hR hf
     obtain ⟨V,hV⟩:∃ V,f.v=V:=⟨_,rfl⟩
     rw [hV] at hS h1 hz v0
     rw [show LF.f f=V from hV] at hR1
     obtain ⟨K,hK⟩:∃ K,f.k=K:=⟨_,rfl⟩
     rw [hK] at v0 HTk
     clear hV hK
     have i3:(k:Int) < 16:=by omega
     go_upto_region 5 with (first | refine wpList_load_range rfl _ _ rfl hR1 rfl Tryz.underlying88 rfl hS ?_ | (refine wpList_store_box (cs:=V) rfl _ _ _ rfl (Box.newc (l:=Fd.zero.v) rfl rfl) rfl rfl hS hz h1 ?_;intro W1 hW1))
     have hB3:Below w1.heap.size w1 W1:=hW1.below _ _ hs2 (by go_grown)
     have hW:Below wr.heap.size wr W1:=hW1.below _ _ (Nat.le_refl _) (by go_grown)
     have hbx:=hW1.box
     have HO1:=ownR_below HO.out hW
     have HO2:=ownR_below HO1 ((Below.refl W1.heap.size W1).alloc (Nat.le_refl _) (.cells #[.int .u8 K] 5))
     have hs3:=hB3.size
     have cK:=hbx.c 0 _ v0
     have zK:=hbx.lt
     clear HO hW1 hW hR1
     go_wp2_with (at_builtin;refine wpList_append_ints rfl _ _ 43 rfl w1.heap.size 5 ti (.int .u8 0) 1 .u8 Tryz.underlying43 hin hz0 hz1 hz2 rfl _ k _ rfl HO2 _ 1 [K] rfl ((IsL.built [K] rfl rfl rfl rfl (by simp)).ints) (fun h=>by cases h) (by unfold maxLen;simp;omega) (by simp;omega) (by simp;omega) ?_;intro v4 w4 hown4 hgrow4)
     have hB4:Below w1.heap.size w1 w4:=(hB3.alloc hs3 _).grown hgrow4 (by simp;omega) (own_block HO2)
     have HO4:Hid (w4.ownsRow w1.heap.size 5 1 v4 (k + 1) ((kin9.take (k + 1)).map (Value.int .u8))):=Lib.hid (by rw [HTk.out,List.map_append];exact hown4)
     clear hown4 hgrow4 HO1 HO2 cK zK hbx
     go_wp2_with fail
     go_roundw
     case rel=>exact ⟨k + 1,by go_num,by omega,HO4,hB4⟩
     case measure=>simp [intOf];omega
theorem rea34 (r:Req):reaE [3,4] (be 2 r.ep ++ be 4 r.co)=0∧reaF [3,4] (be 2 r.ep ++ be 4 r.co)=[fdN 3 r.ep,fdN 4 r.co]:=by
 have:=rea_of (row2_e r)
 rw [row2_b r] at this
 rwa [show [fdN 3 r.ep,fdN 4 r.co].map Fd.k=[3,4] by simp [fdN_k (k:=3) (n:=r.ep) (by decide) (by have:=r.hep;omega),fd4_k r.hco]] at this
set_option maxRecDepth 100000 in
theorem build_rq (k:Nums) {g:List Int} (h:g.length=32) (e c:Int) (W:World):(Instr.build 30 #[(0,.agg (tcell k g).toArray),(1,.int .u16 e),(2,.int .u32 c)]).run Tryz.prog W=.ok (.agg (tcell k g ++ [Value.int .u16 e,Value.int .u32 c]).toArray) W:=by
 obtain ⟨x0,x1,x2,x3,x4,x5,x6,x7,x8,x9,x10,x11,x12,x13,x14,x15,x16,x17,x18,x19,x20,x21,x22,x23,x24,x25,x26,x27,x28,x29,x30,x31,rfl⟩:=list32 h
 kernel_rfl
set_option maxRecDepth 100000 in
set_option maxHeartbeats 3200000 in
theorem rqof_is (r:Req) {v:Value} (w:World) (h1:IsL w .u8 v r.bs):Calls Tryz.prog 55 #[v] w fun e w'=>e=.returned (.agg (rcell r).toArray)∧Below w.heap.size w w':=by
 have hl:=r.bs_len
 obtain ⟨a0,c0,rfl,hr,_⟩:=id h1
 have i1:=hr.room
 have i2:=hr.most
 obtain ⟨b,off,rfl,_⟩:=h1.get 0 (by omega)
 have t52:r.bs.take 52=r.k.msg ++ r.g:=by unfold Req.bs;rw [← List.append_assoc,List.take_left' (by rw [List.length_append,r.k.msg_len,r.hg])]
 have d52:r.bs.drop 52=be 2 r.ep ++ be 4 r.co:=by unfold Req.bs;rw [← List.append_assoc,List.drop_left' (by rw [List.length_append,r.k.msg_len,r.hg])]
 have S1:=Lib.hid (show IsL w .u8 (.slice (some ⟨b,off,none⟩) 52 c0) (r.k.msg ++ r.g) by rw [← t52];exact h1.taken (by omega))
 have S2:=Lib.hid (show IsL w .u8 (.slice (some ⟨b,off + 52,none⟩) 6 (c0 - 52)) (be 2 r.ep ++ be 4 r.co) by rw [← d52];exact h1.dropped (by omega) (by omega) rfl (Or.inl rfl))
 have TR:=fun (W:World) (v:Value) (h:IsL W .u8 v (r.k.msg ++ r.g))=>tread_ok r.k r.hg W h
 have RD:=fun (W:World) (a b:Value) (h1:IsL W .u8 a [3,4]) (h2:IsL W .u8 b (be 2 r.ep ++ be 4 r.co))=>read_is W h1 h2 (by decide) ((be_byts 2 _).append (be_byts 4 _))
 rw [(rea34 r).1,(rea34 r).2] at RD
 have BT:=fun W=>build_rq r.k r.hg r.ep r.co W
 have we:IntKind.u16.wrap r.ep=r.ep:=by have:=r.hep;rw [IntKind.wrap_u16];omega
 have wc:IntKind.u32.wrap r.co=r.co:=by have:=r.hco;rw [IntKind.wrap_u32];omega
 have g1:(flatR LF [fdN 3 r.ep,fdN 4 r.co])[1]? = some (.int .u64 r.ep):=by have:=flatR_at (L:=LF) (xs:=[fdN 3 r.ep,fdN 4 r.co]) (i:=0) (j:=1) (v:=.int .u64 r.ep) rfl (by show (fdN 3 r.ep).v[1]? = _;rw [fdN_v (by decide) (by have:=r.hep;omega)];rfl);exact this
 have g2:(flatR LF [fdN 3 r.ep,fdN 4 r.co])[35]? = some (.int .u64 r.co):=by have:=flatR_at (L:=LF) (xs:=[fdN 3 r.ep,fdN 4 r.co]) (i:=1) (j:=1) (v:=.int .u64 r.co) rfl (by show (fdN 4 r.co).v[1]? = _;rw [fdN_v (by decide) (k32 r.hco)];rfl);exact this
 have ST:=Lib.hid (size_tok r.k r.hg);have LT:=Lib.hid (len_tok Nums.zero r.k z32 r.hg);have OT:=Lib.hid (tcell_one r.k r.g)
 have SF:=Lib.hid (size_req r);have LF9:=Lib.hid (len_req Req.zero r);have OF:=Lib.hid (one_req r);have SZ:=Lib.hid (size_req Req.zero)
 have j0:¬ c0=0:=by omega
 have j52:¬ c0=52:=by omega
 have q52:(52:Int)≤(c0:Int):=by omega
 rw [hl] at i1 ⊢
 obtain ⟨E,hE⟩:∃ X,be 2 r.ep ++ be 4 r.co=X:=⟨_,rfl⟩
 obtain ⟨X,hX⟩:∃ X,r.k.msg ++ r.g=X:=⟨_,rfl⟩
 obtain ⟨FR,hFR⟩:∃ X,flatR LF [fdN 3 r.ep,fdN 4 r.co]=X:=⟨_,rfl⟩
 obtain ⟨fs,hfs⟩:∃ X,[fdN 3 r.ep,fdN 4 r.co]=X:=⟨_,rfl⟩
 have hfl:fs.length=2:=by rw [← hfs];rfl
 rw [hE] at S2 RD
 rw [hX] at S1 TR
 rw [hFR] at g1 g2
 rw [hfs] at RD hFR
 have HRC:rcell r=tcell r.k r.g ++ [.int .u16 r.ep,.int .u32 r.co]:=rfl
 rw [← HRC] at BT
 clear HRC
 obtain ⟨TC,hTC⟩:∃ V,tcell r.k r.g=V:=⟨_,rfl⟩
 obtain ⟨F,hF⟩:∃ V,rcell r=V:=⟨_,rfl⟩
 rw [hTC] at TR ST LT OT BT
 rw [hF] at BT SF LF9 OF ⊢
 clear hr h1 hl t52 d52 hE hX hfs hTC hF
 go_enter Tryz.func55,Tryz.ntmps55
 go_upto_region 1 with fail
 refine F_gen (F:=fun W=>Code.wp _ _ _ _ W) (J:=fun W=>Box W (w.heap.size) (rcell Req.zero)∧Below w.heap.size w W) (And.intro (Box.newc rfl rfl) (by go_grown)) ?_
 intro w0 ⟨e_r,hB0⟩
 have hs0:=hB0.size
 have x_r0:=e_r;clear e_r
 go_wp2_with fail
 refine (TR _ _ (S1.out.below hB0)).mono ?_
 rintro e w1 ⟨rfl,hb⟩
 have hB1:Below w.heap.size w w1:=below_thru hB0 hb
 have hs1:=hB1.size
 have x_r1:Box w1 (w.heap.size) (rcell Req.zero):=Box.below x_r0 hb
 clear hB0 hs0 x_r0
 clear hb
 have lo1:=(x_r1).lt
 have d_t_r:=(x_r1).lt
 have d_t_0:=hs1
 go_upto_region 2 with (refine wpList_store_box (cs:=TC) rfl _ _ _ rfl (Box.newc (l:=zeroT) rfl rfl) rfl rfl ST.out LT.out OT.out ?_;intro W1_0 hW1_0)
 have hN:Below w1.heap.size w1 W1_0:=(hW1_0.below _ _ (by omega) ((Below.refl _ w1).alloc (Nat.le_refl _) _))
 have x_t2:Box W1_0 (w1.heap.size) (TC):=hW1_0.box
 have hB2:Below w.heap.size w W1_0:=below_thru hB1 hN
 have hs2:=hB2.size
 have x_r2:Box W1_0 (w.heap.size) (rcell Req.zero):=Box.below x_r1 hN
 clear hB1 hs1 x_r1
 clear hN hW1_0
 go_wp2_with fail
 have hk:IsL (W1_0.alloc (.cells #[.int .u8 3,.int .u8 4] 5)) .u8 (.slice (some ⟨W1_0.heap.size,0,none⟩) 2 2) [3,4]:=IsL.built [3,4] rfl rfl rfl rfl (by decide)
 refine (RD _ _ _ hk ((S2.out.below hB2).alloc _)).mono ?_
 rintro e w9 ⟨vr,rfl,hor,hb⟩
 have hb9:Below W1_0.heap.size W1_0 w9:=below_thru ((Below.refl _ _).alloc (Nat.le_refl _) _) hb
 clear hk
 rw [hFR,hfl] at hor
 obtain ⟨g4,c4,rfl,hg4,hc4,hc5,hbx⟩:=own_box hor (by decide)
 simp at hg4
 have lo2:w.heap.size < g4:=by have:=(x_r2).lt;omega
 clear hor hb
 have hB3:Below w.heap.size w w9:=below_thru hB2 hb9
 have hs3:=hB3.size
 have x_r3:Box w9 (w.heap.size) (rcell Req.zero):=Box.below x_r2 hb9
 have x_t3:Box w9 (w1.heap.size) (TC):=Box.below x_t2 hb9
 clear hB2 hs2 x_r2 x_t2
 clear hb9
 have x_w3:Box w9 (g4) (FR):=hbx
 clear hbx hFR hfl
 go_upto_region 3 with fail
 refine wp_region_held_drew (S:=fun W=>Box W (w1.heap.size) (TC)∧Box W (g4) (FR)) (by kernel_rfl) (And.intro (x_t3).drew (x_w3).drew) (fun _=>?_)
 refine F_drew (F:=fun W=>wpAnyH _ _ _ _ _ _ _ _ W) ?_
 intro Wt0 hbt0
 clear hs3
 have x_t_t0:Box Wt0 (w1.heap.size) (TC):=Box.below x_t3 hbt0
 have x_w_t0:Box Wt0 (g4) (FR):=Box.below x_w3 hbt0
 have z_r_t0:Box Wt0 (w.heap.size) (rcell Req.zero):=Box.below x_r3 hbt0
 have Bt0:=below_thru hB3 hbt0
 clear x_t3 x_w3 x_r3 hB3 hbt0
 refine takeH 1 21 (v:=?vt1_1) rfl (by rfl) (by kernel_rfl) (by kernel_rfl) (by kernel_rfl) (fun _ _ _ h=>h) (Or.inl ⟨by rfl,?_⟩) ((And.intro x_t_t0 x_w_t0)) ?_
 rotate_left
 · intro wq hSq
   go_simp
   exact rfl
 try simp only [Act.put,qzA,qz0,qzS]
 refine takeH 2 22 (v:=?vt2_2) rfl (by rfl) (by kernel_rfl) (by kernel_rfl) (by kernel_rfl) (fun _ _ _ h=>h) (Or.inl ⟨by rfl,?_⟩) ((And.intro x_t_t0 x_w_t0)) ?_
 rotate_left
 · intro wq hSq
   go_simp
   exact rfl
 try simp only [Act.put,qzA,qz0,qzS]
 refine takeH 3 23 (v:=?vt3_3) rfl (by rfl) (by kernel_rfl) (by kernel_rfl) (by kernel_rfl) (fun _ _ _ h=>h) (Or.inl ⟨by rfl,?_⟩) ((And.intro x_t_t0 x_w_t0)) ?_
 rotate_left
 · intro wq hSq
   go_simp
   exact rfl
 try simp only [Act.put,qzA,qz0,qzS]
 refine takeH 4 24 (v:=?vt4_4) rfl (by rfl) (by kernel_rfl) (by kernel_rfl) (by kernel_rfl) (fun _ _ _ h=>h) (Or.inl ⟨by rfl,?_⟩) ((And.intro x_t_t0 x_w_t0)) ?_
 rotate_left
 · intro wq hSq
   have cq:=(hSq.2).c 1 _ g1
   have zq:=lt_of_cell cq
   go_simp
   exact rfl
 try simp only [Act.put,qzA,qz0,qzS]
 refine takeH 5 25 (v:=?vt5_5) rfl (by rfl) (by kernel_rfl) (by kernel_rfl) (by kernel_rfl) (fun _ _ _ h=>h) (Or.inl ⟨by rfl,?_⟩) ((And.intro x_t_t0 x_w_t0)) ?_
 rotate_left
 · intro wq hSq
   go_simp
   exact rfl
 try simp only [Act.put,qzA,qz0,qzS]
 refine takeH 6 26 (v:=?vt6_6) rfl (by rfl) (by kernel_rfl) (by kernel_rfl) (by kernel_rfl) (fun _ _ _ h=>h) (Or.inl ⟨by rfl,?_⟩) ((And.intro x_t_t0 x_w_t0)) ?_
 rotate_left
 · intro wq hSq
   go_simp
   exact rfl
 try simp only [Act.put,qzA,qz0,qzS]
 refine takeH 7 27 (v:=?vt7_7) rfl (by rfl) (by kernel_rfl) (by kernel_rfl) (by kernel_rfl) (fun _ _ _ h=>h) (Or.inl ⟨by rfl,?_⟩) ((And.intro x_t_t0 x_w_t0)) ?_
 rotate_left
 · intro wq hSq
   go_simp
   exact rfl
 try simp only [Act.put,qzA,qz0,qzS]
 refine takeH 8 28 (v:=?vt8_8) rfl (by rfl) (by kernel_rfl) (by kernel_rfl) (by kernel_rfl) (fun _ _ _ h=>h) (Or.inl ⟨by rfl,?_⟩) ((And.intro x_t_t0 x_w_t0)) ?_
 rotate_left
 · intro wq hSq
   go_simp
   exact rfl
 try simp only [Act.put,qzA,qz0,qzS]
 refine takeH 9 29 (v:=?vt9_9) rfl (by rfl) (by kernel_rfl) (by kernel_rfl) (by kernel_rfl) (fun _ _ _ h=>h) (Or.inl ⟨by rfl,?_⟩) ((And.intro x_t_t0 x_w_t0)) ?_
 rotate_left
 · intro wq hSq
   have cq:=(hSq.2).c 35 _ g2
   have zq:=lt_of_cell cq
   go_simp
   exact rfl
 try simp only [Act.put,qzA,qz0,qzS]
 refine takeH 10 30 (v:=?vt10_10) rfl (by rfl) (by kernel_rfl) (by kernel_rfl) (by kernel_rfl) (fun _ _ _ h=>h) (Or.inl ⟨by rfl,?_⟩) ((And.intro x_t_t0 x_w_t0)) ?_
 rotate_left
 · intro wq hSq
   go_simp
   exact rfl
 try simp only [Act.put,qzA,qz0,qzS]
 refine takeH 0 20 (v:=.agg (TC).toArray) rfl (by rfl) (by kernel_rfl) (by kernel_rfl) (by kernel_rfl) (fun _ _ _ h=>h) (yieldsIf_load_mid (by rfl) _ _ rfl _ _ rfl (TC) _ (fun wq hq=>Box.range (hq.1)) Tryz.underlying27 rfl ST.out) ((And.intro x_t_t0 x_w_t0)) ?_
 try simp only [Act.put,qzA,qz0,qzS]
 refine takeH 11 31 (v:=.agg F.toArray) rfl (by rfl) (by kernel_rfl) (by kernel_rfl) (by kernel_rfl) (fun _ _ _ h=>h) (yieldsIf_build (by rfl) _ _ rfl (us:=#[(0,.agg TC.toArray),(1,.int .u16 r.ep),(2,.int .u32 r.co)]) (by rfl) BT) ((And.intro x_t_t0 x_w_t0)) ?_
 try simp only [Act.put,qzA,qz0,qzS]
 refine wpAnyH_ready (rs:=[12]) (by kernel_rfl) (by simp) (AllReadyH.cons rfl (fun K hK=>?_) AllReadyH.nil)
 have nz_t:=(x_t_t0).lt
 have nz_w:=(x_w_t0).lt
 refine step_store_box0 (cs:=F) rfl rfl _ _ _ rfl z_r_t0 rfl rfl SF.out LF9.out OF.out ?_
 intro Wt11 hWt11
 have x_t_t11:Box Wt11 (w1.heap.size) (TC):=hWt11.past _ _ (by omega) x_t_t0
 have x_w_t11:Box Wt11 (g4) (FR):=hWt11.past _ _ (by omega) x_w_t0
 have z_r_t11:=hWt11.box
 have Bt11:=hWt11.below _ _ (by omega) Bt0
 clear nz_t nz_w x_t_t0 x_w_t0 z_r_t0 Bt0 hWt11
 refine hK.out _ _ (And.intro x_t_t11 x_w_t11) (fun _=>?_);clear hK K
 refine wpAnyH_done (by kernel_rfl) ?_ _
 go_wp2_with fail
 exact bodyPost_ret (results_box Tryz.results55 z_r_t11 rfl Tryz.underlying30 rfl SF.out) rfl ⟨rfl,Bt11⟩
end Go.Proofs.YtnfejdfjlnpldaaGreatDoor
namespace Go.Proofs.YtnfejdfjlnpldaaGreatDoor
open Go.RowKit
theorem fdN_n {k n:Int} (hk:0≤k∧k≤255) (hn:0≤n∧n≤18446744073709551615):(fdN k n).n=n:=by rw [fdN_is hk hn];rfl
theorem crow_flat (c:Cmd):(flatR LF (crow c)).length=544:=by
 have h:(crow c).length=16:=rfl
 rw [flatR_len,h,show LF.s=34 from rfl]
theorem grow9_x (c:Cmd):(flatR LF (grow9 c))[511]? = some (.int .u64 c.x):=by
 have:=flatR_at (L:=LF) (xs:=grow9 c) (i:=15) (j:=1) (v:=.int .u64 c.x) rfl (by show (fdN 5 c.x).v[1]? = _;rw [fdN_v (by decide) c.hx];rfl)
 exact this
theorem grow9_g (c:Cmd):(flatR LF (grow9 c)).drop 546=c.g.map (Value.int .u8) ++ []:=by
 unfold grow9
 rw [flatR_app,flatR_one,List.append_nil]
 have e:(546:Nat)=(flatR LF (crow c)).length + 2:=by rw [crow_flat]
 rw [e,List.drop_append,List.drop_of_length_le (by omega),Nat.add_sub_cancel_left]
 rfl
def Cmd.k0 (c:Cmd):Cmd:=⟨c.op,c.t,c.u,Lm.zero,Lm.zero,Lm.zero,0,0,0,zeroD,c.hop,c.ht,c.hu,by decide,by decide,by decide,zeroD_len,zeroD_byts⟩
set_option maxRecDepth 100000 in
theorem build_k0 (op t u:Int) (W:World):(Instr.build 35 #[(0,.int .u8 op),(1,.int .u32 t),(2,.int .u32 u)]).run Tryz.prog W =
   .ok (.agg (.int .u8 op :: .int .u32 t :: .int .u32 u :: .int .i64 0 :: .int .i64 0 :: .int .i64 0 :: .int .i64 0 :: .int .i64 0 :: .int .i64 0 :: .int .i64 0 :: .int .i64 0 :: .int .i64 0 :: .int .u8 0 :: .int .u8 0 :: .int .u64 0 :: zeroD.map (Value.int .u8)).toArray) W:=by kernel_rfl
theorem build_lm (b r p:Int) (W:World):(Instr.build 32 #[(0,.int .i64 b),(1,.int .i64 r),(2,.int .i64 p)]).run Tryz.prog W=.ok (.agg #[.int .i64 b,.int .i64 r,.int .i64 p]) W:=by kernel_rfl
theorem size_row:(Tryz.prog.info? 76).map (·.size)=some 1:=by kernel_rfl
set_option maxRecDepth 100000 in
set_option maxHeartbeats 12800000 in
theorem cmdof_is (c:Cmd) (hw:c.wd) {v:Value} (w:World) (h1:IsL w .u8 v (c.msg ++ c.g)):Calls Tryz.prog 56 #[v] w fun e w'=>e=.returned (.agg (ccell c).toArray)∧Below w.heap.size w w':=by
 have HV:=Lib.hid h1
 clear h1
 have KI:=fun W=>ck_is W
 have RD:=fun (W:World) (a b:Value) (h1:IsL W .u8 a kin9) (h2:IsL W .u8 b (c.msg ++ c.g))=>read_is W h1 h2 (by decide) (c.msg_byts.append c.hgb)
 rw [(rea9 hw).1,(rea9 hw).2] at RD
 have E1:∃ f,(grow9 c)[1]? = some f∧f.n=c.op∧f.n≤4294967295:=⟨fdN 2 c.op,rfl,fdN_n (by decide) (k8 c.hop),(by rw [fdN_n (by decide) (k8 c.hop)];have:=c.hop;omega)⟩
 have E2:∃ f,(grow9 c)[2]? = some f∧f.n=c.t∧f.n≤4294967295:=⟨fdN 4 c.t,rfl,fdN_n (by decide) (k32 c.ht),(by rw [fdN_n (by decide) (k32 c.ht)];have:=c.ht;omega)⟩
 have E3:∃ f,(grow9 c)[3]? = some f∧f.n=c.u∧f.n≤4294967295:=⟨fdN 4 c.u,rfl,fdN_n (by decide) (k32 c.hu),(by rw [fdN_n (by decide) (k32 c.hu)];have:=c.hu;omega)⟩
 have E4:∃ f,(grow9 c)[4]? = some f∧f.n=c.l0.b∧f.n≤4294967295:=⟨fdN 4 c.l0.b,rfl,fdN_n (by decide) (k32 hw.1.1),(by rw [fdN_n (by decide) (k32 hw.1.1)];have:=hw.1.1;omega)⟩
 have E5:∃ f,(grow9 c)[5]? = some f∧f.n=c.l0.r∧f.n≤4294967295:=⟨fdN 4 c.l0.r,rfl,fdN_n (by decide) (k32 hw.1.2.1),(by rw [fdN_n (by decide) (k32 hw.1.2.1)];have:=hw.1.2.1;omega)⟩
 have E6:∃ f,(grow9 c)[6]? = some f∧f.n=c.l0.p∧f.n≤4294967295:=⟨fdN 4 c.l0.p,rfl,fdN_n (by decide) (k32 hw.1.2.2),(by rw [fdN_n (by decide) (k32 hw.1.2.2)];have:=hw.1.2.2;omega)⟩
 have E7:∃ f,(grow9 c)[7]? = some f∧f.n=c.l1.b∧f.n≤4294967295:=⟨fdN 4 c.l1.b,rfl,fdN_n (by decide) (k32 hw.2.1.1),(by rw [fdN_n (by decide) (k32 hw.2.1.1)];have:=hw.2.1.1;omega)⟩
 have E8:∃ f,(grow9 c)[8]? = some f∧f.n=c.l1.r∧f.n≤4294967295:=⟨fdN 4 c.l1.r,rfl,fdN_n (by decide) (k32 hw.2.1.2.1),(by rw [fdN_n (by decide) (k32 hw.2.1.2.1)];have:=hw.2.1.2.1;omega)⟩
 have E9:∃ f,(grow9 c)[9]? = some f∧f.n=c.l1.p∧f.n≤4294967295:=⟨fdN 4 c.l1.p,rfl,fdN_n (by decide) (k32 hw.2.1.2.2),(by rw [fdN_n (by decide) (k32 hw.2.1.2.2)];have:=hw.2.1.2.2;omega)⟩
 have E10:∃ f,(grow9 c)[10]? = some f∧f.n=c.l2.b∧f.n≤4294967295:=⟨fdN 4 c.l2.b,rfl,fdN_n (by decide) (k32 hw.2.2.1),(by rw [fdN_n (by decide) (k32 hw.2.2.1)];have:=hw.2.2.1;omega)⟩
 have E11:∃ f,(grow9 c)[11]? = some f∧f.n=c.l2.r∧f.n≤4294967295:=⟨fdN 4 c.l2.r,rfl,fdN_n (by decide) (k32 hw.2.2.2.1),(by rw [fdN_n (by decide) (k32 hw.2.2.2.1)];have:=hw.2.2.2.1;omega)⟩
 have E12:∃ f,(grow9 c)[12]? = some f∧f.n=c.l2.p∧f.n≤4294967295:=⟨fdN 4 c.l2.p,rfl,fdN_n (by decide) (k32 hw.2.2.2.2),(by rw [fdN_n (by decide) (k32 hw.2.2.2.2)];have:=hw.2.2.2.2;omega)⟩
 have E13:∃ f,(grow9 c)[13]? = some f∧f.n=c.us∧f.n≤4294967295:=⟨fdN 2 c.us,rfl,fdN_n (by decide) (k8 c.hus),(by rw [fdN_n (by decide) (k8 c.hus)];have:=c.hus;omega)⟩
 have E14:∃ f,(grow9 c)[14]? = some f∧f.n=c.en∧f.n≤4294967295:=⟨fdN 2 c.en,rfl,fdN_n (by decide) (k8 c.hen),(by rw [fdN_n (by decide) (k8 c.hen)];have:=c.hen;omega)⟩
 have wop:IntKind.u8.wrap c.op=c.op:=by have:=c.hop;rw [IntKind.wrap_u8];omega
 have wus:IntKind.u8.wrap c.us=c.us:=by have:=c.hus;rw [IntKind.wrap_u8];omega
 have wen:IntKind.u8.wrap c.en=c.en:=by have:=c.hen;rw [IntKind.wrap_u8];omega
 have wt:IntKind.u32.wrap c.t=c.t:=by have:=c.ht;rw [IntKind.wrap_u32];omega
 have wu:IntKind.u32.wrap c.u=c.u:=by have:=c.hu;rw [IntKind.wrap_u32];omega
 have g15:=grow9_x c;have DG:=Lib.hid (grow9_g c);have SG:=Lib.hid (size_dg9 c.hg);have HG:=Lib.hid c.hg
 have OG:=Lib.hid (oneCell_ints (k:=.u8) c.g)
 have BK:=fun W=>build_k0 c.op c.t c.u W
 have S0:=Lib.hid (size_cmd c.k0);have L0:=Lib.hid (len_cmd Cmd.zero c.k0);have O0:=Lib.hid (one_cmd c.k0)
 have SF:=Lib.hid (size_cmd c);have LF9:=Lib.hid (len_cmd Cmd.zero c);have OF:=Lib.hid (one_cmd c);have SZ:=Lib.hid (size_cmd Cmd.zero)
 have U0e:ccell c.k0=.int .u8 c.op :: .int .u32 c.t :: .int .u32 c.u :: .int .i64 0 :: .int .i64 0 :: .int .i64 0 :: .int .i64 0 :: .int .i64 0 :: .int .i64 0 :: .int .i64 0 :: .int .i64 0 :: .int .i64 0 :: .int .u8 0 :: .int .u8 0 :: .int .u64 0 :: zeroD.map (Value.int .u8):=rfl
 rw [← U0e] at BK
 clear U0e
 have N0:Hid ((ccell c.k0).length=47):=Lib.hid (ccell_len _)
 have BL0:=fun W=>build_lm c.l0.b c.l0.r c.l0.p W
 have SM0:=Lib.hid (size_lm c.l0);have OM0:=Lib.hid (one_lm c.l0);have NM0:Hid (c.l0.v.length=3):=Lib.hid rfl
 obtain ⟨U1,W1⟩:∃ U,Hid (U=(ccell c.k0).take 3 ++ c.l0.v ++ (ccell c.k0).drop (3 + c.l0.v.length)):=⟨_,Lib.hid rfl⟩
 have N1:Hid (U1.length=47):=Lib.hid (by rw [W1.out];have:=N0.out;simp only [List.length_append,List.length_take,List.length_drop,this,NM0.out];rfl)
 have BL1:=fun W=>build_lm c.l1.b c.l1.r c.l1.p W
 have SM1:=Lib.hid (size_lm c.l1);have OM1:=Lib.hid (one_lm c.l1);have NM1:Hid (c.l1.v.length=3):=Lib.hid rfl
 obtain ⟨U2,W2⟩:∃ U,Hid (U=(U1).take 6 ++ c.l1.v ++ (U1).drop (6 + c.l1.v.length)):=⟨_,Lib.hid rfl⟩
 have N2:Hid (U2.length=47):=Lib.hid (by rw [W2.out];have:=N1.out;simp only [List.length_append,List.length_take,List.length_drop,this,NM1.out];rfl)
 have BL2:=fun W=>build_lm c.l2.b c.l2.r c.l2.p W
 have SM2:=Lib.hid (size_lm c.l2);have OM2:=Lib.hid (one_lm c.l2);have NM2:Hid (c.l2.v.length=3):=Lib.hid rfl
 obtain ⟨U3,W3⟩:∃ U,Hid (U=(U2).take 9 ++ c.l2.v ++ (U2).drop (9 + c.l2.v.length)):=⟨_,Lib.hid rfl⟩
 have N3:Hid (U3.length=47):=Lib.hid (by rw [W3.out];have:=N2.out;simp only [List.length_append,List.length_take,List.length_drop,this,NM2.out];rfl)
 obtain ⟨U4,W4⟩:∃ U,Hid (U=U3.set 12 (.int .u8 c.us)):=⟨_,Lib.hid rfl⟩
 obtain ⟨U5,W5⟩:∃ U,Hid (U=U4.set 13 (.int .u8 c.en)):=⟨_,Lib.hid rfl⟩
 obtain ⟨U6,W6⟩:∃ U,Hid (U=U5.set 14 (.int .u64 c.x)):=⟨_,Lib.hid rfl⟩
 have N4:Hid (U4.length=47):=Lib.hid (by rw [W4.out,List.length_set,N3.out])
 have N5:Hid (U5.length=47):=Lib.hid (by rw [W5.out,List.length_set,N4.out])
 have N6:Hid (U6.length=47):=Lib.hid (by rw [W6.out,List.length_set,N5.out])
 have W7:Hid (ccell c=U6.take 15 ++ c.g.map (Value.int .u8) ++ U6.drop (15 + (c.g.map (Value.int .u8)).length)):=Lib.hid (by rw [List.length_map,c.hg,List.drop_of_length_le (by rw [N6.out];omega),W6.out,W5.out,W4.out,W3.out,W2.out,W1.out];simp [ccell,Cmd.k0,Lm.v])
 obtain ⟨FR,hFR⟩:∃ X,flatR LF (grow9 c)=X:=⟨_,rfl⟩
 have hfl:(grow9 c).length=17:=rfl
 obtain ⟨fs,hfs⟩:∃ X,grow9 c=X:=⟨_,rfl⟩
 obtain ⟨bs,hbs⟩:∃ X,c.msg ++ c.g=X:=⟨_,rfl⟩
 rw [hFR] at g15 DG
 rw [hfs] at RD hFR hfl E1 E2 E3 E4 E5 E6 E7 E8 E9 E10 E11 E12 E13 E14
 rw [hbs] at HV RD
 obtain ⟨U0,hU0⟩:∃ V,ccell c.k0=V:=⟨_,rfl⟩
 obtain ⟨F,hF⟩:∃ V,ccell c=V:=⟨_,rfl⟩
 obtain ⟨G,hG⟩:∃ V,c.g.map (Value.int .u8)=V:=⟨_,rfl⟩
 have NG:Hid ((c.g.map (Value.int .u8)).length=32):=Lib.hid (by rw [List.length_map,c.hg])
 rw [hU0] at BK S0 L0 O0 N0 W1
 rw [hF] at SF LF9 OF W7 ⊢
 rw [hG] at DG SG OG W7 NG
 have EM0:(c.l0.v).toArray = #[.int .i64 c.l0.b,.int .i64 c.l0.r,.int .i64 c.l0.p]:=rfl
 rw [← EM0] at BL0;clear EM0
 obtain ⟨M0,hM0⟩:∃ V,c.l0.v=V:=⟨_,rfl⟩
 rw [hM0] at BL0 SM0 OM0 NM0 W1
 have EM1:(c.l1.v).toArray = #[.int .i64 c.l1.b,.int .i64 c.l1.r,.int .i64 c.l1.p]:=rfl
 rw [← EM1] at BL1;clear EM1
 obtain ⟨M1,hM1⟩:∃ V,c.l1.v=V:=⟨_,rfl⟩
 rw [hM1] at BL1 SM1 OM1 NM1 W2
 have EM2:(c.l2.v).toArray = #[.int .i64 c.l2.b,.int .i64 c.l2.r,.int .i64 c.l2.p]:=rfl
 rw [← EM2] at BL2;clear EM2
 obtain ⟨M2,hM2⟩:∃ V,c.l2.v=V:=⟨_,rfl⟩
 rw [hM2] at BL2 SM2 OM2 NM2 W3
 have HFR:=Lib.hid hFR;have HFL:=Lib.hid hfl
 clear hw hfs hbs hU0 hF hG hM0 hM1 hM2 hFR hfl
 go_enter Tryz.func56,Tryz.ntmps56
 go_upto_region 1 with fail
 refine F_gen (F:=fun W=>Code.wp _ _ _ _ W) (J:=fun W=>Box W (w.heap.size) (ccell Cmd.zero)∧Below w.heap.size w W) (And.intro (Box.newc rfl rfl) (by go_grown)) ?_
 intro w0 ⟨e_r,hB0⟩
 have hs0:=hB0.size
 have x_r0:=e_r;clear e_r
 go_wp2_with fail
 refine (KI _).mono ?_
 rintro e w1 ⟨vk,rfl,hok,hb⟩
 have hB1:Below w.heap.size w w1:=below_thru hB0 hb
 have hs1:=hB1.size
 have x_r1:Box w1 (w.heap.size) (ccell Cmd.zero):=Box.below x_r0 hb
 clear hB0 hs0 x_r0
 clear hb
 have hk:=IsL.own hok rfl
 clear hok
 go_wp2_with fail
 refine (RD _ _ _ hk (HV.out.below hB1)).mono ?_
 rintro e w2 ⟨vr,rfl,hor,hb⟩
 clear hk
 rw [HFR.out,HFL.out] at hor
 obtain ⟨g4,c4,rfl,hg4,hc4,hc5,hbx⟩:=own_box hor (by decide)
 have lo1:w.heap.size < g4:=by have:=(x_r1).lt;omega
 clear hor hg4
 have hB2:Below w.heap.size w w2:=below_thru hB1 hb
 have hs2:=hB2.size
 have x_r2:Box w2 (w.heap.size) (ccell Cmd.zero):=Box.below x_r1 hb
 clear hB1 hs1 x_r1
 clear hb
 have x_w2:Box w2 (g4) (FR):=hbx
 clear hbx
 have HC4:=Lib.hid hc4;have HC5:=Lib.hid hc5;have ic4:(17:Int)≤(c4:Int):=by omega
 clear hc4 hc5
 have C1:∀ (W:World) (p:Nat),Box W p [.slice (some ⟨g4,0,none⟩) 17 c4]→Box W g4 FR→Calls Tryz.prog 81 #[.int .i64 1,.pointer (some ⟨p,0,none⟩)] W fun e w'=>e=.returned (.int .i64 c.op)∧Below W.heap.size W w':=fun W p hp hx=>by
   obtain ⟨f,e1,e2,e3⟩:=E1
   refine (cof1_is (i:=1) W (hp.c 0 _ rfl) (IsR.ofBoxc hx HFR.out.symm HFL.out.symm HC4.out HC5.out) e1 e3 (by decide)).mono fun e w' ⟨h1,h2⟩=>⟨by rw [h1,e2],by rw [h2];exact Below.refl _ _⟩
 have C2:∀ (W:World) (p:Nat),Box W p [.slice (some ⟨g4,0,none⟩) 17 c4]→Box W g4 FR→Calls Tryz.prog 81 #[.int .i64 2,.pointer (some ⟨p,0,none⟩)] W fun e w'=>e=.returned (.int .i64 c.t)∧Below W.heap.size W w':=fun W p hp hx=>by
   obtain ⟨f,e1,e2,e3⟩:=E2
   refine (cof1_is (i:=2) W (hp.c 0 _ rfl) (IsR.ofBoxc hx HFR.out.symm HFL.out.symm HC4.out HC5.out) e1 e3 (by decide)).mono fun e w' ⟨h1,h2⟩=>⟨by rw [h1,e2],by rw [h2];exact Below.refl _ _⟩
 have C3:∀ (W:World) (p:Nat),Box W p [.slice (some ⟨g4,0,none⟩) 17 c4]→Box W g4 FR→Calls Tryz.prog 81 #[.int .i64 3,.pointer (some ⟨p,0,none⟩)] W fun e w'=>e=.returned (.int .i64 c.u)∧Below W.heap.size W w':=fun W p hp hx=>by
   obtain ⟨f,e1,e2,e3⟩:=E3
   refine (cof1_is (i:=3) W (hp.c 0 _ rfl) (IsR.ofBoxc hx HFR.out.symm HFL.out.symm HC4.out HC5.out) e1 e3 (by decide)).mono fun e w' ⟨h1,h2⟩=>⟨by rw [h1,e2],by rw [h2];exact Below.refl _ _⟩
 have C4:∀ (W:World) (p:Nat),Box W p [.slice (some ⟨g4,0,none⟩) 17 c4]→Box W g4 FR→Calls Tryz.prog 81 #[.int .i64 4,.pointer (some ⟨p,0,none⟩)] W fun e w'=>e=.returned (.int .i64 c.l0.b)∧Below W.heap.size W w':=fun W p hp hx=>by
   obtain ⟨f,e1,e2,e3⟩:=E4
   refine (cof1_is (i:=4) W (hp.c 0 _ rfl) (IsR.ofBoxc hx HFR.out.symm HFL.out.symm HC4.out HC5.out) e1 e3 (by decide)).mono fun e w' ⟨h1,h2⟩=>⟨by rw [h1,e2],by rw [h2];exact Below.refl _ _⟩
 have C5:∀ (W:World) (p:Nat),Box W p [.slice (some ⟨g4,0,none⟩) 17 c4]→Box W g4 FR→Calls Tryz.prog 81 #[.int .i64 5,.pointer (some ⟨p,0,none⟩)] W fun e w'=>e=.returned (.int .i64 c.l0.r)∧Below W.heap.size W w':=fun W p hp hx=>by
   obtain ⟨f,e1,e2,e3⟩:=E5
   refine (cof1_is (i:=5) W (hp.c 0 _ rfl) (IsR.ofBoxc hx HFR.out.symm HFL.out.symm HC4.out HC5.out) e1 e3 (by decide)).mono fun e w' ⟨h1,h2⟩=>⟨by rw [h1,e2],by rw [h2];exact Below.refl _ _⟩
 have C6:∀ (W:World) (p:Nat),Box W p [.slice (some ⟨g4,0,none⟩) 17 c4]→Box W g4 FR→Calls Tryz.prog 81 #[.int .i64 6,.pointer (some ⟨p,0,none⟩)] W fun e w'=>e=.returned (.int .i64 c.l0.p)∧Below W.heap.size W w':=fun W p hp hx=>by
   obtain ⟨f,e1,e2,e3⟩:=E6
   refine (cof1_is (i:=6) W (hp.c 0 _ rfl) (IsR.ofBoxc hx HFR.out.symm HFL.out.symm HC4.out HC5.out) e1 e3 (by decide)).mono fun e w' ⟨h1,h2⟩=>⟨by rw [h1,e2],by rw [h2];exact Below.refl _ _⟩
 have C7:∀ (W:World) (p:Nat),Box W p [.slice (some ⟨g4,0,none⟩) 17 c4]→Box W g4 FR→Calls Tryz.prog 81 #[.int .i64 7,.pointer (some ⟨p,0,none⟩)] W fun e w'=>e=.returned (.int .i64 c.l1.b)∧Below W.heap.size W w':=fun W p hp hx=>by
   obtain ⟨f,e1,e2,e3⟩:=E7
   refine (cof1_is (i:=7) W (hp.c 0 _ rfl) (IsR.ofBoxc hx HFR.out.symm HFL.out.symm HC4.out HC5.out) e1 e3 (by decide)).mono fun e w' ⟨h1,h2⟩=>⟨by rw [h1,e2],by rw [h2];exact Below.refl _ _⟩
 have C8:∀ (W:World) (p:Nat),Box W p [.slice (some ⟨g4,0,none⟩) 17 c4]→Box W g4 FR→Calls Tryz.prog 81 #[.int .i64 8,.pointer (some ⟨p,0,none⟩)] W fun e w'=>e=.returned (.int .i64 c.l1.r)∧Below W.heap.size W w':=fun W p hp hx=>by
   obtain ⟨f,e1,e2,e3⟩:=E8
   refine (cof1_is (i:=8) W (hp.c 0 _ rfl) (IsR.ofBoxc hx HFR.out.symm HFL.out.symm HC4.out HC5.out) e1 e3 (by decide)).mono fun e w' ⟨h1,h2⟩=>⟨by rw [h1,e2],by rw [h2];exact Below.refl _ _⟩
 have C9:∀ (W:World) (p:Nat),Box W p [.slice (some ⟨g4,0,none⟩) 17 c4]→Box W g4 FR→Calls Tryz.prog 81 #[.int .i64 9,.pointer (some ⟨p,0,none⟩)] W fun e w'=>e=.returned (.int .i64 c.l1.p)∧Below W.heap.size W w':=fun W p hp hx=>by
   obtain ⟨f,e1,e2,e3⟩:=E9
   refine (cof1_is (i:=9) W (hp.c 0 _ rfl) (IsR.ofBoxc hx HFR.out.symm HFL.out.symm HC4.out HC5.out) e1 e3 (by decide)).mono fun e w' ⟨h1,h2⟩=>⟨by rw [h1,e2],by rw [h2];exact Below.refl _ _⟩
 have C10:∀ (W:World) (p:Nat),Box W p [.slice (some ⟨g4,0,none⟩) 17 c4]→Box W g4 FR→Calls Tryz.prog 81 #[.int .i64 10,.pointer (some ⟨p,0,none⟩)] W fun e w'=>e=.returned (.int .i64 c.l2.b)∧Below W.heap.size W w':=fun W p hp hx=>by
   obtain ⟨f,e1,e2,e3⟩:=E10
   refine (cof1_is (i:=10) W (hp.c 0 _ rfl) (IsR.ofBoxc hx HFR.out.symm HFL.out.symm HC4.out HC5.out) e1 e3 (by decide)).mono fun e w' ⟨h1,h2⟩=>⟨by rw [h1,e2],by rw [h2];exact Below.refl _ _⟩
 have C11:∀ (W:World) (p:Nat),Box W p [.slice (some ⟨g4,0,none⟩) 17 c4]→Box W g4 FR→Calls Tryz.prog 81 #[.int .i64 11,.pointer (some ⟨p,0,none⟩)] W fun e w'=>e=.returned (.int .i64 c.l2.r)∧Below W.heap.size W w':=fun W p hp hx=>by
   obtain ⟨f,e1,e2,e3⟩:=E11
   refine (cof1_is (i:=11) W (hp.c 0 _ rfl) (IsR.ofBoxc hx HFR.out.symm HFL.out.symm HC4.out HC5.out) e1 e3 (by decide)).mono fun e w' ⟨h1,h2⟩=>⟨by rw [h1,e2],by rw [h2];exact Below.refl _ _⟩
 have C12:∀ (W:World) (p:Nat),Box W p [.slice (some ⟨g4,0,none⟩) 17 c4]→Box W g4 FR→Calls Tryz.prog 81 #[.int .i64 12,.pointer (some ⟨p,0,none⟩)] W fun e w'=>e=.returned (.int .i64 c.l2.p)∧Below W.heap.size W w':=fun W p hp hx=>by
   obtain ⟨f,e1,e2,e3⟩:=E12
   refine (cof1_is (i:=12) W (hp.c 0 _ rfl) (IsR.ofBoxc hx HFR.out.symm HFL.out.symm HC4.out HC5.out) e1 e3 (by decide)).mono fun e w' ⟨h1,h2⟩=>⟨by rw [h1,e2],by rw [h2];exact Below.refl _ _⟩
 have C13:∀ (W:World) (p:Nat),Box W p [.slice (some ⟨g4,0,none⟩) 17 c4]→Box W g4 FR→Calls Tryz.prog 81 #[.int .i64 13,.pointer (some ⟨p,0,none⟩)] W fun e w'=>e=.returned (.int .i64 c.us)∧Below W.heap.size W w':=fun W p hp hx=>by
   obtain ⟨f,e1,e2,e3⟩:=E13
   refine (cof1_is (i:=13) W (hp.c 0 _ rfl) (IsR.ofBoxc hx HFR.out.symm HFL.out.symm HC4.out HC5.out) e1 e3 (by decide)).mono fun e w' ⟨h1,h2⟩=>⟨by rw [h1,e2],by rw [h2];exact Below.refl _ _⟩
 have C14:∀ (W:World) (p:Nat),Box W p [.slice (some ⟨g4,0,none⟩) 17 c4]→Box W g4 FR→Calls Tryz.prog 81 #[.int .i64 14,.pointer (some ⟨p,0,none⟩)] W fun e w'=>e=.returned (.int .i64 c.en)∧Below W.heap.size W w':=fun W p hp hx=>by
   obtain ⟨f,e1,e2,e3⟩:=E14
   refine (cof1_is (i:=14) W (hp.c 0 _ rfl) (IsR.ofBoxc hx HFR.out.symm HFL.out.symm HC4.out HC5.out) e1 e3 (by decide)).mono fun e w' ⟨h1,h2⟩=>⟨by rw [h1,e2],by rw [h2];exact Below.refl _ _⟩
 clear E1 E2 E3 E4 E5 E6 E7 E8 E9 E10 E11 E12 E13 E14
 have d_r:=(x_r2).lt
 have d_w:=(x_w2).lt
 go_upto_region 2 with (refine wpList_store_cell (ws:=[.slice (some ⟨g4,0,none⟩) 17 c4]) (v:=.slice (some ⟨g4,0,none⟩) 17 c4) rfl _ _ _ rfl (Box.newc (l:=[.slice none 0 0]) rfl rfl) rfl rfl rfl rfl size_row (by decide) rfl ?_;intro W0_p hW0_p)
 have hN:Below w2.heap.size w2 W0_p:=hW0_p.below _ _ (Nat.le_refl _) ((Below.refl _ _).alloc (Nat.le_refl _) _)
 have x_p3:Box W0_p w2.heap.size [.slice (some ⟨g4,0,none⟩) 17 c4]:=hW0_p.box
 have lo2:w.heap.size < w2.heap.size:=d_r
 have lo3:g4 < w2.heap.size:=d_w
 have hB3:Below w.heap.size w W0_p:=below_thru hB2 hN
 have hs3:=hB3.size
 have x_r3:Box W0_p (w.heap.size) (ccell Cmd.zero):=Box.below x_r2 hN
 have x_w3:Box W0_p (g4) (FR):=Box.below x_w2 hN
 clear hB2 hs2 x_r2 x_w2
 clear hN hW0_p d_r d_w
 go_wp2_with fail
 refine (C1 _ _ x_p3 x_w3).mono ?_
 rintro e w4 ⟨rfl,hb⟩
 have hB4:Below w.heap.size w w4:=below_thru hB3 hb
 have hs4:=hB4.size
 have x_r4:Box w4 (w.heap.size) (ccell Cmd.zero):=Box.below x_r3 hb
 have x_w4:Box w4 (g4) (FR):=Box.below x_w3 hb
 have x_p4:Box w4 (w2.heap.size) ([.slice (some ⟨g4,0,none⟩) 17 c4]):=Box.below x_p3 hb
 clear hB3 hs3 x_r3 x_w3 x_p3
 clear hb
 go_wp2_with fail
 refine (C2 _ _ x_p4 x_w4).mono ?_
 rintro e w5 ⟨rfl,hb⟩
 have hB5:Below w.heap.size w w5:=below_thru hB4 hb
 have hs5:=hB5.size
 have x_r5:Box w5 (w.heap.size) (ccell Cmd.zero):=Box.below x_r4 hb
 have x_w5:Box w5 (g4) (FR):=Box.below x_w4 hb
 have x_p5:Box w5 (w2.heap.size) ([.slice (some ⟨g4,0,none⟩) 17 c4]):=Box.below x_p4 hb
 clear hB4 hs4 x_r4 x_w4 x_p4
 clear hb
 go_wp2_with fail
 refine (C3 _ _ x_p5 x_w5).mono ?_
 rintro e w6 ⟨rfl,hb⟩
 have hB6:Below w.heap.size w w6:=below_thru hB5 hb
 have hs6:=hB6.size
 have x_r6:Box w6 (w.heap.size) (ccell Cmd.zero):=Box.below x_r5 hb
 have x_w6:Box w6 (g4) (FR):=Box.below x_w5 hb
 have x_p6:Box w6 (w2.heap.size) ([.slice (some ⟨g4,0,none⟩) 17 c4]):=Box.below x_p5 hb
 clear hB5 hs5 x_r5 x_w5 x_p5
 clear hb
 have lo4:=(x_r6).lt
 have lo5:=(x_w6).lt
 have lo6:=(x_p6).lt
 have d_c_r:=(x_r6).lt
 have d_c_w:=(x_w6).lt
 have d_c_p:=(x_p6).lt
 have d_c_0:=hs6
 go_upto_region 4 with (first
   | (refine wpList_build9 rfl 35 _ rfl (us:=#[(0,.int .u8 c.op),(1,.int .u32 c.t),(2,.int .u32 c.u)]) (by rfl) (BK _) ?_)
   | (refine wpList_store_box (cs:=U0) rfl _ _ _ rfl (Box.newc (l:=ccell Cmd.zero) rfl rfl) rfl rfl S0.out L0.out O0.out ?_;intro W6_0 hW6_0))
 have hN:Below w6.heap.size w6 W6_0:=(hW6_0.below _ _ (by omega) ((Below.refl _ w6).alloc (Nat.le_refl _) _))
 have x_c7:Box W6_0 (w6.heap.size) (U0):=hW6_0.box
 have hB7:Below w.heap.size w W6_0:=below_thru hB6 hN
 have hs7:=hB7.size
 have x_r7:Box W6_0 (w.heap.size) (ccell Cmd.zero):=Box.below x_r6 hN
 have x_w7:Box W6_0 (g4) (FR):=Box.below x_w6 hN
 have x_p7:Box W6_0 (w2.heap.size) ([.slice (some ⟨g4,0,none⟩) 17 c4]):=Box.below x_p6 hN
 clear hB6 hs6 x_r6 x_w6 x_p6
 clear hN hW6_0
 go_wp2_with fail
 refine wp_loop_rounds 5 ?_
 rw [rounds_succ]
 go_wp2_with fail
 refine (C4 _ _ x_p7 x_w7).mono ?_
 rintro e w8 ⟨rfl,hb⟩
 have hB8:Below w.heap.size w w8:=below_thru hB7 hb
 have hs8:=hB8.size
 have x_r8:Box w8 (w.heap.size) (ccell Cmd.zero):=Box.below x_r7 hb
 have x_w8:Box w8 (g4) (FR):=Box.below x_w7 hb
 have x_p8:Box w8 (w2.heap.size) ([.slice (some ⟨g4,0,none⟩) 17 c4]):=Box.below x_p7 hb
 have x_c8:Box w8 (w6.heap.size) (U0):=Box.below x_c7 hb
 clear hB7 hs7 x_r7 x_w7 x_p7 x_c7
 clear hb
 go_wp2_with fail
 refine (C5 _ _ x_p8 x_w8).mono ?_
 rintro e w9 ⟨rfl,hb⟩
 have hB9:Below w.heap.size w w9:=below_thru hB8 hb
 have hs9:=hB9.size
 have x_r9:Box w9 (w.heap.size) (ccell Cmd.zero):=Box.below x_r8 hb
 have x_w9:Box w9 (g4) (FR):=Box.below x_w8 hb
 have x_p9:Box w9 (w2.heap.size) ([.slice (some ⟨g4,0,none⟩) 17 c4]):=Box.below x_p8 hb
 have x_c9:Box w9 (w6.heap.size) (U0):=Box.below x_c8 hb
 clear hB8 hs8 x_r8 x_w8 x_p8 x_c8
 clear hb
 go_wp2_with fail
 refine (C6 _ _ x_p9 x_w9).mono ?_
 rintro e w10 ⟨rfl,hb⟩
 have hB10:Below w.heap.size w w10:=below_thru hB9 hb
 have hs10:=hB10.size
 have x_r10:Box w10 (w.heap.size) (ccell Cmd.zero):=Box.below x_r9 hb
 have x_w10:Box w10 (g4) (FR):=Box.below x_w9 hb
 have x_p10:Box w10 (w2.heap.size) ([.slice (some ⟨g4,0,none⟩) 17 c4]):=Box.below x_p9 hb
 have x_c10:Box w10 (w6.heap.size) (U0):=Box.below x_c9 hb
 clear hB9 hs9 x_r9 x_w9 x_p9 x_c9
 clear hb
 go_wp2_with (first | (refine wpList_build9 rfl 32 _ rfl (us:=#[(0,.int .i64 c.l0.b),(1,.int .i64 c.l0.r),(2,.int .i64 c.l0.p)]) (by rfl) (BL0 _) ?_) | (refine wpList_store_part (k:=3) (cs:=M0) (ws:=U1) rfl _ _ _ rfl x_c10 rfl rfl SM0.out (by rw [NM0.out,N0.out];decide) W1.out OM0.out ?_;intro W9_0 hW))
 have x_r11:Box W9_0 (w.heap.size) (ccell Cmd.zero):=hW.past _ _ (by omega) x_r10
 have x_w11:Box W9_0 (g4) (FR):=hW.past _ _ (by omega) x_w10
 have x_p11:Box W9_0 (w2.heap.size) ([.slice (some ⟨g4,0,none⟩) 17 c4]):=hW.past _ _ (by omega) x_p10
 have x_c11:=hW.box
 have hB11:=hW.below _ _ (by omega) hB10;have hs11:=hB11.size
 clear hW x_r10 x_w10 x_p10 x_c10 hB10 hs10
 rw [rounds_succ]
 go_wp2_with fail
 refine (C7 _ _ x_p11 x_w11).mono ?_
 rintro e w12 ⟨rfl,hb⟩
 have hB12:Below w.heap.size w w12:=below_thru hB11 hb
 have hs12:=hB12.size
 have x_r12:Box w12 (w.heap.size) (ccell Cmd.zero):=Box.below x_r11 hb
 have x_w12:Box w12 (g4) (FR):=Box.below x_w11 hb
 have x_p12:Box w12 (w2.heap.size) ([.slice (some ⟨g4,0,none⟩) 17 c4]):=Box.below x_p11 hb
 have x_c12:Box w12 (w6.heap.size) (U1):=Box.below x_c11 hb
 clear hB11 hs11 x_r11 x_w11 x_p11 x_c11
 clear hb
 go_wp2_with fail
 refine (C8 _ _ x_p12 x_w12).mono ?_
 rintro e w13 ⟨rfl,hb⟩
 have hB13:Below w.heap.size w w13:=below_thru hB12 hb
 have hs13:=hB13.size
 have x_r13:Box w13 (w.heap.size) (ccell Cmd.zero):=Box.below x_r12 hb
 have x_w13:Box w13 (g4) (FR):=Box.below x_w12 hb
 have x_p13:Box w13 (w2.heap.size) ([.slice (some ⟨g4,0,none⟩) 17 c4]):=Box.below x_p12 hb
 have x_c13:Box w13 (w6.heap.size) (U1):=Box.below x_c12 hb
 clear hB12 hs12 x_r12 x_w12 x_p12 x_c12
 clear hb
 go_wp2_with fail
 refine (C9 _ _ x_p13 x_w13).mono ?_
 rintro e w14 ⟨rfl,hb⟩
 have hB14:Below w.heap.size w w14:=below_thru hB13 hb
 have hs14:=hB14.size
 have x_r14:Box w14 (w.heap.size) (ccell Cmd.zero):=Box.below x_r13 hb
 have x_w14:Box w14 (g4) (FR):=Box.below x_w13 hb
 have x_p14:Box w14 (w2.heap.size) ([.slice (some ⟨g4,0,none⟩) 17 c4]):=Box.below x_p13 hb
 have x_c14:Box w14 (w6.heap.size) (U1):=Box.below x_c13 hb
 clear hB13 hs13 x_r13 x_w13 x_p13 x_c13
 clear hb
 go_wp2_with (first | (refine wpList_build9 rfl 32 _ rfl (us:=#[(0,.int .i64 c.l1.b),(1,.int .i64 c.l1.r),(2,.int .i64 c.l1.p)]) (by rfl) (BL1 _) ?_) | (refine wpList_store_part (k:=6) (cs:=M1) (ws:=U2) rfl _ _ _ rfl x_c14 rfl rfl SM1.out (by rw [NM1.out,N1.out];decide) W2.out OM1.out ?_;intro W9_1 hW))
 have x_r15:Box W9_1 (w.heap.size) (ccell Cmd.zero):=hW.past _ _ (by omega) x_r14
 have x_w15:Box W9_1 (g4) (FR):=hW.past _ _ (by omega) x_w14
 have x_p15:Box W9_1 (w2.heap.size) ([.slice (some ⟨g4,0,none⟩) 17 c4]):=hW.past _ _ (by omega) x_p14
 have x_c15:=hW.box
 have hB15:=hW.below _ _ (by omega) hB14;have hs15:=hB15.size
 clear hW x_r14 x_w14 x_p14 x_c14 hB14 hs14
 rw [rounds_succ]
 go_wp2_with fail
 refine (C10 _ _ x_p15 x_w15).mono ?_
 rintro e w16 ⟨rfl,hb⟩
 have hB16:Below w.heap.size w w16:=below_thru hB15 hb
 have hs16:=hB16.size
 have x_r16:Box w16 (w.heap.size) (ccell Cmd.zero):=Box.below x_r15 hb
 have x_w16:Box w16 (g4) (FR):=Box.below x_w15 hb
 have x_p16:Box w16 (w2.heap.size) ([.slice (some ⟨g4,0,none⟩) 17 c4]):=Box.below x_p15 hb
 have x_c16:Box w16 (w6.heap.size) (U2):=Box.below x_c15 hb
 clear hB15 hs15 x_r15 x_w15 x_p15 x_c15
 clear hb
 go_wp2_with fail
 refine (C11 _ _ x_p16 x_w16).mono ?_
 rintro e w17 ⟨rfl,hb⟩
 have hB17:Below w.heap.size w w17:=below_thru hB16 hb
 have hs17:=hB17.size
 have x_r17:Box w17 (w.heap.size) (ccell Cmd.zero):=Box.below x_r16 hb
 have x_w17:Box w17 (g4) (FR):=Box.below x_w16 hb
 have x_p17:Box w17 (w2.heap.size) ([.slice (some ⟨g4,0,none⟩) 17 c4]):=Box.below x_p16 hb
 have x_c17:Box w17 (w6.heap.size) (U2):=Box.below x_c16 hb
 clear hB16 hs16 x_r16 x_w16 x_p16 x_c16
 clear hb
 go_wp2_with fail
 refine (C12 _ _ x_p17 x_w17).mono ?_
 rintro e w18 ⟨rfl,hb⟩
 have hB18:Below w.heap.size w w18:=below_thru hB17 hb
 have hs18:=hB18.size
 have x_r18:Box w18 (w.heap.size) (ccell Cmd.zero):=Box.below x_r17 hb
 have x_w18:Box w18 (g4) (FR):=Box.below x_w17 hb
 have x_p18:Box w18 (w2.heap.size) ([.slice (some ⟨g4,0,none⟩) 17 c4]):=Box.below x_p17 hb
 have x_c18:Box w18 (w6.heap.size) (U2):=Box.below x_c17 hb
 clear hB17 hs17 x_r17 x_w17 x_p17 x_c17
 clear hb
 go_wp2_with (first | (refine wpList_build9 rfl 32 _ rfl (us:=#[(0,.int .i64 c.l2.b),(1,.int .i64 c.l2.r),(2,.int .i64 c.l2.p)]) (by rfl) (BL2 _) ?_) | (refine wpList_store_part (k:=9) (cs:=M2) (ws:=U3) rfl _ _ _ rfl x_c18 rfl rfl SM2.out (by rw [NM2.out,N2.out];decide) W3.out OM2.out ?_;intro W9_2 hW))
 have x_r19:Box W9_2 (w.heap.size) (ccell Cmd.zero):=hW.past _ _ (by omega) x_r18
 have x_w19:Box W9_2 (g4) (FR):=hW.past _ _ (by omega) x_w18
 have x_p19:Box W9_2 (w2.heap.size) ([.slice (some ⟨g4,0,none⟩) 17 c4]):=hW.past _ _ (by omega) x_p18
 have x_c19:=hW.box
 have hB19:=hW.below _ _ (by omega) hB18;have hs19:=hB19.size
 clear hW x_r18 x_w18 x_p18 x_c18 hB18 hs18
 rw [rounds_succ]
 go_upto_region 10 with fail
 refine wp_region_held_drew (S:=fun W=>Box W (g4) (FR)∧Box W (w2.heap.size) ([.slice (some ⟨g4,0,none⟩) 17 c4])) (by kernel_rfl) (And.intro (x_w19).drew (x_p19).drew) (fun _=>?_)
 refine F_drew (F:=fun W=>wpAnyH _ _ _ _ _ _ _ _ W) ?_
 intro Wz0 hbz0
 clear hs19
 have x_w_z0:Box Wz0 (g4) (FR):=Box.below x_w19 hbz0
 have x_p_z0:Box Wz0 (w2.heap.size) ([.slice (some ⟨g4,0,none⟩) 17 c4]):=Box.below x_p19 hbz0
 have z_c_z0:Box Wz0 (w6.heap.size) (U3):=Box.below x_c19 hbz0
 have z_r_z0:Box Wz0 (w.heap.size) (ccell Cmd.zero):=Box.below x_r19 hbz0
 have Bz0:=below_thru hB19 hbz0
 clear x_w19 x_p19 x_c19 x_r19 hB19 hbz0
 refine takeH 0 48 (v:=?vz0_1) rfl (by rfl) (by kernel_rfl) (by kernel_rfl) (by kernel_rfl) (fun _ _ _ h=>h) (Or.inl ⟨by rfl,?_⟩) ((And.intro x_w_z0 x_p_z0)) ?_
 rotate_left
 · intro wq hSq
   go_simp
   exact rfl
 try simp only [Act.put,qzA,qz0,qzS]
 refine takeH 3 51 (v:=?vz3_2) rfl (by rfl) (by kernel_rfl) (by kernel_rfl) (by kernel_rfl) (fun _ _ _ h=>h) (Or.inl ⟨by rfl,?_⟩) ((And.intro x_w_z0 x_p_z0)) ?_
 rotate_left
 · intro wq hSq
   go_simp
   exact rfl
 try simp only [Act.put,qzA,qz0,qzS]
 refine takeH 6 54 (v:=?vz6_3) rfl (by rfl) (by kernel_rfl) (by kernel_rfl) (by kernel_rfl) (fun _ _ _ h=>h) (Or.inl ⟨by rfl,?_⟩) ((And.intro x_w_z0 x_p_z0)) ?_
 rotate_left
 · intro wq hSq
   have cq:=(hSq.2).c 0 _ rfl
   have zq:=lt_of_cell cq
   go_simp
   exact rfl
 try simp only [Act.put,qzA,qz0,qzS]
 refine takeH 7 55 (v:=?vz7_4) rfl (by rfl) (by kernel_rfl) (by kernel_rfl) (by kernel_rfl) (fun _ _ _ h=>h) (Or.inl ⟨by rfl,?_⟩) ((And.intro x_w_z0 x_p_z0)) ?_
 rotate_left
 · intro wq hSq
   go_simp
   exact rfl
 try simp only [Act.put,qzA,qz0,qzS]
 refine takeH 8 56 (v:=?vz8_5) rfl (by rfl) (by kernel_rfl) (by kernel_rfl) (by kernel_rfl) (fun _ _ _ h=>h) (Or.inl ⟨by rfl,?_⟩) ((And.intro x_w_z0 x_p_z0)) ?_
 rotate_left
 · intro wq hSq
   go_simp
   exact rfl
 try simp only [Act.put,qzA,qz0,qzS]
 refine takeH 9 57 (v:=?vz9_6) rfl (by rfl) (by kernel_rfl) (by kernel_rfl) (by kernel_rfl) (fun _ _ _ h=>h) (Or.inl ⟨by rfl,?_⟩) ((And.intro x_w_z0 x_p_z0)) ?_
 rotate_left
 · intro wq hSq
   have cq:=(hSq.1).c 511 _ g15
   have zq:=lt_of_cell cq
   go_simp
   exact rfl
 try simp only [Act.put,qzA,qz0,qzS]
 refine takeH 10 58 (v:=?vz10_7) rfl (by rfl) (by kernel_rfl) (by kernel_rfl) (by kernel_rfl) (fun _ _ _ h=>h) (Or.inl ⟨by rfl,?_⟩) ((And.intro x_w_z0 x_p_z0)) ?_
 rotate_left
 · intro wq hSq
   have cq:=(hSq.2).c 0 _ rfl
   have zq:=lt_of_cell cq
   go_simp
   exact rfl
 try simp only [Act.put,qzA,qz0,qzS]
 refine takeH 11 59 (v:=?vz11_8) rfl (by rfl) (by kernel_rfl) (by kernel_rfl) (by kernel_rfl) (fun _ _ _ h=>h) (Or.inl ⟨by rfl,?_⟩) ((And.intro x_w_z0 x_p_z0)) ?_
 rotate_left
 · intro wq hSq
   go_simp
   exact rfl
 try simp only [Act.put,qzA,qz0,qzS]
 refine takeH 12 60 (v:=?vz12_9) rfl (by rfl) (by kernel_rfl) (by kernel_rfl) (by kernel_rfl) (fun _ _ _ h=>h) (Or.inl ⟨by rfl,?_⟩) ((And.intro x_w_z0 x_p_z0)) ?_
 rotate_left
 · intro wq hSq
   go_simp
   exact rfl
 try simp only [Act.put,qzA,qz0,qzS]
 refine takeH 13 61 (v:=.agg (G).toArray) rfl (by rfl) (by kernel_rfl) (by kernel_rfl) (by kernel_rfl) (fun _ _ _ h=>h) (yieldsIf_load_mid (by rfl) _ _ rfl _ _ rfl (G) _ (fun wq hq=>Box.rangeMid (hq.1) 546 (G) ([]) DG.out) Tryz.underlying23 rfl SG.out) ((And.intro x_w_z0 x_p_z0)) ?_
 try simp only [Act.put,qzA,qz0,qzS]
 refine wpAnyH_ready (rs:=[1]) (by kernel_rfl) (by simp) (AllReadyH.cons rfl (fun K hK=>?_) AllReadyH.nil)
 go_simp
 refine (C13 _ _ x_p_z0 x_w_z0).mono ?_
 rintro e Wz10 ⟨rfl,hbz10⟩
 have x_w_z10:Box Wz10 (g4) (FR):=Box.below x_w_z0 hbz10
 have x_p_z10:Box Wz10 (w2.heap.size) ([.slice (some ⟨g4,0,none⟩) 17 c4]):=Box.below x_p_z0 hbz10
 have z_c_z10:Box Wz10 (w6.heap.size) (U3):=Box.below z_c_z0 hbz10
 have z_r_z10:Box Wz10 (w.heap.size) (ccell Cmd.zero):=Box.below z_r_z0 hbz10
 have Bz10:=below_thru Bz0 hbz10
 clear x_w_z0 x_p_z0 z_c_z0 z_r_z0 Bz0 hbz10
 refine hK.out _ _ (And.intro x_w_z10 x_p_z10) (fun _=>?_);clear hK K
 refine takeH 2 50 (v:=?vz2_11) rfl (by rfl) (by kernel_rfl) (by kernel_rfl) (by kernel_rfl) (fun _ _ _ h=>h) (Or.inl ⟨by rfl,?_⟩) ((And.intro x_w_z10 x_p_z10)) ?_
 rotate_left
 · intro wq hSq
   go_simp
   exact rfl
 try simp only [Act.put,qzA,qz0,qzS]
 refine takeH 14 62 (v:=?vz14_12) rfl (by rfl) (by kernel_rfl) (by kernel_rfl) (by kernel_rfl) (fun _ _ _ h=>h) (Or.inl ⟨by rfl,?_⟩) ((And.intro x_w_z10 x_p_z10)) ?_
 rotate_left
 · intro wq hSq
   go_simp
   exact rfl
 try simp only [Act.put,qzA,qz0,qzS]
 refine wpAnyH_ready (rs:=[4]) (by kernel_rfl) (by simp) (AllReadyH.cons rfl (fun K hK=>?_) AllReadyH.nil)
 go_simp
 refine (C14 _ _ x_p_z10 x_w_z10).mono ?_
 rintro e Wz13 ⟨rfl,hbz13⟩
 have x_w_z13:Box Wz13 (g4) (FR):=Box.below x_w_z10 hbz13
 have x_p_z13:Box Wz13 (w2.heap.size) ([.slice (some ⟨g4,0,none⟩) 17 c4]):=Box.below x_p_z10 hbz13
 have z_c_z13:Box Wz13 (w6.heap.size) (U3):=Box.below z_c_z10 hbz13
 have z_r_z13:Box Wz13 (w.heap.size) (ccell Cmd.zero):=Box.below z_r_z10 hbz13
 have Bz13:=below_thru Bz10 hbz13
 clear x_w_z10 x_p_z10 z_c_z10 z_r_z10 Bz10 hbz13
 refine hK.out _ _ (And.intro x_w_z13 x_p_z13) (fun _=>?_);clear hK K
 refine takeH 5 53 (v:=?vz5_14) rfl (by rfl) (by kernel_rfl) (by kernel_rfl) (by kernel_rfl) (fun _ _ _ h=>h) (Or.inl ⟨by rfl,?_⟩) ((And.intro x_w_z13 x_p_z13)) ?_
 rotate_left
 · intro wq hSq
   go_simp
   exact rfl
 try simp only [Act.put,qzA,qz0,qzS]
 refine wpAnyH_ready (rs:=[15]) (by kernel_rfl) (by simp) (AllReadyH.cons rfl (fun K hK=>?_) AllReadyH.nil)
 have nz_w:=(x_w_z13).lt
 have nz_p:=(x_p_z13).lt
 refine step_store_cell0 (k:=12) (ws:=U4) (v:=.int .u8 c.us) rfl rfl _ _ _ rfl z_c_z13 rfl rfl rfl rfl size_u8n (by rw [N3.out];decide) W4.out ?_
 intro Wz15 hWz15
 have x_w_z15:Box Wz15 (g4) (FR):=hWz15.past _ _ (by omega) x_w_z13
 have x_p_z15:Box Wz15 (w2.heap.size) ([.slice (some ⟨g4,0,none⟩) 17 c4]):=hWz15.past _ _ (by omega) x_p_z13
 have z_c_z15:=hWz15.box
 have z_r_z15:Box Wz15 (w.heap.size) (ccell Cmd.zero):=hWz15.past _ _ (by omega) z_r_z13
 have Bz15:=hWz15.below _ _ (by omega) Bz13
 clear nz_w nz_p x_w_z13 x_p_z13 z_c_z13 z_r_z13 Bz13 hWz15
 refine hK.out _ _ (And.intro x_w_z15 x_p_z15) (fun _=>?_);clear hK K
 refine takeH 16 63 (v:=?vz16_16) rfl (by rfl) (by kernel_rfl) (by kernel_rfl) (by kernel_rfl) (fun _ _ _ h=>h) (Or.inl ⟨by rfl,?_⟩) ((And.intro x_w_z15 x_p_z15)) ?_
 rotate_left
 · intro wq hSq
   go_simp
   exact rfl
 try simp only [Act.put,qzA,qz0,qzS]
 refine wpAnyH_ready (rs:=[17]) (by kernel_rfl) (by simp) (AllReadyH.cons rfl (fun K hK=>?_) AllReadyH.nil)
 have nz_w:=(x_w_z15).lt
 have nz_p:=(x_p_z15).lt
 refine step_store_cell0 (k:=13) (ws:=U5) (v:=.int .u8 c.en) rfl rfl _ _ _ rfl z_c_z15 rfl rfl rfl rfl size_u8n (by rw [N4.out];decide) W5.out ?_
 intro Wz17 hWz17
 have x_w_z17:Box Wz17 (g4) (FR):=hWz17.past _ _ (by omega) x_w_z15
 have x_p_z17:Box Wz17 (w2.heap.size) ([.slice (some ⟨g4,0,none⟩) 17 c4]):=hWz17.past _ _ (by omega) x_p_z15
 have z_c_z17:=hWz17.box
 have z_r_z17:Box Wz17 (w.heap.size) (ccell Cmd.zero):=hWz17.past _ _ (by omega) z_r_z15
 have Bz17:=hWz17.below _ _ (by omega) Bz15
 clear nz_w nz_p x_w_z15 x_p_z15 z_c_z15 z_r_z15 Bz15 hWz17
 refine hK.out _ _ (And.intro x_w_z17 x_p_z17) (fun _=>?_);clear hK K
 refine takeH 18 64 (v:=?vz18_18) rfl (by rfl) (by kernel_rfl) (by kernel_rfl) (by kernel_rfl) (fun _ _ _ h=>h) (Or.inl ⟨by rfl,?_⟩) ((And.intro x_w_z17 x_p_z17)) ?_
 rotate_left
 · intro wq hSq
   go_simp
   exact rfl
 try simp only [Act.put,qzA,qz0,qzS]
 refine wpAnyH_ready (rs:=[19]) (by kernel_rfl) (by simp) (AllReadyH.cons rfl (fun K hK=>?_) AllReadyH.nil)
 have nz_w:=(x_w_z17).lt
 have nz_p:=(x_p_z17).lt
 refine step_store_cell0 (k:=14) (ws:=U6) (v:=.int .u64 c.x) rfl rfl _ _ _ rfl z_c_z17 rfl rfl rfl rfl size_u64n (by rw [N5.out];decide) W6.out ?_
 intro Wz19 hWz19
 have x_w_z19:Box Wz19 (g4) (FR):=hWz19.past _ _ (by omega) x_w_z17
 have x_p_z19:Box Wz19 (w2.heap.size) ([.slice (some ⟨g4,0,none⟩) 17 c4]):=hWz19.past _ _ (by omega) x_p_z17
 have z_c_z19:=hWz19.box
 have z_r_z19:Box Wz19 (w.heap.size) (ccell Cmd.zero):=hWz19.past _ _ (by omega) z_r_z17
 have Bz19:=hWz19.below _ _ (by omega) Bz17
 clear nz_w nz_p x_w_z17 x_p_z17 z_c_z17 z_r_z17 Bz17 hWz19
 refine hK.out _ _ (And.intro x_w_z19 x_p_z19) (fun _=>?_);clear hK K
 refine takeH 20 65 (v:=?vz20_20) rfl (by rfl) (by kernel_rfl) (by kernel_rfl) (by kernel_rfl) (fun _ _ _ h=>h) (Or.inl ⟨by rfl,?_⟩) ((And.intro x_w_z19 x_p_z19)) ?_
 rotate_left
 · intro wq hSq
   go_simp
   exact rfl
 try simp only [Act.put,qzA,qz0,qzS]
 refine wpAnyH_ready (rs:=[21]) (by kernel_rfl) (by simp) (AllReadyH.cons rfl (fun K hK=>?_) AllReadyH.nil)
 have nz_w:=(x_w_z19).lt
 have nz_p:=(x_p_z19).lt
 refine step_store_part0 (k:=15) (cs:=G) (ws:=F) rfl rfl _ _ _ rfl z_c_z19 rfl rfl SG.out (by rw [NG.out,N6.out];decide) W7.out OG.out ?_
 intro Wz21 hWz21
 have x_w_z21:Box Wz21 (g4) (FR):=hWz21.past _ _ (by omega) x_w_z19
 have x_p_z21:Box Wz21 (w2.heap.size) ([.slice (some ⟨g4,0,none⟩) 17 c4]):=hWz21.past _ _ (by omega) x_p_z19
 have z_c_z21:=hWz21.box
 have z_r_z21:Box Wz21 (w.heap.size) (ccell Cmd.zero):=hWz21.past _ _ (by omega) z_r_z19
 have Bz21:=hWz21.below _ _ (by omega) Bz19
 clear nz_w nz_p x_w_z19 x_p_z19 z_c_z19 z_r_z19 Bz19 hWz21
 refine hK.out _ _ (And.intro x_w_z21 x_p_z21) (fun _=>?_);clear hK K
 refine wpAnyH_done (by kernel_rfl) ?_ _
 go_wp2_with (first | (refine wpList_load_box9 rfl _ _ rfl z_c_z21 rfl Tryz.underlying35 rfl SF.out ?_) | (refine wpList_store_box (cs:=F) rfl _ _ _ rfl z_r_z21 rfl rfl SF.out LF9.out OF.out ?_;intro W99 hW99))
 exact bodyPost_ret (results_box Tryz.results56 hW99.box rfl Tryz.underlying35 rfl SF.out) rfl ⟨rfl,hW99.below _ _ (by omega) Bz21⟩
end Go.Proofs.YtnfejdfjlnpldaaGreatDoor
namespace Go.Proofs.YtnfejdfjlnpldaaGreatDoor
open Go.RowKit
set_option maxRecDepth 100000 in
theorem build_fr (k:Nums) {g:List Int} (h:g.length=32) (e c:Int) (W:World):(Instr.build 37 #[(0,.int .u8 1),(1,.agg (tcell k g ++ [Value.int .u16 e,Value.int .u32 c]).toArray)]).run Tryz.prog W=.ok (.agg (Value.int .u8 1 :: ((tcell k g ++ [Value.int .u16 e,Value.int .u32 c]) ++ ccell Cmd.zero)).toArray) W:=by
 obtain ⟨x0,x1,x2,x3,x4,x5,x6,x7,x8,x9,x10,x11,x12,x13,x14,x15,x16,x17,x18,x19,x20,x21,x22,x23,x24,x25,x26,x27,x28,x29,x30,x31,rfl⟩:=list32 h
 kernel_rfl
set_option maxRecDepth 100000 in
theorem build_fc' (op t u b0 r0 p0 b1 r1 p1 b2 r2 p2 us en x:Int) {g:List Int} (h:g.length=32) (W:World):(Instr.build 37 #[(0,.int .u8 2),(2,.agg (.int .u8 op :: .int .u32 t :: .int .u32 u :: .int .i64 b0 :: .int .i64 r0 :: .int .i64 p0 :: .int .i64 b1 :: .int .i64 r1 :: .int .i64 p1 :: .int .i64 b2 :: .int .i64 r2 :: .int .i64 p2 :: .int .u8 us :: .int .u8 en :: .int .u64 x :: g.map (Value.int .u8)).toArray)]).run Tryz.prog W =
   .ok (.agg (Value.int .u8 2 :: (rcell Req.zero ++ (.int .u8 op :: .int .u32 t :: .int .u32 u :: .int .i64 b0 :: .int .i64 r0 :: .int .i64 p0 :: .int .i64 b1 :: .int .i64 r1 :: .int .i64 p1 :: .int .i64 b2 :: .int .i64 r2 :: .int .i64 p2 :: .int .u8 us :: .int .u8 en :: .int .u64 x :: g.map (Value.int .u8)))).toArray) W:=by
 obtain ⟨x0,x1,x2,x3,x4,x5,x6,x7,x8,x9,x10,x11,x12,x13,x14,x15,x16,x17,x18,x19,x20,x21,x22,x23,x24,x25,x26,x27,x28,x29,x30,x31,rfl⟩:=list32 h
 kernel_rfl
theorem build_mr (r:Req) (W:World):(Instr.build 37 #[(0,.int .u8 1),(1,.agg (rcell r).toArray)]).run Tryz.prog W=.ok (.agg (mcell (Frm.req r)).toArray) W:=build_fr r.k r.hg r.ep r.co W
theorem build_mc (c:Cmd) (W:World):(Instr.build 37 #[(0,.int .u8 2),(2,.agg (ccell c).toArray)]).run Tryz.prog W=.ok (.agg (mcell (Frm.cmd c)).toArray) W :=
 build_fc' c.op c.t c.u c.l0.b c.l0.r c.l0.p c.l1.b c.l1.r c.l1.p c.l2.b c.l2.r c.l2.p c.us c.en c.x c.hg W
theorem msg_two (c:Cmd):c.msg ++ c.g=2 :: (beL wsC c.ns ++ c.g):=by
 unfold Cmd.msg
 rw [beL]
 rfl
set_option maxRecDepth 100000 in
set_option maxHeartbeats 3200000 in
theorem fo_1 (r:Req) {v:Value} (w:World) (h1:IsL w .u8 v (1 :: r.bs)):Calls Tryz.prog 23 #[v] w fun e w'=>e=.returned (.agg (mcell (Frm.req r)).toArray)∧Below w.heap.size w w':=by
 have SZ:=Lib.hid (size_frm Frm.zero);have SF:=Lib.hid (size_frm (Frm.req r));have LF9:=Lib.hid (len_frm Frm.zero (Frm.req r));have OF:=Lib.hid (one_frm (Frm.req r))
 have hl:(1 :: r.bs).length=59:=by rw [List.length_cons,r.bs_len]
 obtain ⟨a0,c0,rfl,hr,_⟩:=id h1
 have i1:=hr.room
 have i2:=hr.most
 obtain ⟨b,off,rfl,cb⟩:=h1.get 0 (by omega)
 rw [Nat.add_zero] at cb
 rw [show nth (1 :: r.bs) 0=1 from rfl] at cb
 have S1:=Lib.hid (show IsL w .u8 (.slice (some ⟨b,off + 1,none⟩) 58 (c0 - 1)) r.bs from h1.dropped (m:=1) (by omega) (by omega) rfl (Or.inl rfl))
 have RQ:=fun (W:World) (v:Value) (h:IsL W .u8 v r.bs)=>rqof_is r W h
 have BF:=fun W=>build_mr r W
 have j1:¬ c0=1:=by omega
 have j0:¬ c0=0:=by omega
 have q1:(1:Int)≤(c0:Int):=by omega
 rw [hl] at i1 ⊢
 obtain ⟨R,hR⟩:∃ V,rcell r=V:=⟨_,rfl⟩
 obtain ⟨F,hF⟩:∃ V,mcell (Frm.req r)=V:=⟨_,rfl⟩
 rw [hR] at RQ BF
 rw [hF] at BF SF LF9 OF ⊢
 clear hr h1 hl hR hF
 go_enter Tryz.func23,Tryz.ntmps23
 go_upto_region 1 with fail
 refine F_gen (F:=fun W=>Code.wp _ _ _ _ W) (J:=fun W=>Box W (w.heap.size) (mcell Frm.zero)∧Below w.heap.size w W) (And.intro (Box.newc rfl rfl) (by go_grown)) ?_
 intro w0 ⟨e_r,hB0⟩
 have hs0:=hB0.size
 have x_r0:=e_r;clear e_r
 have hcell:=cell_below hB0 cb;have zcell:=lt_of_cell hcell
 go_wp2_with fail
 refine (RQ _ _ (S1.out.below hB0)).mono ?_
 rintro e w1 ⟨rfl,hb⟩
 have hB1:Below w.heap.size w w1:=below_thru hB0 hb
 have hs1:=hB1.size
 have x_r1:Box w1 (w.heap.size) (mcell Frm.zero):=Box.below x_r0 hb
 clear hB0 hs0 x_r0
 clear hb hcell zcell
 go_wp2_with (first | (refine wpList_build9 rfl 37 _ rfl (us:=#[(0,.int .u8 1),(1,.agg R.toArray)]) (by rfl) (BF _) ?_) | (refine wpList_store_box (cs:=F) rfl _ _ _ rfl x_r1 rfl rfl SF.out LF9.out OF.out ?_;intro W99 hW99))
 exact bodyPost_ret (results_box Tryz.results23 hW99.box rfl Tryz.underlying37 rfl SF.out) rfl ⟨rfl,hW99.below _ _ (by omega) hB1⟩
set_option maxRecDepth 100000 in
set_option maxHeartbeats 3200000 in
theorem fo_2 (c:Cmd) (hw:c.wd) {v:Value} (w:World) (h1:IsL w .u8 v (c.msg ++ c.g)):Calls Tryz.prog 23 #[v] w fun e w'=>e=.returned (.agg (mcell (Frm.cmd c)).toArray)∧Below w.heap.size w w':=by
 have SZ:=Lib.hid (size_frm Frm.zero);have SF:=Lib.hid (size_frm (Frm.cmd c));have LF9:=Lib.hid (len_frm Frm.zero (Frm.cmd c));have OF:=Lib.hid (one_frm (Frm.cmd c))
 have hl:(c.msg ++ c.g).length=88:=by rw [List.length_append,Cmd.msg_len hw,c.hg]
 obtain ⟨a0,c0,rfl,hr,_⟩:=id h1
 have i1:=hr.room
 have i2:=hr.most
 obtain ⟨b,off,rfl,cb⟩:=h1.get 0 (by omega)
 rw [Nat.add_zero] at cb
 rw [show nth (c.msg ++ c.g) 0=2 by rw [msg_two];rfl] at cb
 have S1:=Lib.hid h1
 have CQ:=fun (W:World) (v:Value) (h:IsL W .u8 v (c.msg ++ c.g))=>cmdof_is c hw W h
 have BF:=fun W=>build_mc c W
 rw [hl] at i1 S1 ⊢
 obtain ⟨C,hC⟩:∃ V,ccell c=V:=⟨_,rfl⟩
 obtain ⟨X,hX⟩:∃ V,c.msg ++ c.g=V:=⟨_,rfl⟩
 obtain ⟨F,hF⟩:∃ V,mcell (Frm.cmd c)=V:=⟨_,rfl⟩
 rw [hC] at CQ BF
 rw [hX] at CQ S1
 rw [hF] at BF SF LF9 OF ⊢
 clear hr h1 hl hC hF hX hw
 go_enter Tryz.func23,Tryz.ntmps23
 go_upto_region 1 with fail
 refine F_gen (F:=fun W=>Code.wp _ _ _ _ W) (J:=fun W=>Box W (w.heap.size) (mcell Frm.zero)∧Below w.heap.size w W) (And.intro (Box.newc rfl rfl) (by go_grown)) ?_
 intro w0 ⟨e_r,hB0⟩
 have hs0:=hB0.size
 have x_r0:=e_r;clear e_r
 have hcell:=cell_below hB0 cb;have zcell:=lt_of_cell hcell
 go_wp2_with fail
 refine (CQ _ _ (S1.out.below hB0)).mono ?_
 rintro e w1 ⟨rfl,hb⟩
 have hB1:Below w.heap.size w w1:=below_thru hB0 hb
 have hs1:=hB1.size
 have x_r1:Box w1 (w.heap.size) (mcell Frm.zero):=Box.below x_r0 hb
 clear hB0 hs0 x_r0
 clear hb hcell zcell
 go_wp2_with (first | (refine wpList_build9 rfl 37 _ rfl (us:=#[(0,.int .u8 2),(2,.agg C.toArray)]) (by rfl) (BF _) ?_) | (refine wpList_store_box (cs:=F) rfl _ _ _ rfl x_r1 rfl rfl SF.out LF9.out OF.out ?_;intro W99 hW99))
 exact bodyPost_ret (results_box Tryz.results23 hW99.box rfl Tryz.underlying37 rfl SF.out) rfl ⟨rfl,hW99.below _ _ (by omega) hB1⟩
set_option maxRecDepth 100000 in
set_option maxHeartbeats 3200000 in
theorem fo_n {bs:List Int} (d1:((bs.length:Int) == 59)=false) (d2:((bs.length:Int) == 88)=false) {v:Value} (w:World) (h1:IsL w .u8 v bs):Calls Tryz.prog 23 #[v] w fun e w'=>e=.returned (.agg (mcell Frm.zero).toArray)∧Below w.heap.size w w':=by
 have SZ:=Lib.hid (size_frm Frm.zero);have SF:=Lib.hid (size_frm Frm.zero);have OF:=Lib.hid (one_frm Frm.zero)
 obtain ⟨a0,c0,rfl,hr,_⟩:=id h1
 have i1:=hr.room
 have i2:=hr.most
 have BZ:=fun W=>build_m0 W
 obtain ⟨F,hF⟩:∃ V,mcell Frm.zero=V:=⟨_,rfl⟩
 rw [hF] at BZ SF OF ⊢
 have LF9:Hid ((mcell Frm.zero).length=F.length):=Lib.hid (by rw [hF])
 clear hF
 clear hr h1
 go_enter Tryz.func23,Tryz.ntmps23
 go_upto_region 1 with fail
 refine F_gen (F:=fun W=>Code.wp _ _ _ _ W) (J:=fun W=>Box W (w.heap.size) (mcell Frm.zero)∧Below w.heap.size w W) (And.intro (Box.newc rfl rfl) (by go_grown)) ?_
 intro w0 ⟨e_r,hB0⟩
 have hs0:=hB0.size
 have x_r0:=e_r;clear e_r
 go_wp2_with (first | (refine wpList_build9 rfl 37 _ rfl (us:=#[]) (by rfl) (BZ _) ?_) | (refine wpList_store_box (cs:=F) rfl _ _ _ rfl x_r0 rfl rfl SF.out LF9.out OF.out ?_;intro W99 hW99))
 exact bodyPost_ret (results_box Tryz.results23 hW99.box rfl Tryz.underlying37 rfl SF.out) rfl ⟨rfl,hW99.below _ _ (by omega) hB0⟩
set_option maxRecDepth 100000 in
set_option maxHeartbeats 3200000 in
theorem fo_n1 {bs:List Int} (hl:bs.length=59) (d1:(nth bs 0 == 1)=false) {v:Value} (w:World) (h1:IsL w .u8 v bs):Calls Tryz.prog 23 #[v] w fun e w'=>e=.returned (.agg (mcell Frm.zero).toArray)∧Below w.heap.size w w':=by
 have SZ:=Lib.hid (size_frm Frm.zero);have SF:=Lib.hid (size_frm Frm.zero);have OF:=Lib.hid (one_frm Frm.zero)
 obtain ⟨a0,c0,rfl,hr,_⟩:=id h1
 have i1:=hr.room
 have i2:=hr.most
 obtain ⟨b,off,rfl,cb⟩:=h1.get 0 (by omega)
 rw [Nat.add_zero] at cb
 rw [hl] at i1 ⊢
 obtain ⟨x,hx⟩:∃ x,nth bs 0=x:=⟨_,rfl⟩
 rw [hx] at cb d1
 have BZ:=fun W=>build_m0 W
 obtain ⟨F,hF⟩:∃ V,mcell Frm.zero=V:=⟨_,rfl⟩
 rw [hF] at BZ SF OF ⊢
 have LF9:Hid ((mcell Frm.zero).length=F.length):=Lib.hid (by rw [hF])
 clear hF
 clear hr h1 hl hx
 go_enter Tryz.func23,Tryz.ntmps23
 go_upto_region 1 with fail
 refine F_gen (F:=fun W=>Code.wp _ _ _ _ W) (J:=fun W=>Box W (w.heap.size) (mcell Frm.zero)∧Below w.heap.size w W) (And.intro (Box.newc rfl rfl) (by go_grown)) ?_
 intro w0 ⟨e_r,hB0⟩
 have hs0:=hB0.size
 have x_r0:=e_r;clear e_r
 have hcell:=cell_below hB0 cb;have zcell:=lt_of_cell hcell
 go_wp2_with (first | (refine wpList_build9 rfl 37 _ rfl (us:=#[]) (by rfl) (BZ _) ?_) | (refine wpList_store_box (cs:=F) rfl _ _ _ rfl x_r0 rfl rfl SF.out LF9.out OF.out ?_;intro W99 hW99))
 exact bodyPost_ret (results_box Tryz.results23 hW99.box rfl Tryz.underlying37 rfl SF.out) rfl ⟨rfl,hW99.below _ _ (by omega) hB0⟩
set_option maxRecDepth 100000 in
set_option maxHeartbeats 3200000 in
theorem fo_n2 {bs:List Int} (hl:bs.length=88) (d1:(nth bs 0 == 2)=false) {v:Value} (w:World) (h1:IsL w .u8 v bs):Calls Tryz.prog 23 #[v] w fun e w'=>e=.returned (.agg (mcell Frm.zero).toArray)∧Below w.heap.size w w':=by
 have SZ:=Lib.hid (size_frm Frm.zero);have SF:=Lib.hid (size_frm Frm.zero);have OF:=Lib.hid (one_frm Frm.zero)
 obtain ⟨a0,c0,rfl,hr,_⟩:=id h1
 have i1:=hr.room
 have i2:=hr.most
 obtain ⟨b,off,rfl,cb⟩:=h1.get 0 (by omega)
 rw [Nat.add_zero] at cb
 rw [hl] at i1 ⊢
 obtain ⟨x,hx⟩:∃ x,nth bs 0=x:=⟨_,rfl⟩
 rw [hx] at cb d1
 have BZ:=fun W=>build_m0 W
 obtain ⟨F,hF⟩:∃ V,mcell Frm.zero=V:=⟨_,rfl⟩
 rw [hF] at BZ SF OF ⊢
 have LF9:Hid ((mcell Frm.zero).length=F.length):=Lib.hid (by rw [hF])
 clear hF
 clear hr h1 hl hx
 go_enter Tryz.func23,Tryz.ntmps23
 go_upto_region 1 with fail
 refine F_gen (F:=fun W=>Code.wp _ _ _ _ W) (J:=fun W=>Box W (w.heap.size) (mcell Frm.zero)∧Below w.heap.size w W) (And.intro (Box.newc rfl rfl) (by go_grown)) ?_
 intro w0 ⟨e_r,hB0⟩
 have hs0:=hB0.size
 have x_r0:=e_r;clear e_r
 have hcell:=cell_below hB0 cb;have zcell:=lt_of_cell hcell
 go_wp2_with (first | (refine wpList_build9 rfl 37 _ rfl (us:=#[]) (by rfl) (BZ _) ?_) | (refine wpList_store_box (cs:=F) rfl _ _ _ rfl x_r0 rfl rfl SF.out LF9.out OF.out ?_;intro W99 hW99))
 exact bodyPost_ret (results_box Tryz.results23 hW99.box rfl Tryz.underlying37 rfl SF.out) rfl ⟨rfl,hW99.below _ _ (by omega) hB0⟩
set_option maxRecDepth 100000 in
set_option maxHeartbeats 3200000 in
theorem pa_t (G:Frm) (h:G.Ok) {v:Value} (w:World) (FO:∀ W,Below w.heap.size w W→Calls Tryz.prog 23 #[v] W fun e w'=>e=.returned (.agg (mcell G).toArray)∧Below W.heap.size W w'):Calls Tryz.prog 8 #[v] w fun e w'=>e=.returned (.tuple #[.agg (mcell G).toArray,.int .i64 0])∧Below w.heap.size w w':=by
 have SZ:=Lib.hid (size_frm Frm.zero);have SG:=Lib.hid (size_frm G);have LG:=Lib.hid (len_frm Frm.zero G);have OG:=Lib.hid (one_frm G);have OZ:=Lib.hid (one_frm Frm.zero);have LZ:=Lib.hid (len_frm Frm.zero Frm.zero)
 have CK:=fun W=>chk_is G (q:=0) (Lib.hid (Or.inl ⟨rfl,h⟩)) W
 have BZ:=fun W=>build_m0 W
 obtain ⟨V,hV⟩:∃ V,mcell G=V:=⟨_,rfl⟩
 rw [hV] at FO SG LG OG CK ⊢
 clear hV h
 go_enter Tryz.func8,Tryz.ntmps8
 go_upto_region 1 with fail
 refine F_gen (F:=fun W=>Code.wp _ _ _ _ W) (J:=fun W=>Box W (w.heap.size) (mcell Frm.zero)∧Below w.heap.size w W) (And.intro (Box.newc rfl rfl) (by go_grown)) ?_
 intro w0 ⟨e_r,hB0⟩
 have hs0:=hB0.size
 have x_r0:=e_r;clear e_r
 go_wp2_with fail
 refine (FO _ hB0).mono ?_
 rintro e w1 ⟨rfl,hb⟩
 clear FO
 have hB1:Below w.heap.size w w1:=below_thru hB0 hb
 have hs1:=hB1.size
 have x_r1:Box w1 (w.heap.size) (mcell Frm.zero):=Box.below x_r0 hb
 clear hB0 hs0 x_r0
 clear hb
 have d_f_r:=(x_r1).lt
 have d_f_0:=hs1
 go_upto_region 2 with (refine wpList_store_box (cs:=V) rfl _ _ _ rfl (Box.newc (l:=mcell Frm.zero) rfl rfl) rfl rfl SG.out LG.out OG.out ?_;intro W1_0 hW1_0)
 have hN:Below w1.heap.size w1 W1_0:=(hW1_0.below _ _ (by omega) ((Below.refl _ w1).alloc (Nat.le_refl _) _))
 have x_f2:Box W1_0 (w1.heap.size) (V):=hW1_0.box
 have hB2:Below w.heap.size w W1_0:=below_thru hB1 hN
 have hs2:=hB2.size
 have x_r2:Box W1_0 (w.heap.size) (mcell Frm.zero):=Box.below x_r1 hN
 clear hB1 hs1 x_r1
 clear hN hW1_0
 go_wp2_with (refine wpList_load_box9 rfl _ _ rfl x_f2 rfl Tryz.underlying37 rfl SG.out ?_)
 refine (CK _).mono ?_
 rintro e w3 ⟨rfl,hb⟩
 clear CK
 have hB3:Below w.heap.size w w3:=below_thru hB2 hb
 have hs3:=hB3.size
 have x_r3:Box w3 (w.heap.size) (mcell Frm.zero):=Box.below x_r2 hb
 have x_f3:Box w3 (w1.heap.size) (V):=Box.below x_f2 hb
 clear hB2 hs2 x_r2 x_f2
 clear hb
 go_wp2_with (first | (refine wpList_load_box9 rfl _ _ rfl x_f3 rfl Tryz.underlying37 rfl SG.out ?_) | (refine wpList_store_box (cs:=V) rfl _ _ _ rfl x_r3 rfl rfl SG.out LG.out OG.out ?_;intro W99 hW99))
 exact bodyPost_ret (results_box2 Tryz.results8 hW99.box rfl rfl Tryz.underlying37 rfl SG.out) rfl ⟨rfl,hW99.below _ _ (by omega) hB3⟩
set_option maxRecDepth 100000 in
set_option maxHeartbeats 3200000 in
theorem pa_f (G:Frm) (h:¬ G.Ok) {v:Value} (w:World) (FO:∀ W,Below w.heap.size w W→Calls Tryz.prog 23 #[v] W fun e w'=>e=.returned (.agg (mcell G).toArray)∧Below W.heap.size W w'):Calls Tryz.prog 8 #[v] w fun e w'=>e=.returned (.tuple #[.agg (mcell Frm.zero).toArray,.int .i64 12])∧Below w.heap.size w w':=by
 have SZ:=Lib.hid (size_frm Frm.zero);have SG:=Lib.hid (size_frm G);have LG:=Lib.hid (len_frm Frm.zero G);have OG:=Lib.hid (one_frm G);have OZ:=Lib.hid (one_frm Frm.zero);have LZ:=Lib.hid (len_frm Frm.zero Frm.zero)
 have CK:=fun W=>chk_is G (q:=8) (Lib.hid (Or.inr ⟨rfl,h⟩)) W
 have BZ:=fun W=>build_m0 W
 obtain ⟨V,hV⟩:∃ V,mcell G=V:=⟨_,rfl⟩
 rw [hV] at FO SG LG OG CK
 obtain ⟨Z,hZ⟩:∃ V,mcell Frm.zero=V:=⟨_,rfl⟩
 have SZ2:=SZ;have LZ2:Hid ((mcell Frm.zero).length=Z.length):=Lib.hid (by rw [hZ])
 rw [hZ] at BZ OZ SZ2 ⊢
 clear hZ
 clear hV h
 go_enter Tryz.func8,Tryz.ntmps8
 go_upto_region 1 with fail
 refine F_gen (F:=fun W=>Code.wp _ _ _ _ W) (J:=fun W=>Box W (w.heap.size) (mcell Frm.zero)∧Below w.heap.size w W) (And.intro (Box.newc rfl rfl) (by go_grown)) ?_
 intro w0 ⟨e_r,hB0⟩
 have hs0:=hB0.size
 have x_r0:=e_r;clear e_r
 go_wp2_with fail
 refine (FO _ hB0).mono ?_
 rintro e w1 ⟨rfl,hb⟩
 clear FO
 have hB1:Below w.heap.size w w1:=below_thru hB0 hb
 have hs1:=hB1.size
 have x_r1:Box w1 (w.heap.size) (mcell Frm.zero):=Box.below x_r0 hb
 clear hB0 hs0 x_r0
 clear hb
 have d_f_r:=(x_r1).lt
 have d_f_0:=hs1
 go_upto_region 2 with (refine wpList_store_box (cs:=V) rfl _ _ _ rfl (Box.newc (l:=mcell Frm.zero) rfl rfl) rfl rfl SG.out LG.out OG.out ?_;intro W1_0 hW1_0)
 have hN:Below w1.heap.size w1 W1_0:=(hW1_0.below _ _ (by omega) ((Below.refl _ w1).alloc (Nat.le_refl _) _))
 have x_f2:Box W1_0 (w1.heap.size) (V):=hW1_0.box
 have hB2:Below w.heap.size w W1_0:=below_thru hB1 hN
 have hs2:=hB2.size
 have x_r2:Box W1_0 (w.heap.size) (mcell Frm.zero):=Box.below x_r1 hN
 clear hB1 hs1 x_r1
 clear hN hW1_0
 go_wp2_with (refine wpList_load_box9 rfl _ _ rfl x_f2 rfl Tryz.underlying37 rfl SG.out ?_)
 refine (CK _).mono ?_
 rintro e w3 ⟨rfl,hb⟩
 clear CK
 have hB3:Below w.heap.size w w3:=below_thru hB2 hb
 have hs3:=hB3.size
 have x_r3:Box w3 (w.heap.size) (mcell Frm.zero):=Box.below x_r2 hb
 have x_f3:Box w3 (w1.heap.size) (V):=Box.below x_f2 hb
 clear hB2 hs2 x_r2 x_f2
 clear hb
 go_wp2_with (first | (refine wpList_build9 rfl 37 _ rfl (us:=#[]) (by rfl) (BZ _) ?_) | (refine wpList_store_box (cs:=Z) rfl _ _ _ rfl x_r3 rfl rfl SZ2.out LZ2.out OZ.out ?_;intro W99 hW99))
 exact bodyPost_ret (results_box2 Tryz.results8 hW99.box rfl rfl Tryz.underlying37 rfl SZ2.out) rfl ⟨rfl,hW99.below _ _ (by omega) hB3⟩
def Parses (f:FuncId) (bs:List Int) (G:Frm) (q:Int):Prop:=∀ (W:World) (v:Value),IsL W .u8 v bs→Calls Tryz.prog f #[v] W fun e w'=>e=.returned (.tuple #[.agg (mcell G).toArray,.int .i64 q])∧Below W.heap.size W w'
def ParseOf (bs:List Int) (G:Frm) (q:Int):Prop:=(q=0∧G.Ok∧G.bs=bs)∨(q=12∧G=Frm.zero∧∀ F:Frm,F.Ok→F.bs ≠ bs)
theorem ParseOf.uniq {bs:List Int} {G H:Frm} {p q:Int} (h1:ParseOf bs G p) (h2:ParseOf bs H q):G=H∧p=q:=by
 rcases h1 with ⟨rfl,a1,b1⟩ | ⟨rfl,a1,b1⟩ <;> rcases h2 with ⟨rfl,a2,b2⟩ | ⟨rfl,a2,b2⟩
 · exact ⟨Frm.ok_inj a1 a2 (b1.trans b2.symm),rfl⟩
 · exact absurd b1 (b2 G a1)
 · exact absurd b2 (b1 H a2)
 · exact ⟨a1.trans a2.symm,rfl⟩
theorem bytes_three (bs:List Int) (hb:Byts bs):(∃ r:Req,bs=1 :: r.bs)∨(∃ c:Cmd,c.wd∧bs=c.msg ++ c.g)∨(bs.length=59∧nth bs 0 ≠ 1)∨(bs.length=88∧nth bs 0 ≠ 2)∨(bs.length ≠ 59∧bs.length ≠ 88):=by
 by_cases h1:bs.length=59
 · match bs,h1 with
   | x :: xs,h1 =>
     by_cases hx:x=1
     · subst hx
       obtain ⟨r,hr⟩:=Req.of_bytes (bs:=xs) (by simpa using h1) (fun y hy=>hb y (by simp [hy]))
       exact Or.inl ⟨r,by rw [hr]⟩
     · exact Or.inr (Or.inr (Or.inl ⟨h1,hx⟩))
 by_cases h2:bs.length=88
 · match bs,h2 with
   | x :: xs,h2 =>
     by_cases hx:x=2
     · subst hx
       obtain ⟨c,hc,e⟩:=Cmd.of_bytes (bs:=xs) (by simpa using h2) (fun y hy=>hb y (by simp [hy]))
       exact Or.inr (Or.inl ⟨c,hc,by rw [msg_two,e]⟩)
     · exact Or.inr (Or.inr (Or.inr (Or.inl ⟨h2,hx⟩)))
 exact Or.inr (Or.inr (Or.inr (Or.inr ⟨h1,h2⟩)))
theorem Frm.bs_first {F:Frm} (h:F.Ok):(F.bs.length=59∧nth F.bs 0=1)∨(F.bs.length=88∧nth F.bs 0=2):=by
 rcases Frm.ok_two h with ⟨_,_,_,e,l⟩ | ⟨_,_,_,e,l⟩
 · exact Or.inl ⟨l,by rw [e];rfl⟩
 · exact Or.inr ⟨l,by rw [e,msg_two];rfl⟩
theorem none_of {bs:List Int} (h:(bs.length=59∧nth bs 0 ≠ 1)∨(bs.length=88∧nth bs 0 ≠ 2)∨(bs.length ≠ 59∧bs.length ≠ 88)):ParseOf bs Frm.zero 12:=by
 refine Or.inr ⟨rfl,rfl,fun F hF e=>?_⟩
 have:=Frm.bs_first hF
 rw [e] at this
 rcases this with ⟨a,b⟩ | ⟨a,b⟩ <;> rcases h with ⟨c,d⟩ | ⟨c,d⟩ | ⟨c,d⟩ <;> first | exact d b | omega
theorem req_of (r:Req):(r.k.t < 16→ParseOf (1 :: r.bs) (Frm.req r) 0)∧(¬ r.k.t < 16→ParseOf (1 :: r.bs) Frm.zero 12):=by
 constructor
 · intro h
   exact Or.inl ⟨rfl,Frm.req_ok h,Frm.req_bs r⟩
 · intro h
   refine Or.inr ⟨rfl,rfl,fun F hF e=>?_⟩
   rcases Frm.ok_two hF with ⟨_,a2,_,a4,_⟩ | ⟨_,_,_,_,a5⟩
   · rw [a4] at e
     rw [Req.bs_inj (List.cons.inj e).2] at a2
     exact h a2
   · rw [e,List.length_cons,r.bs_len] at a5
     omega
theorem cmd_of (c:Cmd) (hw:c.wd):(c.Ok→ParseOf (c.msg ++ c.g) (Frm.cmd c) 0)∧(¬ c.Ok→ParseOf (c.msg ++ c.g) Frm.zero 12):=by
 constructor
 · intro h
   exact Or.inl ⟨rfl,Frm.cmd_ok h,Frm.cmd_bs c⟩
 · intro h
   refine Or.inr ⟨rfl,rfl,fun F hF e=>?_⟩
   rcases Frm.ok_two hF with ⟨_,_,_,_,a5⟩ | ⟨_,a2,_,a4,_⟩
   · rw [e,List.length_append,Cmd.msg_len hw,c.hg] at a5
     omega
   · rw [a4] at e
     obtain ⟨e1,e2⟩:=Cmd.msg_inj (Cmd.ok_wd a2) hw e
     rw [Cmd.ns_inj e1 e2] at a2
     exact h a2
theorem parse_is (bs:List Int) (hb:Byts bs):∃ (G:Frm) (q:Int),ParseOf bs G q∧Parses 8 bs G q:=by
 rcases bytes_three bs hb with ⟨r,rfl⟩ | ⟨c,hc,rfl⟩ | h | h | h
 · by_cases ht:r.k.t < 16
   · exact ⟨_,_,(req_of r).1 ht,fun W v hv=>pa_t (Frm.req r) (Frm.req_ok ht) W fun W' hW=>fo_1 r W' (hv.below hW)⟩
   · exact ⟨_,_,(req_of r).2 ht,fun W v hv=>pa_f (Frm.req r) (fun h=>ht ((Frm.req_iff r).1 h)) W fun W' hW=>fo_1 r W' (hv.below hW)⟩
 · by_cases ho:c.Ok
   · exact ⟨_,_,(cmd_of c hc).1 ho,fun W v hv=>pa_t (Frm.cmd c) (Frm.cmd_ok ho) W fun W' hW=>fo_2 c hc W' (hv.below hW)⟩
   · exact ⟨_,_,(cmd_of c hc).2 ho,fun W v hv=>pa_f (Frm.cmd c) (fun h=>ho ((Frm.cmd_iff c).1 h)) W fun W' hW=>fo_2 c hc W' (hv.below hW)⟩
 · exact ⟨_,_,none_of (Or.inl h),fun W v hv=>pa_f Frm.zero Frm.zero_no W fun W' hW=>fo_n1 h.1 (by simpa using h.2) W' (hv.below hW)⟩
 · exact ⟨_,_,none_of (Or.inr (Or.inl h)),fun W v hv=>pa_f Frm.zero Frm.zero_no W fun W' hW=>fo_n2 h.1 (by simpa using h.2) W' (hv.below hW)⟩
 · exact ⟨_,_,none_of (Or.inr (Or.inr h)),fun W v hv=>pa_f Frm.zero Frm.zero_no W fun W' hW=>fo_n (by have:=h.1;simp;omega) (by have:=h.2;simp;omega) W' (hv.below hW)⟩
end Go.Proofs.YtnfejdfjlnpldaaGreatDoor
