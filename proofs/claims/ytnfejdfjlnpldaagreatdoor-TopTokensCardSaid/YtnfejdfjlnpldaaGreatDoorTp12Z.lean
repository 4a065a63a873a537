import Derived.Test.YtnfejdfjlnpldaaGreatDoorTp12M
import Derived.Test.YtnfejdfjlnpldaaGreatDoorTp12R
set_option maxHeartbeats 6400000
set_option maxRecDepth 100000
namespace Go.Proofs.YtnfejdfjlnpldaaGreatDoor
open Go.RowKit
set_option maxRecDepth 100000 in
set_option maxHeartbeats 6400000 in
theorem tp12_r (r:Req) {S:List Int} (hS:S.length=32) (hSb:Byts S) (hc:r.k.t < 16) (w:World) (hL:Hid (LaidS w)):Calls Tryz.prog 3 #[.agg (S.map (Value.int .u8)).toArray,.agg (mcell (Frm.req r)).toArray] w fun e w'=>e=.returned (.bool true)∧Below w.heap.size w w':=by
 have hg:(Frm.req r).Ok:=Frm.req_ok hc
 obtain ⟨b,hb⟩:=bool_ex (Tru S (Frm.req r))
 have KF:=fun W=>rchk_is (Frm.req r) (q:=0) (Lib.hid (Or.inl ⟨rfl,hg⟩)) W;have AL:=fun (W:World) (h:Hid (LaidS W))=>tpal_is W h;have RF:=fun (W:World) (h:Hid (LaidS W))=>right_is (Frm.req r) hS hSb (b:=b) (q:=0) (Or.inl ⟨rfl,hg,hb⟩) W h
 have WF:=fun W=>wr_is (Frm.req r) (xs:=Frm.bs (Frm.req r)) (q:=0) (Or.inl ⟨rfl,hg,rfl⟩) W;have PA:=parse12 hg;unfold Parses at PA;have RP:=fun (W:World) (v:Value) (h:IsL W .u8 v (Frm.bs (Frm.req r)))=>par_n (Frm.bs_byts (Frm.req r)) (rep_no hg).1 (rep_no hg).2 W h
 have CM:=fun (W:World) (v:Value) (h:IsL W .u8 v (Frm.bs (Frm.req r))) (hL:Hid (LaidS W))=>tpr_is r hc hS hSb (hb.trans (Tru.of1 (f:=Frm.req r) (show (1:Int) ≠ 2 by decide))) W (by rwa [show Frm.bs (Frm.req r)=1 :: r.bs from rfl] at h) hL
 have SV:=Lib.hid (size_frm (Frm.req r));have LV:=Lib.hid (len_frm Frm.zero (Frm.req r));have OV:=Lib.hid (one_frm (Frm.req r));have EV:=fun W=>eqm_t (rfl:(Frm.req r)=(Frm.req r)) W;have SS:=Lib.hid (size_dig hS)
 have SZ:=Lib.hid (size_rep Rep.zero);have OZ:=Lib.hid (one_rep Rep.zero)
 have v0:(mcell (Frm.req r))[0]? = some (.int .u8 1):=rfl
 obtain ⟨RZ,hRZ⟩:∃ X,Rep.zero.v=X:=⟨_,rfl⟩;have LZ:Hid (Rep.zero.v.length=RZ.length):=Lib.hid (by rw [hRZ]);rw [hRZ] at RP SZ OZ;clear hRZ
 obtain ⟨V,hV⟩:∃ X,mcell (Frm.req r)=X:=⟨_,rfl⟩
 rw [hV] at KF RF WF PA SV LV OV EV v0 CM ⊢
 clear hV
 obtain ⟨US,hUS⟩:∃ X,S.map (Value.int .u8)=X:=⟨_,rfl⟩
 rw [hUS] at RF CM SS ⊢
 clear hUS
 obtain ⟨XS,hXS⟩:∃ X,Frm.bs (Frm.req r)=X:=⟨_,rfl⟩
 rw [hXS] at WF PA RP CM
 clear hXS
 clear hS hSb hg hb hc
 go_enter Tryz.func3,Tryz.ntmps3
 go_upto_region 1 with fail
 refine F_gen (F:=fun W=>Code.wp _ _ _ _ W) (J:=fun W=>Box W (w.heap.size) (US)∧Box W (w.heap.size + 1) (V)∧Below w.heap.size w W) (And.intro (Box.alloc (Box.newc rfl rfl) _) (And.intro (Box.newc rfl (by simp)) (by go_grown))) ?_
 intro w0 ⟨e_s,e_f,hB0⟩
 have hs0:=hB0.size
 have x_s0:=e_s;clear e_s
 have x_f0:=e_f;clear e_f
 go_wp2_with (refine wpList_load_box9 rfl _ _ rfl x_f0 rfl Tryz.underlying37 rfl SV.out ?_)
 refine (KF _).mono ?_
 rintro e w1 ⟨rfl,hb⟩
 have hB1:Below w.heap.size w w1:=below_thru hB0 hb
 have hs1:=hB1.size
 have x_s1:Box w1 (w.heap.size) (US):=Box.below x_s0 hb
 have x_f1:Box w1 (w.heap.size + 1) (V):=Box.below x_f0 hb
 clear hB0 hs0 x_s0 x_f0
 clear hb
 go_wp2_with fail
 refine (AL _ (Lib.hid (hL.out.below hB1))).mono ?_
 rintro e w2 ⟨rfl,hb⟩
 have hB2:Below w.heap.size w w2:=below_thru hB1 hb
 have hs2:=hB2.size
 have x_s2:Box w2 (w.heap.size) (US):=Box.below x_s1 hb
 have x_f2:Box w2 (w.heap.size + 1) (V):=Box.below x_f1 hb
 clear hB1 hs1 x_s1 x_f1
 clear hb
 go_wp2_with (first
   | (refine wpList_load_box9 rfl _ _ rfl x_s2 rfl Tryz.underlying23 rfl SS.out ?_)
   | (refine wpList_load_box9 rfl _ _ rfl x_f2 rfl Tryz.underlying37 rfl SV.out ?_))
 refine (RF _ (Lib.hid (hL.out.below hB2))).mono ?_
 rintro e w3 ⟨rfl,hb⟩
 have hB3:Below w.heap.size w w3:=below_thru hB2 hb
 have hs3:=hB3.size
 have x_s3:Box w3 (w.heap.size) (US):=Box.below x_s2 hb
 have x_f3:Box w3 (w.heap.size + 1) (V):=Box.below x_f2 hb
 clear hB2 hs2 x_s2 x_f2
 clear hb
 go_wp2_with (refine wpList_load_box9 rfl _ _ rfl x_f3 rfl Tryz.underlying37 rfl SV.out ?_)
 refine (WF _).mono ?_
 rintro e w4 ⟨vb,rfl,hob,hb⟩
 have hB4:Below w.heap.size w w4:=below_thru hB3 hb
 have hs4:=hB4.size
 have x_s4:Box w4 (w.heap.size) (US):=Box.below x_s3 hb
 have x_f4:Box w4 (w.heap.size + 1) (V):=Box.below x_f3 hb
 clear hB3 hs3 x_s3 x_f3
 clear hb
 obtain ⟨ab,cb,rfl⟩:=own_slR hob
 have J_b4:Hid (IsL w4 .u8 (.slice ab XS.length cb) XS):=Lib.hid (IsL.own hob rfl)
 clear hob
 go_wp2_with fail
 refine (PA _ _ J_b4.out).mono ?_
 rintro e w5 ⟨rfl,hb⟩
 have hB5:Below w.heap.size w w5:=below_thru hB4 hb
 have hs5:=hB5.size
 have x_s5:Box w5 (w.heap.size) (US):=Box.below x_s4 hb
 have x_f5:Box w5 (w.heap.size + 1) (V):=Box.below x_f4 hb
 have J_b5:Hid (IsL w5 .u8 (.slice ab XS.length cb) XS):=Lib.hid (IsL.below J_b4.out hb)
 clear hB4 hs4 x_s4 x_f4 J_b4
 clear hb
 have d_g_s:=(x_s5).lt
 have d_g_f:=(x_f5).lt
 have d_g_0:=hs5
 go_upto_region 8 with (refine wpList_store_box (cs:=V) rfl _ _ _ rfl (Box.newc (l:=mcell Frm.zero) rfl rfl) rfl rfl SV.out LV.out OV.out ?_;intro W5_0 hW5_0)
 have hN:Below w5.heap.size w5 W5_0:=(hW5_0.below _ _ (by omega) ((Below.refl _ w5).alloc (Nat.le_refl _) _))
 have x_g6:Box W5_0 (w5.heap.size) (V):=hW5_0.box
 have hB6:Below w.heap.size w W5_0:=below_thru hB5 hN
 have hs6:=hB6.size
 have x_s6:Box W5_0 (w.heap.size) (US):=Box.below x_s5 hN
 have x_f6:Box W5_0 (w.heap.size + 1) (V):=Box.below x_f5 hN
 have J_b6:Hid (IsL W5_0 .u8 (.slice ab XS.length cb) XS):=Lib.hid (IsL.below J_b5.out hN)
 clear hB5 hs5 x_s5 x_f5 J_b5
 clear hN hW5_0
 go_wp2_with (first
   | (refine wpList_load_box9 rfl _ _ rfl x_s6 rfl Tryz.underlying23 rfl SS.out ?_)
   | (refine wpList_load_box9 rfl _ _ rfl x_g6 rfl Tryz.underlying37 rfl SV.out ?_))
 refine (RF _ (Lib.hid (hL.out.below hB6))).mono ?_
 rintro e w7 ⟨rfl,hb⟩
 have hB7:Below w.heap.size w w7:=below_thru hB6 hb
 have hs7:=hB7.size
 have x_s7:Box w7 (w.heap.size) (US):=Box.below x_s6 hb
 have x_f7:Box w7 (w.heap.size + 1) (V):=Box.below x_f6 hb
 have x_g7:Box w7 (w5.heap.size) (V):=Box.below x_g6 hb
 have J_b7:Hid (IsL w7 .u8 (.slice ab XS.length cb) XS):=Lib.hid (IsL.below J_b6.out hb)
 clear hB6 hs6 x_s6 x_f6 x_g6 J_b6
 clear hb
 go_wp2_with fail
 refine (RP _ _ J_b7.out).mono ?_
 rintro e w8 ⟨rfl,hb⟩
 have hB8:Below w.heap.size w w8:=below_thru hB7 hb
 have hs8:=hB8.size
 have x_s8:Box w8 (w.heap.size) (US):=Box.below x_s7 hb
 have x_f8:Box w8 (w.heap.size + 1) (V):=Box.below x_f7 hb
 have x_g8:Box w8 (w5.heap.size) (V):=Box.below x_g7 hb
 have J_b8:Hid (IsL w8 .u8 (.slice ab XS.length cb) XS):=Lib.hid (IsL.below J_b7.out hb)
 clear hB7 hs7 x_s7 x_f7 x_g7 J_b7
 clear hb
 have d_y_s:=(x_s8).lt
 have d_y_f:=(x_f8).lt
 have d_y_g:=(x_g8).lt
 have d_y_0:=hs8
 go_upto_region 10 with (refine wpList_store_box (cs:=RZ) rfl _ _ _ rfl (Box.newc (l:=Rep.zero.v) rfl rfl) rfl rfl SZ.out LZ.out OZ.out ?_;intro W8_0 hW8_0)
 have hN:Below w8.heap.size w8 W8_0:=(hW8_0.below _ _ (by omega) ((Below.refl _ w8).alloc (Nat.le_refl _) _))
 have x_y9:Box W8_0 (w8.heap.size) (RZ):=hW8_0.box
 have hB9:Below w.heap.size w W8_0:=below_thru hB8 hN
 have hs9:=hB9.size
 have x_s9:Box W8_0 (w.heap.size) (US):=Box.below x_s8 hN
 have x_f9:Box W8_0 (w.heap.size + 1) (V):=Box.below x_f8 hN
 have x_g9:Box W8_0 (w5.heap.size) (V):=Box.below x_g8 hN
 have J_b9:Hid (IsL W8_0 .u8 (.slice ab XS.length cb) XS):=Lib.hid (IsL.below J_b8.out hN)
 clear hB8 hs8 x_s8 x_f8 x_g8 J_b8
 clear hN hW8_0
 clear x_y9
 have hbb:(b != b)=false:=bne_self_eq_false b
 go_upto_region 12 with (first | (refine wpList_load_box9 rfl _ _ rfl x_f9 rfl Tryz.underlying37 rfl SV.out ?_) | (refine wpList_load_box9 rfl _ _ rfl x_g9 rfl Tryz.underlying37 rfl SV.out ?_))
 clear x_g9
 have ck:=(x_f9).c 0 _ v0
 have zk:=(x_f9).lt
 go_wp2_with (first
   | (refine wpList_load_box9 rfl _ _ rfl x_s9 rfl Tryz.underlying23 rfl SS.out ?_)
   | (refine wpList_load_box9 rfl _ _ rfl x_f9 rfl Tryz.underlying37 rfl SV.out ?_))
 refine (CM _ _ J_b9.out (Lib.hid (hL.out.below hB9))).mono ?_
 rintro e w10 ⟨rfl,hb⟩
 have hB10:Below w.heap.size w w10:=below_thru hB9 hb
 have hs10:=hB10.size
 have x_s10:Box w10 (w.heap.size) (US):=Box.below x_s9 hb
 have x_f10:Box w10 (w.heap.size + 1) (V):=Box.below x_f9 hb
 have J_b10:Hid (IsL w10 .u8 (.slice ab XS.length cb) XS):=Lib.hid (IsL.below J_b9.out hb)
 clear hB9 hs9 x_s9 x_f9 J_b9
 clear hb
 go_wp2_with fail
 go_returns
 exact ⟨rfl,hB10⟩
theorem tp12_is (f:Frm) {S:List Int} (hS:S.length=32) (hSb:Byts S) (w:World) (hL:Hid (LaidS w)):Calls Tryz.prog 3 #[.agg (S.map (Value.int .u8)).toArray,.agg (mcell f).toArray] w fun e w'=>e=.returned (.bool true)∧Below w.heap.size w w':=by
 by_cases hg:f.Ok
 · rcases Frm.ok_two hg with ⟨e,h,_⟩ | ⟨e,h,_⟩
   · rw [e]
     exact tp12_r f.r hS hSb h w hL
   · rw [e]
     exact tp12_c f.c hS hSb h w hL
 · exact tp12_a f hS hg w
end Go.Proofs.YtnfejdfjlnpldaaGreatDoor
