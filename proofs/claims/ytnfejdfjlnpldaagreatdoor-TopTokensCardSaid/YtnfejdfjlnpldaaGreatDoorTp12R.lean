import Derived.Test.YtnfejdfjlnpldaaGreatDoorTp12P
import Derived.Test.YtnfejdfjlnpldaaGreatDoorTp12Q
import Derived.Test.YtnfejdfjlnpldaaGreatDoorRegIny
set_option maxHeartbeats 12800000
set_option maxRecDepth 100000
namespace Go.Proofs.YtnfejdfjlnpldaaGreatDoor
open Go.RowKit
set_option maxRecDepth 100000 in
set_option maxHeartbeats 12800000 in
theorem tpr_q1 (r:Req) (HR0:Hid (r.k.t < 16)) {S:List Int} (HS0:Hid (S.length=32)) (HSb0:Hid (Byts S)) {b:Bool} (HB0:Hid (b=true↔TruT S r.k r.g)) (w:World) {bb off c0:Nat} (SL:Hid (IsL w .u8 (.slice (some ⟨bb,off,none⟩) 59 c0) (1 :: r.bs))) (S21:Hid (IsL w .u8 (.slice (some ⟨bb,off + 1,none⟩) 20 (c0 - 1)) (r.k.msg))) (S53:Hid (IsL w .u8 (.slice (some ⟨bb,off + 1,none⟩) 52 (c0 - 1)) (r.k.msg ++ r.g))) (S5:Hid (IsL w .u8 (.slice (some ⟨bb,off + 1,none⟩) 4 (c0 - 1)) (be 4 r.k.t))) (S13:Hid (IsL w .u8 (.slice (some ⟨bb,off + 9,none⟩) 4 (c0 - 9)) (be 4 r.k.e))) (i1:59≤c0) (i2:c0≤9223372036854775807) (j1:¬ c0=1) (j9:¬ c0=9) (q5:(5:Int)≤(c0:Int)) (q13:(13:Int)≤(c0:Int)) (q21:(21:Int)≤(c0:Int)) (q53:(53:Int)≤(c0:Int)) (HK0:Hid (HasKey r.k.t r.k.e)) (hL:Hid (LaidS w)):(tpr_p1 r HR0 HS0 HSb0 HB0 w SL S21 S53 S5 S13 i1 i2 j1 j9 q5 q13 q21 q53 HK0 hL).1:=by
 delta tpr_p1
 dsimp only
 intro qv HVB tkQ SI OI UO OP LP SP UH OH LH SH KL KO R FS V A1 OW LW SW TV P1 VF DT OK LK SK EV US KS OS LS SS M T2 SB HM MM LMM OM LM SM BY UG EG2 SG DG EG XS RD Z TR xt t0 wt xu t1 wu xe t2 we xx t3 xp f37 wp xc f38 wc T4 S5 E4 S13 T1 NT NE IS w0 d_t_s d_t_f d_t_0 W0_0 w2 cR i3 i4 bR oR z3_ Wa0 c_n1_a0 c_n2_a0 c_n3_a0 c_n4_a0 c_n6_a0 c_n7_a0 c_d5_a0 w4 d_g_s d_g_f d_g_t d_g_0 W4_0 w6 d_u_s d_u_f d_u_t d_u_g d_u_0 W6_0 z4_ Wk0 Wk10 z5_ ce0 ze0 ce2 ze2 w9 hB9 hs9 x_s9 x_f9 x_t9 x_g9 z6_ z7_
 have T1:=T1.out;have T2:=T2.out;have NW:=fun W=>pnew_is W
 refine wp_region_iny_at (I:=fun a0 D a' W=>∃ us:Nat→Value,a'=putsL a0 [(140,0),(141,1),(142,2),(143,3),(144,4),(145,5),(146,6),(147,7),(148,8),(149,9),(150,10),(139,11),(151,12),(152,13),(15,14),(16,16)] us∧Below w9.heap.size w9 W∧St11 w9.heap.size w.heap.size (.slice (some ⟨bb,off + 1,none⟩) 4 (c0 - 1)) (.slice (some ⟨bb,off + 9,none⟩) 4 (c0 - 9)) (.slice (some ⟨bb,off,none⟩) 59 c0) T4 E4 zero32 UO D us W) (by kernel_rfl) (ac_of_booly (by kernel_rfl)) ⟨fun _=>undef,(by simp only [putsL,Act.put,List.setIfInBounds_toArray,List.set_cons_zero,List.set_cons_succ]),(Below.refl _ _).drew,St11.start⟩ ?st ?fi
 case st =>
   refine StepsIn.cons rfl ?_ (StepsIn.cons rfl ?_ (StepsIn.cons rfl ?_ (StepsIn.cons rfl ?_ (StepsIn.cons rfl ?_ (StepsIn.cons rfl ?_ (StepsIn.cons rfl ?_ (StepsIn.cons rfl ?_ (StepsIn.cons rfl ?_ (StepsIn.cons rfl ?_ (StepsIn.cons rfl ?_ (StepsIn.cons rfl ?_ (StepsIn.cons rfl ?_ (StepsIn.cons rfl ?_ (StepsIn.cons rfl ?_ (StepsIn.cons rfl ?_ (StepsIn.cons rfl ?_ StepsIn.nil))))))))))))))))
   · rintro D a' W ⟨us,rfl,hB,S11⟩ hn he K hK
     have HS:=Lib.hid S11;clear S11
     clear he
     simp only [putsL,Act.put,List.setIfInBounds_toArray,List.set_cons_zero,List.set_cons_succ]
     go_simp
     refine hK.out _ _ ⟨fun k=>if k=0 then .slice (some ⟨w.heap.size,0,none⟩) 32 32 else us k,?_,hB,HS.out.t0 rfl⟩
     simp only [putsL,Act.put,List.setIfInBounds_toArray,List.set_cons_zero,List.set_cons_succ];rfl
   · rintro D a' W ⟨us,rfl,hB,S11⟩ hn he K hK
     have HS:=Lib.hid S11;clear S11
     clear he
     simp only [putsL,Act.put,List.setIfInBounds_toArray,List.set_cons_zero,List.set_cons_succ]
     go_simp
     refine hK.out _ _ ⟨fun k=>if k=1 then .slice (some ⟨W.heap.size,0,none⟩) 1 1 else us k,?_,hB.alloc hB.size _,HS.out.t1 hn ((Below.refl _ _).alloc (Nat.le_refl _) _) rfl (owns_mono (owns_built ([107].map (Value.int .u8)) (Nat.le_refl _) (by unfold maxLen;decide)) hB.size)⟩
     simp only [putsL,Act.put,List.setIfInBounds_toArray,List.set_cons_zero,List.set_cons_succ];rfl
   · rintro D a' W ⟨us,rfl,hB,S11⟩ hn he K hK
     have HS:=Lib.hid S11;clear S11
     clear he
     simp only [putsL,Act.put,List.setIfInBounds_toArray,List.set_cons_zero,List.set_cons_succ]
     go_simp
     refine hK.out _ _ ⟨fun k=>if k=2 then .slice (some ⟨W.heap.size,0,none⟩) 0 0 else us k,?_,hB.alloc hB.size _,HS.out.t2 hn ((Below.refl _ _).alloc (Nat.le_refl _) _) rfl (owns_mono (owns_built ([].map (Value.int .u8)) (Nat.le_refl _) (by simp)) hB.size)⟩
     simp only [putsL,Act.put,List.setIfInBounds_toArray,List.set_cons_zero,List.set_cons_succ];rfl
   · rintro D a' W ⟨us,rfl,hB,S11⟩ hn he K hK
     have HS:=Lib.hid S11;clear S11
     clear he
     simp only [putsL,Act.put,List.setIfInBounds_toArray,List.set_cons_zero,List.set_cons_succ]
     go_simp
     refine hK.out _ _ ⟨fun k=>if k=3 then .slice (some ⟨bb,off,none⟩) 59 c0 else us k,?_,hB,HS.out.t3 rfl⟩
     simp only [putsL,Act.put,List.setIfInBounds_toArray,List.set_cons_zero,List.set_cons_succ];rfl
   · rintro D a' W ⟨us,rfl,hB,S11⟩ hn he K hK
     have HS:=Lib.hid S11;clear S11
     have e_m3:=HS.out.m3 (he ⟨3,.data⟩ (by simp) rfl)
     clear he
     simp only [putsL,Act.put,List.setIfInBounds_toArray,List.set_cons_zero,List.set_cons_succ]
     rw [e_m3]
     go_simp
     refine hK.out _ _ ⟨fun k=>if k=4 then .slice (some ⟨bb,off + 1,none⟩) 4 (c0 - 1) else us k,?_,hB,HS.out.t4 rfl⟩
     simp only [putsL,Act.put,List.setIfInBounds_toArray,List.set_cons_zero,List.set_cons_succ];rw [← e_m3];rfl
   · rintro D a' W ⟨us,ha1,hB,S11⟩ hn he K hK
     have HS:=Lib.hid S11;clear S11
     have s2:a'.eval (.tmp 142)=us 2:=by rw [ha1];simp only [putsL,Act.put,List.setIfInBounds_toArray,List.set_cons_zero,List.set_cons_succ];rfl
     have s4:a'.eval (.tmp 144)=us 4:=by rw [ha1];simp only [putsL,Act.put,List.setIfInBounds_toArray,List.set_cons_zero,List.set_cons_succ];rfl
     have HA:=Lib.hid ha1;clear ha1
     have hsz:=hB.size;have hBw:=below_thru hB9 hB
     have q2:=HS.out.b2 (he ⟨2,.data⟩ (by simp) rfl) hn;have e4:=HS.out.q4 (he ⟨4,.data⟩ (by simp) rfl)
     have HIN:Hid (IsL W .u8 (us 4) T4):=Lib.hid (by rw [e4];exact (S5.out.below hBw))
     have l4:=NT.out;have l5:=NE.out
     obtain ⟨tiU,hinU,hz0U,hz1U,hz2U⟩:=info_parts info_u8
     refine step_append_at rfl _ _ 43 (by rfl) w9.heap.size 5 tiU (.int .u8 0) 1 .u8 Tryz.underlying43 hinU hz0U hz1U hz2U rfl (us 2) ([]:List Int) T4 (us 4) s2 s4 q2.1 HIN.out (by unfold maxLen;simp;omega) (by simp;omega) hB.size ?_
     intro v' W' hw hg hat
     have hB':=hB.trans ((Below.refl _ _).grown hg hB.size (own_block q2.1))
     refine hK.out _ _ ⟨fun k=>if k=5 then v' else us k,?_,hB',HS.out.t5 hn (he ⟨2,.data⟩ (by simp) rfl) hg hat hw⟩
     rw [HA.out];simp only [putsL,Act.put,List.setIfInBounds_toArray,List.set_cons_zero,List.set_cons_succ];rfl
   · rintro D a' W ⟨us,rfl,hB,S11⟩ hn he K hK
     have HS:=Lib.hid S11;clear S11
     clear he
     simp only [putsL,Act.put,List.setIfInBounds_toArray,List.set_cons_zero,List.set_cons_succ]
     go_simp
     refine hK.out _ _ ⟨fun k=>if k=6 then .slice (some ⟨bb,off,none⟩) 59 c0 else us k,?_,hB,HS.out.t6 rfl⟩
     simp only [putsL,Act.put,List.setIfInBounds_toArray,List.set_cons_zero,List.set_cons_succ];rfl
   · rintro D a' W ⟨us,rfl,hB,S11⟩ hn he K hK
     have HS:=Lib.hid S11;clear S11
     have e_m6:=HS.out.m6 (he ⟨6,.data⟩ (by simp) rfl)
     clear he
     simp only [putsL,Act.put,List.setIfInBounds_toArray,List.set_cons_zero,List.set_cons_succ]
     rw [e_m6]
     go_simp
     refine hK.out _ _ ⟨fun k=>if k=7 then .slice (some ⟨bb,off + 9,none⟩) 4 (c0 - 9) else us k,?_,hB,HS.out.t7 rfl⟩
     simp only [putsL,Act.put,List.setIfInBounds_toArray,List.set_cons_zero,List.set_cons_succ];rw [← e_m6];rfl
   · rintro D a' W ⟨us,ha1,hB,S11⟩ hn he K hK
     have HS:=Lib.hid S11;clear S11
     have s5:a'.eval (.tmp 145)=us 5:=by rw [ha1];simp only [putsL,Act.put,List.setIfInBounds_toArray,List.set_cons_zero,List.set_cons_succ];rfl
     have s7:a'.eval (.tmp 147)=us 7:=by rw [ha1];simp only [putsL,Act.put,List.setIfInBounds_toArray,List.set_cons_zero,List.set_cons_succ];rfl
     have HA:=Lib.hid ha1;clear ha1
     have hsz:=hB.size;have hBw:=below_thru hB9 hB
     have q5:=HS.out.b5 (he ⟨5,.data⟩ (by simp) rfl) hn;have e7:=HS.out.q7 (he ⟨7,.data⟩ (by simp) rfl)
     have HIN:Hid (IsL W .u8 (us 7) E4):=Lib.hid (by rw [e7];exact (S13.out.below hBw))
     have l4:=NT.out;have l5:=NE.out
     obtain ⟨tiU,hinU,hz0U,hz1U,hz2U⟩:=info_parts info_u8
     refine step_append_at rfl _ _ 43 (by rfl) w9.heap.size 5 tiU (.int .u8 0) 1 .u8 Tryz.underlying43 hinU hz0U hz1U hz2U rfl (us 5) ([] ++ T4) E4 (us 7) s5 s7 q5.1 HIN.out (by unfold maxLen;simp;omega) (by simp;omega) hB.size ?_
     intro v' W' hw hg hat
     have hB':=hB.trans ((Below.refl _ _).grown hg hB.size (own_block q5.1))
     refine hK.out _ _ ⟨fun k=>if k=8 then v' else us k,?_,hB',HS.out.t8 hn (he ⟨5,.data⟩ (by simp) rfl) hg hat hw⟩
     rw [HA.out];simp only [putsL,Act.put,List.setIfInBounds_toArray,List.set_cons_zero,List.set_cons_succ];rfl
   · rintro D a' W ⟨us,ha1,hB,S11⟩ hn he K hK
     have HS:=Lib.hid S11;clear S11
     have s1:a'.eval (.tmp 141)=us 1:=by rw [ha1];simp only [putsL,Act.put,List.setIfInBounds_toArray,List.set_cons_zero,List.set_cons_succ];rfl
     have s8:a'.eval (.tmp 148)=us 8:=by rw [ha1];simp only [putsL,Act.put,List.setIfInBounds_toArray,List.set_cons_zero,List.set_cons_succ];rfl
     have HA:=Lib.hid ha1;clear ha1
     have hsz:=hB.size;have hBw:=below_thru hB9 hB
     have d1:=(he ⟨1,.data⟩ (by simp) rfl);have d8:=(he ⟨8,.data⟩ (by simp) rfl);have q1:=HS.out.a d1 hn;have q8:=HS.out.b8 d8 hn
     have HIN:Hid (IsL W .u8 (us 8) (([] ++ T4) ++ E4)):=Lib.hid (IsL.own q8.1 rfl)
     have l4:=NT.out;have l5:=NE.out
     obtain ⟨tiU,hinU,hz0U,hz1U,hz2U⟩:=info_parts info_u8
     refine step_append_at rfl _ _ 43 (by rfl) w9.heap.size 5 tiU (.int .u8 0) 1 .u8 Tryz.underlying43 hinU hz0U hz1U hz2U rfl (us 1) [107] (([] ++ T4) ++ E4) (us 8) s1 s8 q1 HIN.out (by unfold maxLen;simp;omega) (by simp;omega) hB.size ?_
     intro v' W' hw hg hat
     have hB':=hB.trans ((Below.refl _ _).grown hg hB.size (own_block q1))
     refine hK.out _ _ ⟨fun k=>if k=9 then v' else us k,?_,hB',HS.out.t9 hn d1 d8 hg (IsL.own hw rfl)⟩
     rw [HA.out];simp only [putsL,Act.put,List.setIfInBounds_toArray,List.set_cons_zero,List.set_cons_succ];rfl
   · rintro D a' W ⟨us,rfl,hB,S11⟩ hn he K hK
     have HS:=Lib.hid S11;clear S11
     have hsz:=hB.size;have hBw:=below_thru hB9 hB
     have e0:=HS.out.s0 (he ⟨0,.data⟩ (by simp) rfl);have h9:=HS.out.k9 (he ⟨9,.data⟩ (by simp) rfl) hn;have xs:=Box.below x_s9 hB;have hLW:=Lib.hid (hL.out.below hBw)
     clear he
     simp only [putsL,Act.put,List.setIfInBounds_toArray,List.set_cons_zero,List.set_cons_succ]
     rw [e0]
     go_simp
     refine (T1 _ _ _ (KS.out _ _ xs) h9 hLW).mono ?_
     rintro e W' ⟨rfl,hb⟩
     refine hK.out _ _ ⟨fun k=>if k=10 then .tuple #[.agg UO.toArray,.bool true] else us k,?_,hB.trans (hb.mono hsz),(HS.out.below hb).t10 rfl⟩
     simp only [putsL,Act.put,List.setIfInBounds_toArray,List.set_cons_zero,List.set_cons_succ];rw [← e0];rfl
   · rintro D a' W ⟨us,rfl,hB,S11⟩ hn he K hK
     have HS:=Lib.hid S11;clear S11
     have e_k10:=HS.out.k10 (he ⟨10,.data⟩ (by simp) rfl)
     clear he
     simp only [putsL,Act.put,List.setIfInBounds_toArray,List.set_cons_zero,List.set_cons_succ]
     rw [e_k10]
     go_simp
     refine hK.out _ _ ⟨fun k=>if k=11 then .tuple #[.agg UO.toArray,.bool true] else us k,?_,hB,HS.out.t11 rfl⟩
     simp only [putsL,Act.put,List.setIfInBounds_toArray,List.set_cons_zero,List.set_cons_succ];rw [← e_k10];rfl
   · rintro D a' W ⟨us,rfl,hB,S11⟩ hn he K hK
     have HS:=Lib.hid S11;clear S11
     have e_k11:=HS.out.k11 (he ⟨11,.data⟩ (by simp) rfl)
     clear he
     simp only [putsL,Act.put,List.setIfInBounds_toArray,List.set_cons_zero,List.set_cons_succ]
     rw [e_k11]
     go_simp
     refine hK.out _ _ ⟨fun k=>if k=12 then .agg UO.toArray else us k,?_,hB,HS.out.t12 rfl⟩
     simp only [putsL,Act.put,List.setIfInBounds_toArray,List.set_cons_zero,List.set_cons_succ];rw [← e_k11];rfl
   · rintro D a' W ⟨us,rfl,hB,S11⟩ hn he K hK
     have HS:=Lib.hid S11;clear S11
     have e_k11:=HS.out.k11 (he ⟨11,.data⟩ (by simp) rfl)
     clear he
     simp only [putsL,Act.put,List.setIfInBounds_toArray,List.set_cons_zero,List.set_cons_succ]
     rw [e_k11]
     go_simp
     refine hK.out _ _ ⟨fun k=>if k=13 then .bool true else us k,?_,hB,HS.out.t13 rfl⟩
     simp only [putsL,Act.put,List.setIfInBounds_toArray,List.set_cons_zero,List.set_cons_succ];rw [← e_k11];rfl
   · rintro D a' W ⟨us,rfl,hB,S11⟩ hn he K hK
     have HS:=Lib.hid S11;clear S11
     have hsz:=hB.size;have hBw:=below_thru hB9 hB
     clear he
     simp only [putsL,Act.put,List.setIfInBounds_toArray,List.set_cons_zero,List.set_cons_succ]
     go_simp
     refine hK.out _ _ ⟨fun k=>if k=14 then .pointer (some ⟨W.heap.size,0,none⟩) else us k,?_,hB.alloc hB.size _,HS.out.t14 hn ((Below.refl _ _).alloc (Nat.le_refl _) _) hB.size rfl (Box.newc (l:=zero32) rfl rfl)⟩
     simp only [putsL,Act.put,List.setIfInBounds_toArray,List.set_cons_zero,List.set_cons_succ];rfl
   · rintro D a' W ⟨us,ha1,hB,S11⟩ hn he K hK
     have HS:=Lib.hid S11;clear S11
     have s14:a'.eval (.tmp 15)=us 14:=by rw [ha1];simp only [putsL,Act.put,List.setIfInBounds_toArray,List.set_cons_zero,List.set_cons_succ];rfl
     have s12:a'.eval (.tmp 151)=us 12:=by rw [ha1];simp only [putsL,Act.put,List.setIfInBounds_toArray,List.set_cons_zero,List.set_cons_succ];rfl
     have HA:=Lib.hid ha1;clear ha1
     have hsz:=hB.size;have hBw:=below_thru hB9 hB
     have d9:=(he ⟨9,.phase⟩ (by simp) rfl);have d10:=(he ⟨10,.chain⟩ (by simp) rfl);have d14:=(he ⟨14,.data⟩ (by simp) rfl);obtain ⟨bk,e14,kk⟩:=HS.out.x d14;have xk:=kk.z hn;have e12:=HS.out.k12 (he ⟨12,.data⟩ (by simp) rfl)
     clear he
     refine step_store_box0 (cs:=UO) rfl rfl _ _ _ (by rfl) xk (s14.trans e14) (s12.trans e12) SP.out LP.out OP.out (fun W' hW=>?_)
     refine hK.out _ _ ⟨fun k=>if k=15 then undef else us k,?_,hW.below _ _ kk.lo hB,HS.out.t15 (v:=undef) d10 d9 d14 (fun b h=>by rw [e14] at h;cases h;exact hW.box) (fun b h=>by rw [e14] at h;cases h;exact hW.box.lt)⟩
     rw [HA.out];simp only [putsL,Act.put,List.setIfInBounds_toArray,List.set_cons_zero,List.set_cons_succ];rfl
   · rintro D a' W ⟨us,rfl,hB,S11⟩ hn he K hK
     have HS:=Lib.hid S11;clear S11
     have e_k13:=HS.out.k13 (he ⟨13,.data⟩ (by simp) rfl)
     clear he
     simp only [putsL,Act.put,List.setIfInBounds_toArray,List.set_cons_zero,List.set_cons_succ]
     rw [e_k13]
     go_simp
     refine hK.out _ _ ⟨fun k=>if k=16 then .bool true else us k,?_,hB,HS.out.t16 rfl⟩
     simp only [putsL,Act.put,List.setIfInBounds_toArray,List.set_cons_zero,List.set_cons_succ];rw [← e_k13];rfl
 case fi =>
   rintro D a' W hD ⟨us,rfl,hB,S11⟩
   obtain ⟨bK,e14,kk⟩:=S11.x (hD 14 (by decide));have xk:=kk.st (hD 15 (by decide));have lk:=kk.lo;have e16:=S11.k16 (hD 16 (by decide))
   clear S11 hD kk
   simp only [putsL,Act.put,List.setIfInBounds_toArray,List.set_cons_zero,List.set_cons_succ]
   rw [e14,e16]
   clear e14 e16
   obtain ⟨W11,rfl⟩:∃ u:World,u=W:=⟨_,rfl⟩
   have hB10:Below w.heap.size w W11:=below_thru hB9 hB
   have hs10:=hB10.size
   have x_s10:Box W11 (w.heap.size) (US):=Box.below x_s9 hB
   have x_f10:Box W11 (w.heap.size + 1) (V):=Box.below x_f9 hB
   have x_t10:Box W11 (w0.heap.size) (TV):=Box.below x_t9 hB
   have x_g10:Box W11 (w4.heap.size) (MM):=Box.below x_g9 hB
   clear hB9 hs9 x_s9 x_f9 x_t9 x_g9
   clear hB
   have x_k10:Box W11 bK UO:=xk;clear xk
   go_upto_region 12 with fail
   have zz_s:=(x_s10).lt
   have zz_f:=(x_f10).lt
   have zz_t:=(x_t10).lt
   have zz_g:=(x_g10).lt
   have zz_k:=(x_k10).lt
   go_cut [17,18] (fun p q wx=>∃ bS:Nat,p=.pointer (some ⟨bS,0,none⟩)∧q=.bool true∧w.heap.size < bS∧Box wx bS UH∧Box wx (w.heap.size) (US)∧Box wx (w.heap.size + 1) (V)∧Box wx (w0.heap.size) (TV)∧Box wx (w4.heap.size) (MM)∧Box wx (bK) (UO)∧Below w.heap.size w wx)
   case first =>
     refine wp_region_held_drew (S:=fun W=>Box W (w.heap.size) (US)∧Box W (w.heap.size + 1) (V)∧Box W (w0.heap.size) (TV)∧Box W (w4.heap.size) (MM)∧Box W (bK) (UO)) (by kernel_rfl) (And.intro (x_s10).drew (And.intro (x_f10).drew (And.intro (x_t10).drew (And.intro (x_g10).drew (x_k10).drew)))) (fun _=>?_)
     refine F_drew (F:=fun W=>wpAnyH _ _ _ _ _ _ _ _ W) ?_
     intro Wy0 hby0
     clear hs10
     have x_s_y0:Box Wy0 (w.heap.size) (US):=Box.below x_s10 hby0
     have x_f_y0:Box Wy0 (w.heap.size + 1) (V):=Box.below x_f10 hby0
     have x_t_y0:Box Wy0 (w0.heap.size) (TV):=Box.below x_t10 hby0
     have x_g_y0:Box Wy0 (w4.heap.size) (MM):=Box.below x_g10 hby0
     have x_k_y0:Box Wy0 (bK) (UO):=Box.below x_k10 hby0
     have By0:=below_thru hB10 hby0
     clear x_s10 x_f10 x_t10 x_g10 x_k10 hB10 hby0
     refine takeH 0 154 (v:=?vy0_1) rfl (by rfl) (by kernel_rfl) (by kernel_rfl) (by kernel_rfl) (fun _ _ _ h=>h) (Or.inl ⟨by rfl,?_⟩) ((And.intro x_s_y0 (And.intro x_f_y0 (And.intro x_t_y0 (And.intro x_g_y0 x_k_y0))))) ?_
     rotate_left
     · intro wq hSq
       go_simp
       exact rfl
     try simp only [Act.put,qzA,qz0,qzS]
     refine takeH 1 155 (v:=?vy1_2) rfl (by rfl) (by kernel_rfl) (by kernel_rfl) (by kernel_rfl) (fun _ _ _ h=>h) (Or.inl ⟨by rfl,?_⟩) ((And.intro x_s_y0 (And.intro x_f_y0 (And.intro x_t_y0 (And.intro x_g_y0 x_k_y0))))) ?_
     rotate_left
     · intro wq hSq
       go_simp
       exact rfl
     try simp only [Act.put,qzA,qz0,qzS]
     refine wpAnyH_ready (rs:=[2,6]) (by kernel_rfl) (by simp) (AllReadyH.cons rfl (fun K hK=>?_) (AllReadyH.cons rfl (fun K hK=>?_) AllReadyH.nil))
     · skip
       go_simp
       refine (T2 _ _ _ (KO.out _ _ x_k_y0) (LMM.out _ _ x_g_y0) (Lib.hid (hL.out.below By0))).mono ?_
       rintro e Wy3 ⟨rfl,hby3⟩
       have x_s_y3:Box Wy3 (w.heap.size) (US):=Box.below x_s_y0 hby3
       have x_f_y3:Box Wy3 (w.heap.size + 1) (V):=Box.below x_f_y0 hby3
       have x_t_y3:Box Wy3 (w0.heap.size) (TV):=Box.below x_t_y0 hby3
       have x_g_y3:Box Wy3 (w4.heap.size) (MM):=Box.below x_g_y0 hby3
       have x_k_y3:Box Wy3 (bK) (UO):=Box.below x_k_y0 hby3
       have By3:=below_thru By0 hby3
       clear x_s_y0 x_f_y0 x_t_y0 x_g_y0 x_k_y0 By0 hby3
       refine hK.out _ _ (And.intro x_s_y3 (And.intro x_f_y3 (And.intro x_t_y3 (And.intro x_g_y3 x_k_y3)))) (fun _=>?_);clear hK K
       refine takeH 3 153 (v:=?vy3_4) rfl (by rfl) (by kernel_rfl) (by kernel_rfl) (by kernel_rfl) (fun _ _ _ h=>h) (Or.inl ⟨by rfl,?_⟩) ((And.intro x_s_y3 (And.intro x_f_y3 (And.intro x_t_y3 (And.intro x_g_y3 x_k_y3))))) ?_
       rotate_left
       · intro wq hSq
         go_simp
         exact rfl
       try simp only [Act.put,qzA,qz0,qzS]
       refine takeH 4 157 (v:=?vy4_5) rfl (by rfl) (by kernel_rfl) (by kernel_rfl) (by kernel_rfl) (fun _ _ _ h=>h) (Or.inl ⟨by rfl,?_⟩) ((And.intro x_s_y3 (And.intro x_f_y3 (And.intro x_t_y3 (And.intro x_g_y3 x_k_y3))))) ?_
       rotate_left
       · intro wq hSq
         go_simp
         exact rfl
       try simp only [Act.put,qzA,qz0,qzS]
       refine takeH 5 158 (v:=?vy5_6) rfl (by rfl) (by kernel_rfl) (by kernel_rfl) (by kernel_rfl) (fun _ _ _ h=>h) (Or.inl ⟨by rfl,?_⟩) ((And.intro x_s_y3 (And.intro x_f_y3 (And.intro x_t_y3 (And.intro x_g_y3 x_k_y3))))) ?_
       rotate_left
       · intro wq hSq
         go_simp
         exact rfl
       try simp only [Act.put,qzA,qz0,qzS]
       refine wpAnyH_ready (rs:=[6]) (by kernel_rfl) (by simp) (AllReadyH.cons rfl (fun K hK=>?_) AllReadyH.nil)
       go_simp
       have ql_x_s:=(x_s_y3).lt
       have ql_x_f:=(x_f_y3).lt
       have ql_x_t:=(x_t_y3).lt
       have ql_x_g:=(x_g_y3).lt
       have ql_x_k:=(x_k_y3).lt
       have qs_x:=Below.size By3
       refine hK.out _ _ (And.intro (Box.alloc x_s_y3 _) (And.intro (Box.alloc x_f_y3 _) (And.intro (Box.alloc x_t_y3 _) (And.intro (Box.alloc x_g_y3 _) (Box.alloc x_k_y3 _))))) (fun _=>?_);clear hK K
       refine F_gen (F:=fun W=>wpAnyH _ _ _ _ _ _ _ _ W) (J:=fun W=>Box W (Wy3.heap.size) (zero32)∧Below Wy3.heap.size Wy3 W) (And.intro (Box.newc (l:=zero32) rfl rfl) ((Below.refl _ _).alloc (Nat.le_refl _) _)) ?_
       intro Wy7 ⟨na_x_y7,hby7⟩
       have x_s_y7:Box Wy7 (w.heap.size) (US):=Box.below x_s_y3 hby7
       have x_f_y7:Box Wy7 (w.heap.size + 1) (V):=Box.below x_f_y3 hby7
       have x_t_y7:Box Wy7 (w0.heap.size) (TV):=Box.below x_t_y3 hby7
       have x_g_y7:Box Wy7 (w4.heap.size) (MM):=Box.below x_g_y3 hby7
       have x_k_y7:Box Wy7 (bK) (UO):=Box.below x_k_y3 hby7
       have By7:=below_thru By3 hby7
       clear x_s_y3 x_f_y3 x_t_y3 x_g_y3 x_k_y3 By3 hby7
       obtain ⟨bS,hbS⟩:∃ b,Wy3.heap.size=b:=⟨_,rfl⟩
       rw [hbS] at na_x_y7 ql_x_s ql_x_f ql_x_t ql_x_g ql_x_k qs_x ⊢
       clear hbS
       refine wpAnyH_ready (rs:=[7]) (by kernel_rfl) (by simp) (AllReadyH.cons rfl (fun K hK=>?_) AllReadyH.nil)
       have mz_x:=(na_x_y7).lt
       have nz_s:=(x_s_y7).lt
       have nz_f:=(x_f_y7).lt
       have nz_t:=(x_t_y7).lt
       have nz_g:=(x_g_y7).lt
       have nz_k:=(x_k_y7).lt
       refine step_store_box0 (cs:=UH) rfl rfl _ _ _ rfl na_x_y7 rfl rfl SH.out LH.out OH.out ?_
       intro Wy8 hWy8
       have x_s_y8:Box Wy8 (w.heap.size) (US):=hWy8.past _ _ (by omega) x_s_y7
       have x_f_y8:Box Wy8 (w.heap.size + 1) (V):=hWy8.past _ _ (by omega) x_f_y7
       have x_t_y8:Box Wy8 (w0.heap.size) (TV):=hWy8.past _ _ (by omega) x_t_y7
       have x_g_y8:Box Wy8 (w4.heap.size) (MM):=hWy8.past _ _ (by omega) x_g_y7
       have x_k_y8:Box Wy8 (bK) (UO):=hWy8.past _ _ (by omega) x_k_y7
       have z_x_y8:=hWy8.box
       have By8:=hWy8.below _ _ (by omega) By7
       clear nz_s nz_f nz_t nz_g nz_k x_s_y7 x_f_y7 x_t_y7 x_g_y7 x_k_y7 na_x_y7 By7 hWy8
       refine hK.out _ _ (And.intro x_s_y8 (And.intro x_f_y8 (And.intro x_t_y8 (And.intro x_g_y8 x_k_y8)))) (fun _=>?_);clear hK K
       refine takeH 8 18 (v:=?vy8_9) rfl (by rfl) (by kernel_rfl) (by kernel_rfl) (by kernel_rfl) (fun _ _ _ h=>h) (Or.inl ⟨by rfl,?_⟩) ((And.intro x_s_y8 (And.intro x_f_y8 (And.intro x_t_y8 (And.intro x_g_y8 x_k_y8))))) ?_
       rotate_left
       · intro wq hSq
         go_simp
         exact rfl
       try simp only [Act.put,qzA,qz0,qzS]
       refine wpAnyH_done (by kernel_rfl) ?_ _
       go_wp2_with fail
       go_meet
       exact ⟨bS,rfl,rfl,by omega,z_x_y8,x_s_y8,x_f_y8,x_t_y8,x_g_y8,x_k_y8,By8⟩
     · skip
       go_simp
       have ql_x_s:=(x_s_y0).lt
       have ql_x_f:=(x_f_y0).lt
       have ql_x_t:=(x_t_y0).lt
       have ql_x_g:=(x_g_y0).lt
       have ql_x_k:=(x_k_y0).lt
       have qs_x:=Below.size By0
       refine hK.out _ _ (And.intro (Box.alloc x_s_y0 _) (And.intro (Box.alloc x_f_y0 _) (And.intro (Box.alloc x_t_y0 _) (And.intro (Box.alloc x_g_y0 _) (Box.alloc x_k_y0 _))))) (fun _=>?_);clear hK K
       refine F_gen (F:=fun W=>wpAnyH _ _ _ _ _ _ _ _ W) (J:=fun W=>Box W (Wy0.heap.size) (zero32)∧Below Wy0.heap.size Wy0 W) (And.intro (Box.newc (l:=zero32) rfl rfl) ((Below.refl _ _).alloc (Nat.le_refl _) _)) ?_
       intro Wy10 ⟨na_x_y10,hby10⟩
       have x_s_y10:Box Wy10 (w.heap.size) (US):=Box.below x_s_y0 hby10
       have x_f_y10:Box Wy10 (w.heap.size + 1) (V):=Box.below x_f_y0 hby10
       have x_t_y10:Box Wy10 (w0.heap.size) (TV):=Box.below x_t_y0 hby10
       have x_g_y10:Box Wy10 (w4.heap.size) (MM):=Box.below x_g_y0 hby10
       have x_k_y10:Box Wy10 (bK) (UO):=Box.below x_k_y0 hby10
       have By10:=below_thru By0 hby10
       clear x_s_y0 x_f_y0 x_t_y0 x_g_y0 x_k_y0 By0 hby10
       obtain ⟨bS,hbS⟩:∃ b,Wy0.heap.size=b:=⟨_,rfl⟩
       rw [hbS] at na_x_y10 ql_x_s ql_x_f ql_x_t ql_x_g ql_x_k qs_x ⊢
       clear hbS
       refine wpAnyH_ready (rs:=[2]) (by kernel_rfl) (by simp) (AllReadyH.cons rfl (fun K hK=>?_) AllReadyH.nil)
       go_simp
       refine (T2 _ _ _ (KO.out _ _ x_k_y10) (LMM.out _ _ x_g_y10) (Lib.hid (hL.out.below By10))).mono ?_
       rintro e Wy11 ⟨rfl,hby11⟩
       have x_s_y11:Box Wy11 (w.heap.size) (US):=Box.below x_s_y10 hby11
       have x_f_y11:Box Wy11 (w.heap.size + 1) (V):=Box.below x_f_y10 hby11
       have x_t_y11:Box Wy11 (w0.heap.size) (TV):=Box.below x_t_y10 hby11
       have x_g_y11:Box Wy11 (w4.heap.size) (MM):=Box.below x_g_y10 hby11
       have x_k_y11:Box Wy11 (bK) (UO):=Box.below x_k_y10 hby11
       have z_x_y11:Box Wy11 (bS) (zero32):=Box.below na_x_y10 hby11
       have By11:=below_thru By10 hby11
       clear x_s_y10 x_f_y10 x_t_y10 x_g_y10 x_k_y10 na_x_y10 By10 hby11
       refine hK.out _ _ (And.intro x_s_y11 (And.intro x_f_y11 (And.intro x_t_y11 (And.intro x_g_y11 x_k_y11)))) (fun _=>?_);clear hK K
       refine takeH 3 153 (v:=?vy3_12) rfl (by rfl) (by kernel_rfl) (by kernel_rfl) (by kernel_rfl) (fun _ _ _ h=>h) (Or.inl ⟨by rfl,?_⟩) ((And.intro x_s_y11 (And.intro x_f_y11 (And.intro x_t_y11 (And.intro x_g_y11 x_k_y11))))) ?_
       rotate_left
       · intro wq hSq
         go_simp
         exact rfl
       try simp only [Act.put,qzA,qz0,qzS]
       refine takeH 4 157 (v:=?vy4_13) rfl (by rfl) (by kernel_rfl) (by kernel_rfl) (by kernel_rfl) (fun _ _ _ h=>h) (Or.inl ⟨by rfl,?_⟩) ((And.intro x_s_y11 (And.intro x_f_y11 (And.intro x_t_y11 (And.intro x_g_y11 x_k_y11))))) ?_
       rotate_left
       · intro wq hSq
         go_simp
         exact rfl
       try simp only [Act.put,qzA,qz0,qzS]
       refine takeH 5 158 (v:=?vy5_14) rfl (by rfl) (by kernel_rfl) (by kernel_rfl) (by kernel_rfl) (fun _ _ _ h=>h) (Or.inl ⟨by rfl,?_⟩) ((And.intro x_s_y11 (And.intro x_f_y11 (And.intro x_t_y11 (And.intro x_g_y11 x_k_y11))))) ?_
       rotate_left
       · intro wq hSq
         go_simp
         exact rfl
       try simp only [Act.put,qzA,qz0,qzS]
       refine wpAnyH_ready (rs:=[7]) (by kernel_rfl) (by simp) (AllReadyH.cons rfl (fun K hK=>?_) AllReadyH.nil)
       have mz_x:=(z_x_y11).lt
       have nz_s:=(x_s_y11).lt
       have nz_f:=(x_f_y11).lt
       have nz_t:=(x_t_y11).lt
       have nz_g:=(x_g_y11).lt
       have nz_k:=(x_k_y11).lt
       refine step_store_box0 (cs:=UH) rfl rfl _ _ _ rfl z_x_y11 rfl rfl SH.out LH.out OH.out ?_
       intro Wy15 hWy15
       have x_s_y15:Box Wy15 (w.heap.size) (US):=hWy15.past _ _ (by omega) x_s_y11
       have x_f_y15:Box Wy15 (w.heap.size + 1) (V):=hWy15.past _ _ (by omega) x_f_y11
       have x_t_y15:Box Wy15 (w0.heap.size) (TV):=hWy15.past _ _ (by omega) x_t_y11
       have x_g_y15:Box Wy15 (w4.heap.size) (MM):=hWy15.past _ _ (by omega) x_g_y11
       have x_k_y15:Box Wy15 (bK) (UO):=hWy15.past _ _ (by omega) x_k_y11
       have z_x_y15:=hWy15.box
       have By15:=hWy15.below _ _ (by omega) By11
       clear nz_s nz_f nz_t nz_g nz_k x_s_y11 x_f_y11 x_t_y11 x_g_y11 x_k_y11 z_x_y11 By11 hWy15
       refine hK.out _ _ (And.intro x_s_y15 (And.intro x_f_y15 (And.intro x_t_y15 (And.intro x_g_y15 x_k_y15)))) (fun _=>?_);clear hK K
       refine takeH 8 18 (v:=?vy8_16) rfl (by rfl) (by kernel_rfl) (by kernel_rfl) (by kernel_rfl) (fun _ _ _ h=>h) (Or.inl ⟨by rfl,?_⟩) ((And.intro x_s_y15 (And.intro x_f_y15 (And.intro x_t_y15 (And.intro x_g_y15 x_k_y15))))) ?_
       rotate_left
       · intro wq hSq
         go_simp
         exact rfl
       try simp only [Act.put,qzA,qz0,qzS]
       refine wpAnyH_done (by kernel_rfl) ?_ _
       go_wp2_with fail
       go_meet
       exact ⟨bS,rfl,rfl,by omega,z_x_y15,x_s_y15,x_f_y15,x_t_y15,x_g_y15,x_k_y15,By15⟩
   case rest =>
     clear x_s10 x_f10 x_t10 x_g10 x_k10 hB10 hs10 zz_s zz_f zz_t zz_g zz_k
     obtain ⟨bS,rfl,rfl,loS,x_x11,x_s11,x_f11,x_t11,x_g11,x_k11,hB11⟩:=hcut
     obtain ⟨W12,rfl⟩:∃ u:World,u=wc:=⟨_,rfl⟩
     have hs11:=hB11.size
     have hbb:(b != b)=false:=bne_self_eq_false b;have evb:=HVB.out;have EG2:=EG2.out;have VF:=VF.out
     go_wp2_with (first
       | (refine wpList_load_box9 rfl _ _ rfl x_x11 rfl Tryz.underlying23 rfl SH.out ?_)
       | (refine wpList_load_box9 rfl _ _ rfl x_k11 rfl Tryz.underlying23 rfl SP.out ?_)
       | (refine wpList_load_box9 rfl _ _ rfl x_t11 rfl Tryz.underlying27 rfl SK.out ?_)
       | (refine wpList_load_rangew rfl _ _ rfl (Box.rangeMid x_t11 4 (UG) ([]) DG.out) rfl Tryz.underlying23 rfl SG.out ?_))
     refine (VF _ (Lib.hid (hL.out.below hB11))).mono ?_
     rintro e w12 ⟨rfl,hb⟩
     have hB12:Below w.heap.size w w12:=below_thru hB11 hb
     have hs12:=hB12.size
     have x_s12:Box w12 (w.heap.size) (US):=Box.below x_s11 hb
     have x_f12:Box w12 (w.heap.size + 1) (V):=Box.below x_f11 hb
     have x_t12:Box w12 (w0.heap.size) (TV):=Box.below x_t11 hb
     have x_g12:Box w12 (w4.heap.size) (MM):=Box.below x_g11 hb
     have x_k12:Box w12 (bK) (UO):=Box.below x_k11 hb
     have x_x12:Box w12 (bS) (UH):=Box.below x_x11 hb
     clear hB11 hs11 x_s11 x_f11 x_t11 x_g11 x_k11 x_x11
     clear hb
     clear x_x12
     clear x_k12
     clear x_g12
     go_upto_region 15 with fail
     clear hbb evb
     have P1:=P1.out;have A1:=A1.out
     go_cut [19,20] (fun p q wx=>∃ (bD:Nat) (a b:Value),p=.pointer (some ⟨bD,0,none⟩)∧q=.int .i64 0∧Box wx (w.heap.size) (US)∧Box wx (w.heap.size + 1) (V)∧Box wx (w0.heap.size) (TV)∧Box wx bD [a,b]∧Hid (IsD wx (.agg #[a,b]) [tkQ] [])∧Below w.heap.size w wx)
     case first =>
       refine wp_region_held_drew (S:=fun W=>Box W (w.heap.size) (US)∧Box W (w.heap.size + 1) (V)∧Box W (w0.heap.size) (TV)) (by kernel_rfl) (And.intro (x_s12).drew (And.intro (x_f12).drew (x_t12).drew)) (fun _=>?_)
       refine F_drew (F:=fun W=>wpAnyH _ _ _ _ _ _ _ _ W) ?_
       intro Ws0 hbs0
       clear hs12
       have x_s_s0:Box Ws0 (w.heap.size) (US):=Box.below x_s12 hbs0
       have x_f_s0:Box Ws0 (w.heap.size + 1) (V):=Box.below x_f12 hbs0
       have x_t_s0:Box Ws0 (w0.heap.size) (TV):=Box.below x_t12 hbs0
       have Bs0:=below_thru hB12 hbs0
       clear x_s12 x_f12 x_t12 hB12 hbs0
       refine takeH 1 183 (v:=.agg (TV).toArray) rfl (by rfl) (by kernel_rfl) (by kernel_rfl) (by kernel_rfl) (fun _ _ _ h=>h) (yieldsIf_load_mid (by rfl) _ _ rfl _ _ rfl (TV) _ (fun wq hq=>Box.range (hq.2.2)) Tryz.underlying27 rfl SK.out) ((And.intro x_s_s0 (And.intro x_f_s0 x_t_s0))) ?_
       try simp only [Act.put,qzA,qz0,qzS]
       refine wpAnyH_ready (rs:=[0,6]) (by kernel_rfl) (by simp) (AllReadyH.cons rfl (fun K hK=>?_) (AllReadyH.cons rfl (fun K hK=>?_) AllReadyH.nil))
       · skip
         go_simp
         refine (NW _).mono ?_
         rintro e Ws1 ⟨n1,n2,rfl,on1,on2,hbs1⟩
         have IN:IsD Ws1 (.agg #[n1,n2]) [] []:=⟨_,_,rfl,IsR.own on1 rfl rfl,IsR.own on2 rfl rfl⟩
         clear on1 on2
         have x_s_s1:Box Ws1 (w.heap.size) (US):=Box.below x_s_s0 hbs1
         have x_f_s1:Box Ws1 (w.heap.size + 1) (V):=Box.below x_f_s0 hbs1
         have x_t_s1:Box Ws1 (w0.heap.size) (TV):=Box.below x_t_s0 hbs1
         have Bs1:=below_thru Bs0 hbs1
         clear x_s_s0 x_f_s0 x_t_s0 Bs0 hbs1
         have KN1:Below Ws1.heap.size Ws1 Ws1:=Below.refl _ _
         refine hK.out _ _ (And.intro x_s_s1 (And.intro x_f_s1 x_t_s1)) (fun _=>?_);clear hK K
         refine wpAnyH_ready (rs:=[2,6]) (by kernel_rfl) (by simp) (AllReadyH.cons rfl (fun K hK=>?_) (AllReadyH.cons rfl (fun K hK=>?_) AllReadyH.nil))
         · skip
           have zB1:=Below.size Bs1
           go_simp
           refine (P1 _ _ (IN.below KN1)).mono ?_
           rintro e Ws2 ⟨d1,d2,rfl,od1,od2,hbs2⟩
           have ID:IsD Ws2 (.agg #[d1,d2]) [tkQ] []:=⟨_,_,rfl,IsR.own od1 rfl rfl,IsR.own od2 rfl rfl⟩
           obtain ⟨pd1,nd1,rfl⟩:=own_slR od1;obtain ⟨pd2,nd2,rfl⟩:=own_slR od2;have OD1:=Lib.hid od1;have OD2:=Lib.hid od2;clear od1 od2
           have x_s_s2:Box Ws2 (w.heap.size) (US):=Box.below x_s_s1 hbs2
           have x_f_s2:Box Ws2 (w.heap.size + 1) (V):=Box.below x_f_s1 hbs2
           have x_t_s2:Box Ws2 (w0.heap.size) (TV):=Box.below x_t_s1 hbs2
           have Bs2:=below_thru Bs1 hbs2
           have K_NEW_s2:=below_thru KN1 hbs2
           clear x_s_s1 x_f_s1 x_t_s1 Bs1 KN1 hbs2
           have KT2:Below Ws2.heap.size Ws2 Ws2:=Below.refl _ _
           refine hK.out _ _ (And.intro x_s_s2 (And.intro x_f_s2 x_t_s2)) (fun _=>?_);clear hK K
           refine takeH 3 181 (v:=?vs3_3) rfl (by rfl) (by kernel_rfl) (by kernel_rfl) (by kernel_rfl) (fun _ _ _ h=>h) (Or.inl ⟨by rfl,?_⟩) ((And.intro x_s_s2 (And.intro x_f_s2 x_t_s2))) ?_
           rotate_left
           · intro wq hSq
             go_simp
             exact rfl
           try simp only [Act.put,qzA,qz0,qzS]
           refine takeH 4 185 (v:=?vs4_4) rfl (by rfl) (by kernel_rfl) (by kernel_rfl) (by kernel_rfl) (fun _ _ _ h=>h) (Or.inl ⟨by rfl,?_⟩) ((And.intro x_s_s2 (And.intro x_f_s2 x_t_s2))) ?_
           rotate_left
           · intro wq hSq
             go_simp
             exact rfl
           try simp only [Act.put,qzA,qz0,qzS]
           refine takeH 5 186 (v:=?vs5_5) rfl (by rfl) (by kernel_rfl) (by kernel_rfl) (by kernel_rfl) (fun _ _ _ h=>h) (Or.inl ⟨by rfl,?_⟩) ((And.intro x_s_s2 (And.intro x_f_s2 x_t_s2))) ?_
           rotate_left
           · intro wq hSq
             go_simp
             exact rfl
           try simp only [Act.put,qzA,qz0,qzS]
           refine wpAnyH_ready (rs:=[6]) (by kernel_rfl) (by simp) (AllReadyH.cons rfl (fun K hK=>?_) AllReadyH.nil)
           go_simp
           refine hK.out _ _ (And.intro (Box.alloc x_s_s2 _) (And.intro (Box.alloc x_f_s2 _) (Box.alloc x_t_s2 _))) (fun _=>?_);clear hK K
           have zz_s:=(x_s_s2).lt
           have zz_f:=(x_f_s2).lt
           have zz_t:=(x_t_s2).lt
           have zB:=Below.size Bs2
           have zK_NEW:=Below.size K_NEW_s2
           have zK_TOK:=Below.size KT2
           refine F_alloc (F:=fun W=>wpAnyH _ _ _ _ _ _ _ _ W) id0 rfl ?_
           intro Ws6 hS6 hbs6
           have x_s_s6:Box Ws6 (w.heap.size) (US):=Box.below x_s_s2 hbs6
           have x_f_s6:Box Ws6 (w.heap.size + 1) (V):=Box.below x_f_s2 hbs6
           have x_t_s6:Box Ws6 (w0.heap.size) (TV):=Box.below x_t_s2 hbs6
           have o_d1_s6:=Lib.hid (ownR_below OD1.out hbs6)
           have o_d2_s6:=Lib.hid (ownR_below OD2.out hbs6)
           have Bs6:=below_thru Bs2 hbs6
           have K_NEW_s6:=below_thru K_NEW_s2 hbs6
           have K_TOK_s6:=below_thru KT2 hbs6
           clear x_s_s2 x_f_s2 x_t_s2 OD1 OD2 Bs2 K_NEW_s2 KT2 hbs6
           obtain ⟨bS,hbS⟩:∃ b,Ws2.heap.size=b:=⟨_,rfl⟩
           rw [hbS] at hS6 zB zz_s zz_f zz_t zK_NEW zK_TOK ⊢;have zE:=Nat.le_of_eq hbS;clear hbS
           refine wpAnyH_ready (rs:=[7]) (by kernel_rfl) (by simp) (AllReadyH.cons rfl (fun K hK=>?_) AllReadyH.nil)
           refine step_store_box0 (cs:=[.slice pd1 ([tkQ]:List Tk).length nd1,.slice pd2 ([]:List Cmd).length nd2]) rfl rfl _ _ _ rfl hS6 rfl rfl (size_id12 _ _) rfl (one_id12 _ _ _ _ _ _) (fun Ws7 hW=>?_)
           have x_s_f:=hW.past _ _ (by omega) x_s_s6
           have x_f_f:=hW.past _ _ (by omega) x_f_s6
           have x_t_f:=hW.past _ _ (by omega) x_t_s6
           have Bf:=hW.below _ _ (by omega) Bs6;have Df:=hW.box
           have IDf:IsD Ws7 (.agg #[.slice pd1 ([tkQ]:List Tk).length nd1,.slice pd2 ([]:List Cmd).length nd2]) [tkQ] []:=by
             first | exact ID.below (hW.below _ _ (by first | omega | (have:=Below.size K_TOK_s6;omega)) K_TOK_s6) | exact ⟨_,_,rfl,IsR.own (ownR_stored hW o_d1_s6.out (by omega)) rfl rfl,IsR.own (ownR_stored hW o_d2_s6.out (by omega)) rfl rfl⟩
           refine hK.out _ _ (And.intro x_s_f (And.intro x_f_f x_t_f)) (fun _=>?_);clear hK
           refine takeH 8 20 (v:=?vs8_8) rfl (by rfl) (by kernel_rfl) (by kernel_rfl) (by kernel_rfl) (fun _ _ _ h=>h) (Or.inl ⟨by rfl,?_⟩) ((And.intro x_s_f (And.intro x_f_f x_t_f))) ?_
           rotate_left
           · intro wq hSq
             go_simp
             exact rfl
           try simp only [Act.put,qzA,qz0,qzS]
           refine wpAnyH_done (by kernel_rfl) ?_ _
           go_wp2_with fail
           go_meet
           exact ⟨bS,_,_,rfl,rfl,x_s_f,x_f_f,x_t_f,Df,Lib.hid IDf,Bf⟩
         · skip
           go_simp
           refine hK.out _ _ (And.intro (Box.alloc x_s_s1 _) (And.intro (Box.alloc x_f_s1 _) (Box.alloc x_t_s1 _))) (fun _=>?_);clear hK K
           have zz_s:=(x_s_s1).lt
           have zz_f:=(x_f_s1).lt
           have zz_t:=(x_t_s1).lt
           have zB:=Below.size Bs1
           have zK_NEW:=Below.size KN1
           refine F_alloc (F:=fun W=>wpAnyH _ _ _ _ _ _ _ _ W) id0 rfl ?_
           intro Ws9 hS9 hbs9
           have x_s_s9:Box Ws9 (w.heap.size) (US):=Box.below x_s_s1 hbs9
           have x_f_s9:Box Ws9 (w.heap.size + 1) (V):=Box.below x_f_s1 hbs9
           have x_t_s9:Box Ws9 (w0.heap.size) (TV):=Box.below x_t_s1 hbs9
           have Bs9:=below_thru Bs1 hbs9
           have K_NEW_s9:=below_thru KN1 hbs9
           clear x_s_s1 x_f_s1 x_t_s1 Bs1 KN1 hbs9
           obtain ⟨bS,hbS⟩:∃ b,Ws1.heap.size=b:=⟨_,rfl⟩
           rw [hbS] at hS9 zB zz_s zz_f zz_t zK_NEW ⊢;have zE:=Nat.le_of_eq hbS;clear hbS
           refine wpAnyH_ready (rs:=[2]) (by kernel_rfl) (by simp) (AllReadyH.cons rfl (fun K hK=>?_) AllReadyH.nil)
           have zB1:=Below.size Bs9
           have zdT:=(hS9).lt
           go_simp
           refine (P1 _ _ (IN.below K_NEW_s9)).mono ?_
           rintro e Ws10 ⟨d1,d2,rfl,od1,od2,hbs10⟩
           have ID:IsD Ws10 (.agg #[d1,d2]) [tkQ] []:=⟨_,_,rfl,IsR.own od1 rfl rfl,IsR.own od2 rfl rfl⟩
           obtain ⟨pd1,nd1,rfl⟩:=own_slR od1;obtain ⟨pd2,nd2,rfl⟩:=own_slR od2;have OD1:=Lib.hid od1;have OD2:=Lib.hid od2;clear od1 od2
           have x_s_s10:Box Ws10 (w.heap.size) (US):=Box.below x_s_s9 hbs10
           have x_f_s10:Box Ws10 (w.heap.size + 1) (V):=Box.below x_f_s9 hbs10
           have x_t_s10:Box Ws10 (w0.heap.size) (TV):=Box.below x_t_s9 hbs10
           have z_d_s10:Box Ws10 (bS) (id0):=Box.below hS9 hbs10
           have Bs10:=below_thru Bs9 hbs10
           have K_NEW_s10:=below_thru K_NEW_s9 hbs10
           clear x_s_s9 x_f_s9 x_t_s9 hS9 Bs9 K_NEW_s9 hbs10
           have KT10:Below Ws10.heap.size Ws10 Ws10:=Below.refl _ _
           refine hK.out _ _ (And.intro x_s_s10 (And.intro x_f_s10 x_t_s10)) (fun _=>?_);clear hK K
           refine takeH 3 181 (v:=?vs3_11) rfl (by rfl) (by kernel_rfl) (by kernel_rfl) (by kernel_rfl) (fun _ _ _ h=>h) (Or.inl ⟨by rfl,?_⟩) ((And.intro x_s_s10 (And.intro x_f_s10 x_t_s10))) ?_
           rotate_left
           · intro wq hSq
             go_simp
             exact rfl
           try simp only [Act.put,qzA,qz0,qzS]
           refine takeH 4 185 (v:=?vs4_12) rfl (by rfl) (by kernel_rfl) (by kernel_rfl) (by kernel_rfl) (fun _ _ _ h=>h) (Or.inl ⟨by rfl,?_⟩) ((And.intro x_s_s10 (And.intro x_f_s10 x_t_s10))) ?_
           rotate_left
           · intro wq hSq
             go_simp
             exact rfl
           try simp only [Act.put,qzA,qz0,qzS]
           refine takeH 5 186 (v:=?vs5_13) rfl (by rfl) (by kernel_rfl) (by kernel_rfl) (by kernel_rfl) (fun _ _ _ h=>h) (Or.inl ⟨by rfl,?_⟩) ((And.intro x_s_s10 (And.intro x_f_s10 x_t_s10))) ?_
           rotate_left
           · intro wq hSq
             go_simp
             exact rfl
           try simp only [Act.put,qzA,qz0,qzS]
           refine wpAnyH_ready (rs:=[7]) (by kernel_rfl) (by simp) (AllReadyH.cons rfl (fun K hK=>?_) AllReadyH.nil)
           refine step_store_box0 (cs:=[.slice pd1 ([tkQ]:List Tk).length nd1,.slice pd2 ([]:List Cmd).length nd2]) rfl rfl _ _ _ rfl z_d_s10 rfl rfl (size_id12 _ _) rfl (one_id12 _ _ _ _ _ _) (fun Ws14 hW=>?_)
           have x_s_f:=hW.past _ _ (by omega) x_s_s10
           have x_f_f:=hW.past _ _ (by omega) x_f_s10
           have x_t_f:=hW.past _ _ (by omega) x_t_s10
           have Bf:=hW.below _ _ (by omega) Bs10;have Df:=hW.box
           have IDf:IsD Ws14 (.agg #[.slice pd1 ([tkQ]:List Tk).length nd1,.slice pd2 ([]:List Cmd).length nd2]) [tkQ] []:=by
             first | exact ID.below (hW.below _ _ (by first | omega | (have:=Below.size KT10;omega)) KT10) | exact ⟨_,_,rfl,IsR.own (ownR_stored hW OD1.out (by omega)) rfl rfl,IsR.own (ownR_stored hW OD2.out (by omega)) rfl rfl⟩
           refine hK.out _ _ (And.intro x_s_f (And.intro x_f_f x_t_f)) (fun _=>?_);clear hK
           refine takeH 8 20 (v:=?vs8_15) rfl (by rfl) (by kernel_rfl) (by kernel_rfl) (by kernel_rfl) (fun _ _ _ h=>h) (Or.inl ⟨by rfl,?_⟩) ((And.intro x_s_f (And.intro x_f_f x_t_f))) ?_
           rotate_left
           · intro wq hSq
             go_simp
             exact rfl
           try simp only [Act.put,qzA,qz0,qzS]
           refine wpAnyH_done (by kernel_rfl) ?_ _
           go_wp2_with fail
           go_meet
           exact ⟨bS,_,_,rfl,rfl,x_s_f,x_f_f,x_t_f,Df,Lib.hid IDf,Bf⟩
       · skip
         go_simp
         refine hK.out _ _ (And.intro (Box.alloc x_s_s0 _) (And.intro (Box.alloc x_f_s0 _) (Box.alloc x_t_s0 _))) (fun _=>?_);clear hK K
         have zz_s:=(x_s_s0).lt
         have zz_f:=(x_f_s0).lt
         have zz_t:=(x_t_s0).lt
         have zB:=Below.size Bs0
         refine F_alloc (F:=fun W=>wpAnyH _ _ _ _ _ _ _ _ W) id0 rfl ?_
         intro Ws16 hS16 hbs16
         have x_s_s16:Box Ws16 (w.heap.size) (US):=Box.below x_s_s0 hbs16
         have x_f_s16:Box Ws16 (w.heap.size + 1) (V):=Box.below x_f_s0 hbs16
         have x_t_s16:Box Ws16 (w0.heap.size) (TV):=Box.below x_t_s0 hbs16
         have Bs16:=below_thru Bs0 hbs16
         clear x_s_s0 x_f_s0 x_t_s0 Bs0 hbs16
         obtain ⟨bS,hbS⟩:∃ b,Ws0.heap.size=b:=⟨_,rfl⟩
         rw [hbS] at hS16 zB zz_s zz_f zz_t  ⊢;have zE:=Nat.le_of_eq hbS;clear hbS
         refine wpAnyH_ready (rs:=[0]) (by kernel_rfl) (by simp) (AllReadyH.cons rfl (fun K hK=>?_) AllReadyH.nil)
         go_simp
         refine (NW _).mono ?_
         rintro e Ws17 ⟨n1,n2,rfl,on1,on2,hbs17⟩
         have IN:IsD Ws17 (.agg #[n1,n2]) [] []:=⟨_,_,rfl,IsR.own on1 rfl rfl,IsR.own on2 rfl rfl⟩
         clear on1 on2
         have x_s_s17:Box Ws17 (w.heap.size) (US):=Box.below x_s_s16 hbs17
         have x_f_s17:Box Ws17 (w.heap.size + 1) (V):=Box.below x_f_s16 hbs17
         have x_t_s17:Box Ws17 (w0.heap.size) (TV):=Box.below x_t_s16 hbs17
         have z_d_s17:Box Ws17 (bS) (id0):=Box.below hS16 hbs17
         have Bs17:=below_thru Bs16 hbs17
         clear x_s_s16 x_f_s16 x_t_s16 hS16 Bs16 hbs17
         have KN17:Below Ws17.heap.size Ws17 Ws17:=Below.refl _ _
         refine hK.out _ _ (And.intro x_s_s17 (And.intro x_f_s17 x_t_s17)) (fun _=>?_);clear hK K
         refine wpAnyH_ready (rs:=[2]) (by kernel_rfl) (by simp) (AllReadyH.cons rfl (fun K hK=>?_) AllReadyH.nil)
         have zB1:=Below.size Bs17
         have zdT:=(z_d_s17).lt
         go_simp
         refine (P1 _ _ (IN.below KN17)).mono ?_
         rintro e Ws18 ⟨d1,d2,rfl,od1,od2,hbs18⟩
         have ID:IsD Ws18 (.agg #[d1,d2]) [tkQ] []:=⟨_,_,rfl,IsR.own od1 rfl rfl,IsR.own od2 rfl rfl⟩
         obtain ⟨pd1,nd1,rfl⟩:=own_slR od1;obtain ⟨pd2,nd2,rfl⟩:=own_slR od2;have OD1:=Lib.hid od1;have OD2:=Lib.hid od2;clear od1 od2
         have x_s_s18:Box Ws18 (w.heap.size) (US):=Box.below x_s_s17 hbs18
         have x_f_s18:Box Ws18 (w.heap.size + 1) (V):=Box.below x_f_s17 hbs18
         have x_t_s18:Box Ws18 (w0.heap.size) (TV):=Box.below x_t_s17 hbs18
         have z_d_s18:Box Ws18 (bS) (id0):=Box.below z_d_s17 hbs18
         have Bs18:=below_thru Bs17 hbs18
         have K_NEW_s18:=below_thru KN17 hbs18
         clear x_s_s17 x_f_s17 x_t_s17 z_d_s17 Bs17 KN17 hbs18
         have KT18:Below Ws18.heap.size Ws18 Ws18:=Below.refl _ _
         refine hK.out _ _ (And.intro x_s_s18 (And.intro x_f_s18 x_t_s18)) (fun _=>?_);clear hK K
         refine takeH 3 181 (v:=?vs3_19) rfl (by rfl) (by kernel_rfl) (by kernel_rfl) (by kernel_rfl) (fun _ _ _ h=>h) (Or.inl ⟨by rfl,?_⟩) ((And.intro x_s_s18 (And.intro x_f_s18 x_t_s18))) ?_
         rotate_left
         · intro wq hSq
           go_simp
           exact rfl
         try simp only [Act.put,qzA,qz0,qzS]
         refine takeH 4 185 (v:=?vs4_20) rfl (by rfl) (by kernel_rfl) (by kernel_rfl) (by kernel_rfl) (fun _ _ _ h=>h) (Or.inl ⟨by rfl,?_⟩) ((And.intro x_s_s18 (And.intro x_f_s18 x_t_s18))) ?_
         rotate_left
         · intro wq hSq
           go_simp
           exact rfl
         try simp only [Act.put,qzA,qz0,qzS]
         refine takeH 5 186 (v:=?vs5_21) rfl (by rfl) (by kernel_rfl) (by kernel_rfl) (by kernel_rfl) (fun _ _ _ h=>h) (Or.inl ⟨by rfl,?_⟩) ((And.intro x_s_s18 (And.intro x_f_s18 x_t_s18))) ?_
         rotate_left
         · intro wq hSq
           go_simp
           exact rfl
         try simp only [Act.put,qzA,qz0,qzS]
         refine wpAnyH_ready (rs:=[7]) (by kernel_rfl) (by simp) (AllReadyH.cons rfl (fun K hK=>?_) AllReadyH.nil)
         refine step_store_box0 (cs:=[.slice pd1 ([tkQ]:List Tk).length nd1,.slice pd2 ([]:List Cmd).length nd2]) rfl rfl _ _ _ rfl z_d_s18 rfl rfl (size_id12 _ _) rfl (one_id12 _ _ _ _ _ _) (fun Ws22 hW=>?_)
         have x_s_f:=hW.past _ _ (by omega) x_s_s18
         have x_f_f:=hW.past _ _ (by omega) x_f_s18
         have x_t_f:=hW.past _ _ (by omega) x_t_s18
         have Bf:=hW.below _ _ (by omega) Bs18;have Df:=hW.box
         have IDf:IsD Ws22 (.agg #[.slice pd1 ([tkQ]:List Tk).length nd1,.slice pd2 ([]:List Cmd).length nd2]) [tkQ] []:=by
           first | exact ID.below (hW.below _ _ (by first | omega | (have:=Below.size KT18;omega)) KT18) | exact ⟨_,_,rfl,IsR.own (ownR_stored hW OD1.out (by omega)) rfl rfl,IsR.own (ownR_stored hW OD2.out (by omega)) rfl rfl⟩
         refine hK.out _ _ (And.intro x_s_f (And.intro x_f_f x_t_f)) (fun _=>?_);clear hK
         refine takeH 8 20 (v:=?vs8_23) rfl (by rfl) (by kernel_rfl) (by kernel_rfl) (by kernel_rfl) (fun _ _ _ h=>h) (Or.inl ⟨by rfl,?_⟩) ((And.intro x_s_f (And.intro x_f_f x_t_f))) ?_
         rotate_left
         · intro wq hSq
           go_simp
           exact rfl
         try simp only [Act.put,qzA,qz0,qzS]
         refine wpAnyH_done (by kernel_rfl) ?_ _
         go_wp2_with fail
         go_meet
         exact ⟨bS,_,_,rfl,rfl,x_s_f,x_f_f,x_t_f,Df,Lib.hid IDf,Bf⟩
     case rest =>
       clear x_s12 x_f12 x_t12 hB12 hs12
       obtain ⟨bD,da,db,rfl,rfl,x_s13,x_f13,x_t13,x_d13,ID,hB13⟩:=hcut
       obtain ⟨W15,rfl⟩:∃ u:World,u=wc:=⟨_,rfl⟩
       have hs13:=hB13.size
       go_wp2_with (first
         | (refine wpList_load_box9 rfl _ _ rfl x_d13 rfl Tryz.underlying62 rfl (size_id12 _ _) ?_)
         | (refine wpList_load_box9 rfl _ _ rfl x_f13 rfl Tryz.underlying37 rfl SW.out ?_))
       refine (A1 _ _ ID.out).mono ?_
       rintro e w14 ⟨rfl,hb⟩
       have hB14:Below w.heap.size w w14:=below_thru hB13 hb
       have hs14:=hB14.size
       have x_s14:Box w14 (w.heap.size) (US):=Box.below x_s13 hb
       have x_f14:Box w14 (w.heap.size + 1) (V):=Box.below x_f13 hb
       have x_t14:Box w14 (w0.heap.size) (TV):=Box.below x_t13 hb
       have x_d14:Box w14 (bD) ([da,db]):=Box.below x_d13 hb
       clear hB13 hs13 x_s13 x_f13 x_t13 x_d13
       clear hb
       go_wp2_with fail
       go_returns
       exact ⟨rfl,hB14⟩
theorem tpr_k (r:Req) (hr:r.k.t < 16) {S:List Int} (hS:S.length=32) (hSb:Byts S) {b:Bool} (hb:b=true↔TruT S r.k r.g) {v:Value} (w:World) (h1:IsL w .u8 v (1 :: r.bs)) (hk:HasKey r.k.t r.k.e) (hL:Hid (LaidS w)):Calls Tryz.prog 11 #[.agg (S.map (Value.int .u8)).toArray,.agg (mcell (Frm.req r)).toArray,v,.bool b] w fun e w'=>e=.returned (.bool true)∧Below w.heap.size w w':=by
 have hl:=rbs_len r
 obtain ⟨a0,c0,rfl,hr0,_⟩:=id h1;have i1:=hr0.room;have i2:=hr0.most;obtain ⟨bb,off,rfl,_⟩:=h1.get 0 (by omega)
 rw [hl] at i1 ⊢
 have h2:IsL w .u8 (.slice (some ⟨bb,off,none⟩) (1 :: r.bs).length c0) (1 :: r.bs):=h1
 have SL:=Lib.hid (show IsL w .u8 (.slice (some ⟨bb,off,none⟩) 59 c0) (1 :: r.bs) by rw [← hl];exact h1)
 have S21:=Lib.hid (show IsL w .u8 (.slice (some ⟨bb,off + 1,none⟩) 20 (c0 - 1)) (r.k.msg) by rw [← rbs_msg r];exact (h2.taken (m:=21) (by omega)).dropped (by rw [List.length_take];omega) (by rw [List.length_take];omega) rfl (Or.inl rfl))
 have S53:=Lib.hid (show IsL w .u8 (.slice (some ⟨bb,off + 1,none⟩) 52 (c0 - 1)) (r.k.msg ++ r.g) by rw [← rbs_tok r];exact (h2.taken (m:=53) (by omega)).dropped (by rw [List.length_take];omega) (by rw [List.length_take];omega) rfl (Or.inl rfl))
 have S5:=Lib.hid (show IsL w .u8 (.slice (some ⟨bb,off + 1,none⟩) 4 (c0 - 1)) (be 4 r.k.t) by rw [← rbs_t r];exact (h2.taken (m:=5) (by omega)).dropped (by rw [List.length_take];omega) (by rw [List.length_take];omega) rfl (Or.inl rfl))
 have S13:=Lib.hid (show IsL w .u8 (.slice (some ⟨bb,off + 9,none⟩) 4 (c0 - 9)) (be 4 r.k.e) by rw [← rbs_e r];exact (h2.taken (m:=13) (by omega)).dropped (by rw [List.length_take];omega) (by rw [List.length_take];omega) rfl (Or.inl rfl))
 clear hr0 h1 h2 hl
 have j1:¬ c0=1:=by omega
 have j9:¬ c0=9:=by omega
 have q5:(5:Int)≤(c0:Int):=by omega
 have q13:(13:Int)≤(c0:Int):=by omega
 have q21:(21:Int)≤(c0:Int):=by omega
 have q53:(53:Int)≤(c0:Int):=by omega
 have HR0:=Lib.hid hr;have HS0:=Lib.hid hS;have HSb0:=Lib.hid hSb;have HB0:=Lib.hid hb;have HK0:=Lib.hid hk
 exact (tpr_p1 r HR0 HS0 HSb0 HB0 w SL S21 S53 S5 S13 i1 i2 j1 j9 q5 q13 q21 q53 HK0 hL).2 ⟨tpr_q1 r HR0 HS0 HSb0 HB0 w SL S21 S53 S5 S13 i1 i2 j1 j9 q5 q13 q21 q53 HK0 hL⟩
theorem tpr_is (r:Req) (hr:r.k.t < 16) {S:List Int} (hS:S.length=32) (hSb:Byts S) {b:Bool} (hb:b=true↔TruT S r.k r.g) {v:Value} (w:World) (h1:IsL w .u8 v (1 :: r.bs)) (hL:Hid (LaidS w)):Calls Tryz.prog 11 #[.agg (S.map (Value.int .u8)).toArray,.agg (mcell (Frm.req r)).toArray,v,.bool b] w fun e w'=>e=.returned (.bool true)∧Below w.heap.size w w':=by
 by_cases hk:HasKey r.k.t r.k.e
 · exact tpr_k r hr hS hSb hb w h1 hk hL
 · exact tpr_n r hr hS hb w h1 hk
end Go.Proofs.YtnfejdfjlnpldaaGreatDoor
