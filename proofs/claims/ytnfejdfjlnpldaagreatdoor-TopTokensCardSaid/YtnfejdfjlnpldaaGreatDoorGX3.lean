import Derived.Test.YtnfejdfjlnpldaaGreatDoorGT1
import Derived.Test.YtnfejdfjlnpldaaGreatDoorGF2
import Derived.Test.YtnfejdfjlnpldaaGreatDoorGX1
import Derived.Test.YtnfejdfjlnpldaaGreatDoorTokD
import Derived.Test.YtnfejdfjlnpldaaGreatDoorGX2
set_option maxHeartbeats 12800000
set_option maxRecDepth 100000
namespace Go.Proofs.YtnfejdfjlnpldaaGreatDoor
open Go.RowKit
theorem Box.keepR {w w':World} {b B:Nat} {vs:List Value} (h:Box w b vs) (hb:Below B w w') (hB:b < B):Box w' b vs:=by
 have hh:=hb.block b hB
 exact ⟨fun i v e=>by have:=h.c i v e;simpa [World.cell?,hh] using this,fun i v e=>by have:=h.f i v e;simpa [World.frozen?,hh] using this,Nat.lt_of_lt_of_le h.lt hb.size⟩
end Go.Proofs.YtnfejdfjlnpldaaGreatDoor
namespace Go.Proofs.YtnfejdfjlnpldaaGreatDoor
open Go.RowKit
def GivesF (fs:List Fd) (w:World) (e:Ending) (w':World):Prop:=∃ v,e=.returned v∧IsR LF w' v fs∧Below w.heap.size w w'
theorem size_lm (l:Lm):(Tryz.prog.info? 32).map (·.size)=some l.v.length:=by rw [sizeLim];rfl
theorem one_lm (l:Lm):l.v.toArray.all (·.oneCell')=true:=all_oneCell_toArray (fun u hu=>by
 simp [Lm.v] at hu
 rcases hu with rfl | rfl | rfl <;> rfl)
theorem flatF (f:Fd):flatR LF [f]=f.v:=flatR_one LF f
set_option maxRecDepth 100000 in
set_option maxHeartbeats 12800000 in
theorem mrow_is (c:Cmd) (hw:c.wd) (w:World):Calls Tryz.prog 54 #[.agg (ccell c).toArray] w (GivesF (crow c) w):=by
 obtain ⟨ti,hin,hz0,hz1,hz2⟩:=info_parts info_fld
 have SV:=Lib.hid (size_cmd c)
 have SA:=Lib.hid (size_arr c)
 have D3:=Lib.hid (ccell_drop3 c)
 have SL0:=Lib.hid (size_lm c.l0)
 have OL0:=Lib.hid (one_lm c.l0)
 have LL0:=Lib.hid (show Lm.zero.v.length=c.l0.v.length from rfl)
 have IX0:=fun W=>idx_lim0 c.l0.b c.l0.r c.l0.p c.l1.b c.l1.r c.l1.p c.l2.b c.l2.r c.l2.p W
 have m00:c.l0.v[0]? = some (.int .i64 c.l0.b):=rfl;have m01:c.l0.v[1]? = some (.int .i64 c.l0.r):=rfl;have m02:c.l0.v[2]? = some (.int .i64 c.l0.p):=rfl
 have SL1:=Lib.hid (size_lm c.l1)
 have OL1:=Lib.hid (one_lm c.l1)
 have LL1:=Lib.hid (show Lm.zero.v.length=c.l1.v.length from rfl)
 have IX1:=fun W=>idx_lim1 c.l0.b c.l0.r c.l0.p c.l1.b c.l1.r c.l1.p c.l2.b c.l2.r c.l2.p W
 have m10:c.l1.v[0]? = some (.int .i64 c.l1.b):=rfl;have m11:c.l1.v[1]? = some (.int .i64 c.l1.r):=rfl;have m12:c.l1.v[2]? = some (.int .i64 c.l1.p):=rfl
 have SL2:=Lib.hid (size_lm c.l2)
 have OL2:=Lib.hid (one_lm c.l2)
 have LL2:=Lib.hid (show Lm.zero.v.length=c.l2.v.length from rfl)
 have IX2:=fun W=>idx_lim2 c.l0.b c.l0.r c.l0.p c.l1.b c.l1.r c.l1.p c.l2.b c.l2.r c.l2.p W
 have m20:c.l2.v[0]? = some (.int .i64 c.l2.b):=rfl;have m21:c.l2.v[1]? = some (.int .i64 c.l2.r):=rfl;have m22:c.l2.v[2]? = some (.int .i64 c.l2.p):=rfl
 have WU8:∀ n:Int,0≤n∧n≤255→IntKind.u64.wrap n=n:=fun n h=>by rw [IntKind.wrap_u64];omega
 have WU32:∀ n:Int,0≤n∧n≤4294967295→IntKind.u64.wrap n=n:=fun n h=>by rw [IntKind.wrap_u64];omega
 have CN0:=fun W=>num_is 2 2 W
 have FV0:=fdN_v (k:=2) (n:=2) (by decide) (k8 two8)
 rw [← FV0] at CN0
 clear FV0
 have wn1:=WU8 _ c.hop
 have CN1:=fun W=>num_is 2 c.op W
 have FV1:=fdN_v (k:=2) (n:=c.op) (by decide) (k8 c.hop)
 rw [← FV1] at CN1
 clear FV1
 have wn2:=WU32 _ c.ht
 have CN2:=fun W=>num_is 4 c.t W
 have FV2:=fdN_v (k:=4) (n:=c.t) (by decide) (k32 c.ht)
 rw [← FV2] at CN2
 clear FV2
 have wn3:=WU32 _ c.hu
 have CN3:=fun W=>num_is 4 c.u W
 have FV3:=fdN_v (k:=4) (n:=c.u) (by decide) (k32 c.hu)
 rw [← FV3] at CN3
 clear FV3
 have wn4:=WU32 _ hw.1.1
 have CN4:=fun W=>num_is 4 c.l0.b W
 have FV4:=fdN_v (k:=4) (n:=c.l0.b) (by decide) (k32 hw.1.1)
 rw [← FV4] at CN4
 clear FV4
 have wn5:=WU32 _ hw.1.2.1
 have CN5:=fun W=>num_is 4 c.l0.r W
 have FV5:=fdN_v (k:=4) (n:=c.l0.r) (by decide) (k32 hw.1.2.1)
 rw [← FV5] at CN5
 clear FV5
 have wn6:=WU32 _ hw.1.2.2
 have CN6:=fun W=>num_is 4 c.l0.p W
 have FV6:=fdN_v (k:=4) (n:=c.l0.p) (by decide) (k32 hw.1.2.2)
 rw [← FV6] at CN6
 clear FV6
 have wn7:=WU32 _ hw.2.1.1
 have CN7:=fun W=>num_is 4 c.l1.b W
 have FV7:=fdN_v (k:=4) (n:=c.l1.b) (by decide) (k32 hw.2.1.1)
 rw [← FV7] at CN7
 clear FV7
 have wn8:=WU32 _ hw.2.1.2.1
 have CN8:=fun W=>num_is 4 c.l1.r W
 have FV8:=fdN_v (k:=4) (n:=c.l1.r) (by decide) (k32 hw.2.1.2.1)
 rw [← FV8] at CN8
 clear FV8
 have wn9:=WU32 _ hw.2.1.2.2
 have CN9:=fun W=>num_is 4 c.l1.p W
 have FV9:=fdN_v (k:=4) (n:=c.l1.p) (by decide) (k32 hw.2.1.2.2)
 rw [← FV9] at CN9
 clear FV9
 have wn10:=WU32 _ hw.2.2.1
 have CN10:=fun W=>num_is 4 c.l2.b W
 have FV10:=fdN_v (k:=4) (n:=c.l2.b) (by decide) (k32 hw.2.2.1)
 rw [← FV10] at CN10
 clear FV10
 have wn11:=WU32 _ hw.2.2.2.1
 have CN11:=fun W=>num_is 4 c.l2.r W
 have FV11:=fdN_v (k:=4) (n:=c.l2.r) (by decide) (k32 hw.2.2.2.1)
 rw [← FV11] at CN11
 clear FV11
 have wn12:=WU32 _ hw.2.2.2.2
 have CN12:=fun W=>num_is 4 c.l2.p W
 have FV12:=fdN_v (k:=4) (n:=c.l2.p) (by decide) (k32 hw.2.2.2.2)
 rw [← FV12] at CN12
 clear FV12
 have wn13:=WU8 _ c.hus
 have CN13:=fun W=>num_is 2 c.us W
 have FV13:=fdN_v (k:=2) (n:=c.us) (by decide) (k8 c.hus)
 rw [← FV13] at CN13
 clear FV13
 have wn14:=WU8 _ c.hen
 have CN14:=fun W=>num_is 2 c.en W
 have FV14:=fdN_v (k:=2) (n:=c.en) (by decide) (k8 c.hen)
 rw [← FV14] at CN14
 clear FV14
 have CN15:=fun W=>num_is 5 c.x W
 have FV15:=fdN_v (k:=5) (n:=c.x) (by decide) c.hx
 rw [← FV15] at CN15
 clear FV15
 clear WU8 WU32
 have HC:Hid (crow c=[fdN 2 2,fdN 2 c.op,fdN 4 c.t,fdN 4 c.u,fdN 4 c.l0.b,fdN 4 c.l0.r,fdN 4 c.l0.p,fdN 4 c.l1.b,fdN 4 c.l1.r,fdN 4 c.l1.p,fdN 4 c.l2.b,fdN 4 c.l2.r,fdN 4 c.l2.p,fdN 2 c.us,fdN 2 c.en,fdN 5 c.x]):=Lib.hid rfl
 obtain ⟨f0,hf0⟩:∃ f,fdN 2 2=f:=⟨_,rfl⟩
 rw [hf0] at CN0 HC
 have FL0:=f0.v_len;have FE0:=flatF f0
 obtain ⟨V0,hV0⟩:∃ V,f0.v=V:=⟨_,rfl⟩
 rw [hV0] at CN0 FL0 FE0
 obtain ⟨f1,hf1⟩:∃ f,fdN 2 c.op=f:=⟨_,rfl⟩
 rw [hf1] at CN1 HC
 have FL1:=f1.v_len;have FE1:=flatF f1
 obtain ⟨V1,hV1⟩:∃ V,f1.v=V:=⟨_,rfl⟩
 rw [hV1] at CN1 FL1 FE1
 obtain ⟨f2,hf2⟩:∃ f,fdN 4 c.t=f:=⟨_,rfl⟩
 rw [hf2] at CN2 HC
 have FL2:=f2.v_len;have FE2:=flatF f2
 obtain ⟨V2,hV2⟩:∃ V,f2.v=V:=⟨_,rfl⟩
 rw [hV2] at CN2 FL2 FE2
 obtain ⟨f3,hf3⟩:∃ f,fdN 4 c.u=f:=⟨_,rfl⟩
 rw [hf3] at CN3 HC
 have FL3:=f3.v_len;have FE3:=flatF f3
 obtain ⟨V3,hV3⟩:∃ V,f3.v=V:=⟨_,rfl⟩
 rw [hV3] at CN3 FL3 FE3
 obtain ⟨f4,hf4⟩:∃ f,fdN 4 c.l0.b=f:=⟨_,rfl⟩
 rw [hf4] at CN4 HC
 have FL4:=f4.v_len;have FE4:=flatF f4
 obtain ⟨V4,hV4⟩:∃ V,f4.v=V:=⟨_,rfl⟩
 rw [hV4] at CN4 FL4 FE4
 obtain ⟨f5,hf5⟩:∃ f,fdN 4 c.l0.r=f:=⟨_,rfl⟩
 rw [hf5] at CN5 HC
 have FL5:=f5.v_len;have FE5:=flatF f5
 obtain ⟨V5,hV5⟩:∃ V,f5.v=V:=⟨_,rfl⟩
 rw [hV5] at CN5 FL5 FE5
 obtain ⟨f6,hf6⟩:∃ f,fdN 4 c.l0.p=f:=⟨_,rfl⟩
 rw [hf6] at CN6 HC
 have FL6:=f6.v_len;have FE6:=flatF f6
 obtain ⟨V6,hV6⟩:∃ V,f6.v=V:=⟨_,rfl⟩
 rw [hV6] at CN6 FL6 FE6
 obtain ⟨f7,hf7⟩:∃ f,fdN 4 c.l1.b=f:=⟨_,rfl⟩
 rw [hf7] at CN7 HC
 have FL7:=f7.v_len;have FE7:=flatF f7
 obtain ⟨V7,hV7⟩:∃ V,f7.v=V:=⟨_,rfl⟩
 rw [hV7] at CN7 FL7 FE7
 obtain ⟨f8,hf8⟩:∃ f,fdN 4 c.l1.r=f:=⟨_,rfl⟩
 rw [hf8] at CN8 HC
 have FL8:=f8.v_len;have FE8:=flatF f8
 obtain ⟨V8,hV8⟩:∃ V,f8.v=V:=⟨_,rfl⟩
 rw [hV8] at CN8 FL8 FE8
 obtain ⟨f9,hf9⟩:∃ f,fdN 4 c.l1.p=f:=⟨_,rfl⟩
 rw [hf9] at CN9 HC
 have FL9:=f9.v_len;have FE9:=flatF f9
 obtain ⟨V9,hV9⟩:∃ V,f9.v=V:=⟨_,rfl⟩
 rw [hV9] at CN9 FL9 FE9
 obtain ⟨f10,hf10⟩:∃ f,fdN 4 c.l2.b=f:=⟨_,rfl⟩
 rw [hf10] at CN10 HC
 have FL10:=f10.v_len;have FE10:=flatF f10
 obtain ⟨V10,hV10⟩:∃ V,f10.v=V:=⟨_,rfl⟩
 rw [hV10] at CN10 FL10 FE10
 obtain ⟨f11,hf11⟩:∃ f,fdN 4 c.l2.r=f:=⟨_,rfl⟩
 rw [hf11] at CN11 HC
 have FL11:=f11.v_len;have FE11:=flatF f11
 obtain ⟨V11,hV11⟩:∃ V,f11.v=V:=⟨_,rfl⟩
 rw [hV11] at CN11 FL11 FE11
 obtain ⟨f12,hf12⟩:∃ f,fdN 4 c.l2.p=f:=⟨_,rfl⟩
 rw [hf12] at CN12 HC
 have FL12:=f12.v_len;have FE12:=flatF f12
 obtain ⟨V12,hV12⟩:∃ V,f12.v=V:=⟨_,rfl⟩
 rw [hV12] at CN12 FL12 FE12
 obtain ⟨f13,hf13⟩:∃ f,fdN 2 c.us=f:=⟨_,rfl⟩
 rw [hf13] at CN13 HC
 have FL13:=f13.v_len;have FE13:=flatF f13
 obtain ⟨V13,hV13⟩:∃ V,f13.v=V:=⟨_,rfl⟩
 rw [hV13] at CN13 FL13 FE13
 obtain ⟨f14,hf14⟩:∃ f,fdN 2 c.en=f:=⟨_,rfl⟩
 rw [hf14] at CN14 HC
 have FL14:=f14.v_len;have FE14:=flatF f14
 obtain ⟨V14,hV14⟩:∃ V,f14.v=V:=⟨_,rfl⟩
 rw [hV14] at CN14 FL14 FE14
 obtain ⟨f15,hf15⟩:∃ f,fdN 5 c.x=f:=⟨_,rfl⟩
 rw [hf15] at CN15 HC
 have FL15:=f15.v_len;have FE15:=flatF f15
 obtain ⟨V15,hV15⟩:∃ V,f15.v=V:=⟨_,rfl⟩
 rw [hV15] at CN15 FL15 FE15
 have HB4:=Lib.hid (fun W=>run_bsliceN (P:=Tryz.prog) (n:=4) W 76 88 ti _ 34 Tryz.underlying76 hin hz0 hz1 rfl [V0,V1,V2,V3] (by simp [FL0,FL1,FL2,FL3]) (by decide) (by simp) #[(0,.agg V0.toArray),(1,.agg V1.toArray),(2,.agg V2.toArray),(3,.agg V3.toArray)] rfl rfl (by decide))
 have HB40:=Lib.hid (fun W=>run_bsliceN (P:=Tryz.prog) (n:=1) W 76 88 ti _ 34 Tryz.underlying76 hin hz0 hz1 rfl [V4] (by simp [FL4]) (by decide) (by simp) #[(0,.agg V4.toArray)] rfl rfl (by decide))
 have HB5:=Lib.hid (fun W=>run_bsliceN (P:=Tryz.prog) (n:=1) W 76 88 ti _ 34 Tryz.underlying76 hin hz0 hz1 rfl [V5] (by simp [FL5]) (by decide) (by simp) #[(0,.agg V5.toArray)] rfl rfl (by decide))
 have HB6:=Lib.hid (fun W=>run_bsliceN (P:=Tryz.prog) (n:=1) W 76 88 ti _ 34 Tryz.underlying76 hin hz0 hz1 rfl [V6] (by simp [FL6]) (by decide) (by simp) #[(0,.agg V6.toArray)] rfl rfl (by decide))
 have HB7:=Lib.hid (fun W=>run_bsliceN (P:=Tryz.prog) (n:=1) W 76 88 ti _ 34 Tryz.underlying76 hin hz0 hz1 rfl [V7] (by simp [FL7]) (by decide) (by simp) #[(0,.agg V7.toArray)] rfl rfl (by decide))
 have HB8:=Lib.hid (fun W=>run_bsliceN (P:=Tryz.prog) (n:=1) W 76 88 ti _ 34 Tryz.underlying76 hin hz0 hz1 rfl [V8] (by simp [FL8]) (by decide) (by simp) #[(0,.agg V8.toArray)] rfl rfl (by decide))
 have HB9:=Lib.hid (fun W=>run_bsliceN (P:=Tryz.prog) (n:=1) W 76 88 ti _ 34 Tryz.underlying76 hin hz0 hz1 rfl [V9] (by simp [FL9]) (by decide) (by simp) #[(0,.agg V9.toArray)] rfl rfl (by decide))
 have HB10:=Lib.hid (fun W=>run_bsliceN (P:=Tryz.prog) (n:=1) W 76 88 ti _ 34 Tryz.underlying76 hin hz0 hz1 rfl [V10] (by simp [FL10]) (by decide) (by simp) #[(0,.agg V10.toArray)] rfl rfl (by decide))
 have HB11:=Lib.hid (fun W=>run_bsliceN (P:=Tryz.prog) (n:=1) W 76 88 ti _ 34 Tryz.underlying76 hin hz0 hz1 rfl [V11] (by simp [FL11]) (by decide) (by simp) #[(0,.agg V11.toArray)] rfl rfl (by decide))
 have HB12:=Lib.hid (fun W=>run_bsliceN (P:=Tryz.prog) (n:=1) W 76 88 ti _ 34 Tryz.underlying76 hin hz0 hz1 rfl [V12] (by simp [FL12]) (by decide) (by simp) #[(0,.agg V12.toArray)] rfl rfl (by decide))
 have HB3:=Lib.hid (fun W=>run_bsliceN (P:=Tryz.prog) (n:=3) W 76 88 ti _ 34 Tryz.underlying76 hin hz0 hz1 rfl [V13,V14,V15] (by simp [FL13,FL14,FL15]) (by decide) (by simp) #[(0,.agg V13.toArray),(1,.agg V14.toArray),(2,.agg V15.toArray)] rfl rfl (by decide))
 have HR3:Hid ([V13,V14,V15].flatten=flatR LF [f13,f14,f15]):=Lib.hid (by rw [← hV13,← hV14,← hV15];simp [flatR,LF])
 obtain ⟨P4,hP4⟩:∃ P,[V0,V1,V2,V3].flatten=P:=⟨_,rfl⟩
 rw [hP4] at HB4
 have NP4:P4.length=4 * 34:=by rw [← hP4];simp [FL0,FL1,FL2,FL3]
 have EP4:P4=flatR LF [f0,f1,f2,f3]:=by rw [← hP4,← hV0,← hV1,← hV2,← hV3];simp [flatR,LF]
 obtain ⟨P5,hP5⟩:∃ P,P4 ++ flatR LF [f4]=P:=⟨_,rfl⟩
 obtain ⟨P6,hP6⟩:∃ P,P5 ++ flatR LF [f5]=P:=⟨_,rfl⟩
 obtain ⟨P7,hP7⟩:∃ P,P6 ++ flatR LF [f6]=P:=⟨_,rfl⟩
 obtain ⟨P8,hP8⟩:∃ P,P7 ++ flatR LF [f7]=P:=⟨_,rfl⟩
 obtain ⟨P9,hP9⟩:∃ P,P8 ++ flatR LF [f8]=P:=⟨_,rfl⟩
 obtain ⟨P10,hP10⟩:∃ P,P9 ++ flatR LF [f9]=P:=⟨_,rfl⟩
 obtain ⟨P11,hP11⟩:∃ P,P10 ++ flatR LF [f10]=P:=⟨_,rfl⟩
 obtain ⟨P12,hP12⟩:∃ P,P11 ++ flatR LF [f11]=P:=⟨_,rfl⟩
 obtain ⟨P13,hP13⟩:∃ P,P12 ++ flatR LF [f12]=P:=⟨_,rfl⟩
 have HP:Hid (P13 ++ flatR LF [f13,f14,f15]=flatR LF (crow c)):=Lib.hid (by rw [HC.out,← hP13,← hP12,← hP11,← hP10,← hP9,← hP8,← hP7,← hP6,← hP5,EP4];simp [flatR])
 have NC:Hid ((crow c).length=16):=Lib.hid rfl
 have EV4:Hid ([V4].flatten=flatR LF [f4]):=Lib.hid (by rw [FE4];simp)
 have EV5:Hid ([V5].flatten=flatR LF [f5]):=Lib.hid (by rw [FE5];simp)
 have EV6:Hid ([V6].flatten=flatR LF [f6]):=Lib.hid (by rw [FE6];simp)
 have EV7:Hid ([V7].flatten=flatR LF [f7]):=Lib.hid (by rw [FE7];simp)
 have EV8:Hid ([V8].flatten=flatR LF [f8]):=Lib.hid (by rw [FE8];simp)
 have EV9:Hid ([V9].flatten=flatR LF [f9]):=Lib.hid (by rw [FE9];simp)
 have EV10:Hid ([V10].flatten=flatR LF [f10]):=Lib.hid (by rw [FE10];simp)
 have EV11:Hid ([V11].flatten=flatR LF [f11]):=Lib.hid (by rw [FE11];simp)
 have EV12:Hid ([V12].flatten=flatR LF [f12]):=Lib.hid (by rw [FE12];simp)
 have HE5:=Lib.hid hP5;clear hP5
 have HE6:=Lib.hid hP6;clear hP6
 have HE7:=Lib.hid hP7;clear hP7
 have HE8:=Lib.hid hP8;clear hP8
 have HE9:=Lib.hid hP9;clear hP9
 have HE10:=Lib.hid hP10;clear hP10
 have HE11:=Lib.hid hP11;clear hP11
 have HE12:=Lib.hid hP12;clear hP12
 have HE13:=Lib.hid hP13;clear hP13
 obtain ⟨R,hR⟩:∃ R,crow c=R:=⟨_,rfl⟩
 rw [hR] at HP NC ⊢
 have NP:=Lib.hid NP4
 clear hR HC hP4 EP4 NP4 hw
 clear hf0 hV0 FE0 FL0
 clear hf1 hV1 FE1 FL1
 clear hf2 hV2 FE2 FL2
 clear hf3 hV3 FE3 FL3
 clear hf4 hV4 FE4 FL4
 clear hf5 hV5 FE5 FL5
 clear hf6 hV6 FE6 FL6
 clear hf7 hV7 FE7 FL7
 clear hf8 hV8 FE8 FL8
 clear hf9 hV9 FE9 FL9
 clear hf10 hV10 FE10 FL10
 clear hf11 hV11 FE11 FL11
 clear hf12 hV12 FE12 FL12
 clear hf13 hV13 FE13 FL13
 clear hf14 hV14 FE14 FL14
 clear hf15 hV15 FE15 FL15
 obtain ⟨V,hV⟩:∃ V,ccell c=V:=⟨_,rfl⟩
 have v0:V[0]? = some (.int .u8 c.op):=by rw [← hV];rfl
 have v1:V[1]? = some (.int .u32 c.t):=by rw [← hV];rfl
 have v2:V[2]? = some (.int .u32 c.u):=by rw [← hV];rfl
 have v12:V[12]? = some (.int .u8 c.us):=by rw [← hV];rfl
 have v13:V[13]? = some (.int .u8 c.en):=by rw [← hV];rfl
 have v14:V[14]? = some (.int .u64 c.x):=by rw [← hV];rfl
 obtain ⟨LC,hLC⟩:∃ V,lcell c=V:=⟨_,rfl⟩
 obtain ⟨R3,hR3⟩:∃ V,acell c=V:=⟨_,rfl⟩
 have IY0:∀ W,(Instr.index 33 (.agg LC.toArray) (.int .i64 0)).run Tryz.prog W=.ok (.agg c.l0.v.toArray) W:=by rw [← hLC];exact IX0
 clear IX0
 have IY1:∀ W,(Instr.index 33 (.agg LC.toArray) (.int .i64 1)).run Tryz.prog W=.ok (.agg c.l1.v.toArray) W:=by rw [← hLC];exact IX1
 clear IX1
 have IY2:∀ W,(Instr.index 33 (.agg LC.toArray) (.int .i64 2)).run Tryz.prog W=.ok (.agg c.l2.v.toArray) W:=by rw [← hLC];exact IX2
 clear IX2
 rw [hV] at SV D3 ⊢
 rw [hLC] at SA D3
 rw [hR3] at D3
 obtain ⟨M0,hM0⟩:∃ V,c.l0.v=V:=⟨_,rfl⟩
 rw [hM0] at SL0 OL0 LL0 IY0 m00 m01 m02
 obtain ⟨M1,hM1⟩:∃ V,c.l1.v=V:=⟨_,rfl⟩
 rw [hM1] at SL1 OL1 LL1 IY1 m10 m11 m12
 obtain ⟨M2,hM2⟩:∃ V,c.l2.v=V:=⟨_,rfl⟩
 rw [hM2] at SL2 OL2 LL2 IY2 m20 m21 m22
 clear hV hLC hR3 hM0 hM1 hM2
 go_enter Tryz.func54,Tryz.ntmps54
 go_upto_region 1 with fail
 refine F_gen (F:=fun W=>Code.wp _ _ _ _ W) (J:=fun W=>Box W (w.heap.size) (V)∧Below w.heap.size w W) (And.intro (Box.newc rfl rfl) (by go_grown)) ?_
 intro w0 ⟨e_c,hB0⟩
 have hs0:=hB0.size
 have x_c0:=e_c;clear e_c
 refine wp_region_held_drew (S:=fun W=>Box W w.heap.size V) (by kernel_rfl) (x_c0).drew (fun _=>?_)
 refine F_drew (F:=fun W=>wpAnyH _ _ _ _ _ _ _ _ W) ?_
 intro W0 hb0
 have xc0:=x_c0.below hb0;have Bc0:=below_thru hB0 hb0
 clear x_c0 hB0 hs0 hb0
 refine takeH 1 9 (v:=?vt1_1) rfl (by rfl) (by kernel_rfl) (by kernel_rfl) (by kernel_rfl) (fun _ _ _ h=>h) (Or.inl ⟨by rfl,?_⟩) (xc0) ?_
 rotate_left
 · intro wq hSq
   go_simp
   exact rfl
 try simp only [Act.put,qzA,qz0,qzS]
 refine takeH 2 10 (v:=?vt2_2) rfl (by rfl) (by kernel_rfl) (by kernel_rfl) (by kernel_rfl) (fun _ _ _ h=>h) (Or.inl ⟨by rfl,?_⟩) (xc0) ?_
 rotate_left
 · intro wq hSq
   have cq:=hSq.c 0 _ v0
   have zq:=lt_of_cell cq
   go_simp
   exact rfl
 try simp only [Act.put,qzA,qz0,qzS]
 refine takeH 3 11 (v:=?vt3_3) rfl (by rfl) (by kernel_rfl) (by kernel_rfl) (by kernel_rfl) (fun _ _ _ h=>h) (Or.inl ⟨by rfl,?_⟩) (xc0) ?_
 rotate_left
 · intro wq hSq
   go_simp
   exact rfl
 try simp only [Act.put,qzA,qz0,qzS]
 refine takeH 5 13 (v:=?vt5_4) rfl (by rfl) (by kernel_rfl) (by kernel_rfl) (by kernel_rfl) (fun _ _ _ h=>h) (Or.inl ⟨by rfl,?_⟩) (xc0) ?_
 rotate_left
 · intro wq hSq
   go_simp
   exact rfl
 try simp only [Act.put,qzA,qz0,qzS]
 refine takeH 6 14 (v:=?vt6_5) rfl (by rfl) (by kernel_rfl) (by kernel_rfl) (by kernel_rfl) (fun _ _ _ h=>h) (Or.inl ⟨by rfl,?_⟩) (xc0) ?_
 rotate_left
 · intro wq hSq
   have cq:=hSq.c 1 _ v1
   have zq:=lt_of_cell cq
   go_simp
   exact rfl
 try simp only [Act.put,qzA,qz0,qzS]
 refine takeH 7 15 (v:=?vt7_6) rfl (by rfl) (by kernel_rfl) (by kernel_rfl) (by kernel_rfl) (fun _ _ _ h=>h) (Or.inl ⟨by rfl,?_⟩) (xc0) ?_
 rotate_left
 · intro wq hSq
   go_simp
   exact rfl
 try simp only [Act.put,qzA,qz0,qzS]
 refine takeH 9 17 (v:=?vt9_7) rfl (by rfl) (by kernel_rfl) (by kernel_rfl) (by kernel_rfl) (fun _ _ _ h=>h) (Or.inl ⟨by rfl,?_⟩) (xc0) ?_
 rotate_left
 · intro wq hSq
   go_simp
   exact rfl
 try simp only [Act.put,qzA,qz0,qzS]
 refine takeH 10 18 (v:=?vt10_8) rfl (by rfl) (by kernel_rfl) (by kernel_rfl) (by kernel_rfl) (fun _ _ _ h=>h) (Or.inl ⟨by rfl,?_⟩) (xc0) ?_
 rotate_left
 · intro wq hSq
   have cq:=hSq.c 2 _ v2
   have zq:=lt_of_cell cq
   go_simp
   exact rfl
 try simp only [Act.put,qzA,qz0,qzS]
 refine takeH 11 19 (v:=?vt11_9) rfl (by rfl) (by kernel_rfl) (by kernel_rfl) (by kernel_rfl) (fun _ _ _ h=>h) (Or.inl ⟨by rfl,?_⟩) (xc0) ?_
 rotate_left
 · intro wq hSq
   go_simp
   exact rfl
 try simp only [Act.put,qzA,qz0,qzS]
 refine wpAnyH_ready (rs:=[0]) (by kernel_rfl) (by simp) (AllReadyH.cons rfl (fun K hK=>?_) AllReadyH.nil)
 go_simp
 refine (CN0 _).mono ?_
 rintro e W10 ⟨rfl,hb10⟩
 have xc10:=Box.below xc0 hb10;have Bc10:=below_thru Bc0 hb10
 clear xc0 Bc0 hb10
 refine hK.out _ _ xc10 (fun _=>?_);clear hK K
 refine wpAnyH_ready (rs:=[4]) (by kernel_rfl) (by simp) (AllReadyH.cons rfl (fun K hK=>?_) AllReadyH.nil)
 go_simp
 refine (CN1 _).mono ?_
 rintro e W11 ⟨rfl,hb11⟩
 have xc11:=Box.below xc10 hb11;have Bc11:=below_thru Bc10 hb11
 clear xc10 Bc10 hb11
 refine hK.out _ _ xc11 (fun _=>?_);clear hK K
 refine wpAnyH_ready (rs:=[8]) (by kernel_rfl) (by simp) (AllReadyH.cons rfl (fun K hK=>?_) AllReadyH.nil)
 go_simp
 refine (CN2 _).mono ?_
 rintro e W12 ⟨rfl,hb12⟩
 have xc12:=Box.below xc11 hb12;have Bc12:=below_thru Bc11 hb12
 clear xc11 Bc11 hb12
 refine hK.out _ _ xc12 (fun _=>?_);clear hK K
 refine wpAnyH_ready (rs:=[12]) (by kernel_rfl) (by simp) (AllReadyH.cons rfl (fun K hK=>?_) AllReadyH.nil)
 go_simp
 refine (CN3 _).mono ?_
 rintro e W13 ⟨rfl,hb13⟩
 have xc13:=Box.below xc12 hb13;have Bc13:=below_thru Bc12 hb13
 clear xc12 Bc12 hb13
 refine hK.out _ _ xc13 (fun _=>?_);clear hK K
 refine wpAnyH_ready (rs:=[13]) (by kernel_rfl) (by simp) (AllReadyH.cons rfl (fun K hK=>?_) AllReadyH.nil)
 have sz14:=Below.size Bc13
 refine step_bsliceH 21 rfl rfl 76 4 _ rfl (us:=#[(0,.agg V0.toArray),(1,.agg V1.toArray),(2,.agg V2.toArray),(3,.agg V3.toArray)]) (by rfl) (HB4.out _) ?_
 refine hK.out _ _ (Box.alloc xc13 _) (fun _=>?_);clear hK K
 have NPs:=NP.out;have zz14:=xc13.lt
 refine F_gen (F:=fun W=>wpAnyH _ _ _ _ _ _ _ _ W) (J:=fun W=>Box W w.heap.size V∧Hid (W.ownsRow (w.heap.size + 1) 88 34 (.slice (some ⟨W13.heap.size,0,none⟩) 4 4) 4 P4)∧Below w.heap.size w W) (And.intro (Box.alloc xc13 _) (And.intro (Lib.hid (World.ownsRow_lit (base:=w.heap.size + 1) (size:=34) W13 P4.toArray 4 zz14 (by unfold maxLen;omega) (by simpa using NPs))) (Bc13.alloc sz14 _))) ?_
 intro W14 ⟨xc14,OR,Bc14⟩
 clear NPs xc13 Bc13 sz14 zz14
 refine takeH 14 3 (v:=?vt14_15) rfl (by rfl) (by kernel_rfl) (by kernel_rfl) (by kernel_rfl) (fun _ _ _ h=>h) (Or.inl ⟨by rfl,?_⟩) (xc14) ?_
 rotate_left
 · intro wq hSq
   go_simp
   exact rfl
 try simp only [Act.put,qzA,qz0,qzS]
 refine wpAnyH_done (by kernel_rfl) ?_ _
 have x_c1:=xc14;have hB1:=Bc14;have hs1:=hB1.size
 obtain ⟨R0,hR0⟩:∃ b,W13.heap.size=b:=⟨_,rfl⟩
 rw [hR0] at OR ⊢
 have O_r1:=OR
 clear xc14 Bc14 OR hR0
 go_wp2_with (refine wpList_load_rangew rfl _ _ rfl (Box.rangeMid x_c1 3 (LC) (R3) D3.out) rfl Tryz.underlying33 rfl SA.out ?_)
 refine wp_loop_rounds 5 ?_
 rw [rounds_succ]
 have d_m_c:=(x_c1).lt
 have d_m_0:=hs1
 go_upto_region 5 with (refine wpList_store_box (cs:=M0) rfl _ _ _ rfl (Box.newc (l:=Lm.zero.v) rfl rfl) rfl rfl SL0.out LL0.out OL0.out ?_;intro W1_0 hW1_0)
 have hN:Below W14.heap.size W14 W1_0:=(hW1_0.below _ _ (by omega) ((Below.refl _ W14).alloc (Nat.le_refl _) _))
 have x_m2:Box W1_0 (W14.heap.size) (M0):=hW1_0.box
 have O_r2:Hid (W1_0.ownsRow (w.heap.size + 1) 88 34 (.slice (some ⟨R0,0,none⟩) 4 4) (4) (P4)):=Lib.hid (ownR_below O_r1.out hN)
 clear O_r1
 have hB2:Below w.heap.size w W1_0:=below_thru hB1 hN
 have hs2:=hB2.size
 have x_c2:Box W1_0 (w.heap.size) (V):=Box.below x_c1 hN
 clear hB1 hs1 x_c1
 clear hN hW1_0
 have ca:=(x_m2).c 0 _ m00
 have za:=(x_m2).lt
 have cb:=(x_m2).c 1 _ m01
 have zb:=(x_m2).lt
 have cd:=(x_m2).c 2 _ m02
 have zd:=(x_m2).lt
 go_wp2_with fail
 clear ca za cb zb cd zd
 clear x_m2
 refine F_gen (F:=fun W=>Code.wp _ _ _ _ W) (J:=fun W=>Box W (w.heap.size) (V)∧Hid (W.ownsRow (w.heap.size + 1) 88 34 (.slice (some ⟨R0,0,none⟩) 4 4) (4) (P4))∧Box W (W1_0.heap.size) ([.int .i64 c.l0.b,.int .i64 c.l0.r,.int .i64 c.l0.p])∧Ty W (W1_0.heap.size) 2∧Below w.heap.size w W) (And.intro (x_c2.alloc _) (And.intro (Lib.hid ((O_r2.out.alloc _))) (And.intro (Box.newc rfl rfl) (And.intro (Ty.newc rfl) (hB2.alloc (by first | exact hs2 | (simp;omega)) _))))) ?_
 intro w3 ⟨x_c3,O_r3,x_n3,Y_n3,hB3⟩
 clear x_c2 O_r2 hB2 hs2
 have hs3:=hB3.size
 refine wp_loop_rounds 5 ?_
 rw [rounds_succ]
 have ca:=(x_n3).c 0 _ rfl
 have za:=(x_n3).lt
 go_wp2_with fail
 refine (CN4 _).mono ?_
 rintro e w4 ⟨rfl,hb⟩
 clear ca za
 have O_r4:Hid (w4.ownsRow (w.heap.size + 1) 88 34 (.slice (some ⟨R0,0,none⟩) 4 4) (4) (P4)):=Lib.hid (ownR_below O_r3.out hb)
 have Y_n4:Ty w4 (W1_0.heap.size) 2:=Ty.below Y_n3 hb
 clear O_r3 Y_n3
 have hB4:Below w.heap.size w w4:=below_thru hB3 hb
 have hs4:=hB4.size
 have x_c4:Box w4 (w.heap.size) (V):=Box.below x_c3 hb
 have x_n4:Box w4 (W1_0.heap.size) ([.int .i64 c.l0.b,.int .i64 c.l0.r,.int .i64 c.l0.p]):=Box.below x_n3 hb
 clear hB3 hs3 x_c3 x_n3
 clear hb
 have HOA:=World.ownsRow.alloc O_r4.out (.cells [V4].flatten.toArray 88)
 have HIR:IsR LF (w4.alloc (.cells [V4].flatten.toArray 88)) (.slice (some ⟨w4.heap.size,0,none⟩) 1 1) [f4]:=IsR.ofBox (Box.newc rfl rfl) EV4.out rfl (by decide)
 go_wp2_with (first | (refine wpList_bsliceN rfl 76 1 _ rfl (us:=#[(0,.agg V4.toArray)]) (by rfl) (HB40.out _) ?_) | (at_builtin;refine wpList_append_rows rfl LF _ _ 76 rfl (w.heap.size + 1) 88 ti (.agg Fd.zero.v.toArray) 34 48 rfl Tryz.underlying76 hin hz0 hz1 hz2 rfl _ 4 _ rfl HOA _ [f4] rfl HIR (by unfold maxLen;simp) (by simp) (by simp;omega) ?_;intro v_4 w_4 hown hgrow))
 have hKB:=(Below.refl (w.heap.size + 1) _).grown hgrow (by simp;omega) (ownR_block HOA)
 have x_c5:Box w_4 (w.heap.size) (V):=Box.keepR (x_c4.alloc _) hKB (by omega)
 obtain ⟨x_n5,Y_n5⟩:=Box.grownT (x_n4.alloc _) (Y_n4.alloc _) HOA (by decide) hgrow
 have hB5:Below w.heap.size w w_4:=(hB4.alloc hs4 _).grown hgrow (by simp;omega) (ownR_block (ownR_base HOA (by omega)))
 have O_r5:Hid (w_4.ownsRow (w.heap.size + 1) 88 34 (v_4) (5) (P5)):=Lib.hid ((by rw [← HE5.out];exact hown))
 clear x_c4 x_n4 Y_n4 O_r4 hB4 hs4 hKB
 have hs5:=hB5.size
 clear hown hgrow HOA HIR
 rw [rounds_succ]
 have ca:=(x_n5).c 1 _ rfl
 have za:=(x_n5).lt
 go_wp2_with fail
 refine (CN5 _).mono ?_
 rintro e w6 ⟨rfl,hb⟩
 clear ca za
 have O_r6:Hid (w6.ownsRow (w.heap.size + 1) 88 34 (v_4) (5) (P5)):=Lib.hid (ownR_below O_r5.out hb)
 have Y_n6:Ty w6 (W1_0.heap.size) 2:=Ty.below Y_n5 hb
 clear O_r5 Y_n5
 have hB6:Below w.heap.size w w6:=below_thru hB5 hb
 have hs6:=hB6.size
 have x_c6:Box w6 (w.heap.size) (V):=Box.below x_c5 hb
 have x_n6:Box w6 (W1_0.heap.size) ([.int .i64 c.l0.b,.int .i64 c.l0.r,.int .i64 c.l0.p]):=Box.below x_n5 hb
 clear hB5 hs5 x_c5 x_n5
 clear hb
 have HOA:=World.ownsRow.alloc O_r6.out (.cells [V5].flatten.toArray 88)
 have HIR:IsR LF (w6.alloc (.cells [V5].flatten.toArray 88)) (.slice (some ⟨w6.heap.size,0,none⟩) 1 1) [f5]:=IsR.ofBox (Box.newc rfl rfl) EV5.out rfl (by decide)
 go_wp2_with (first | (refine wpList_bsliceN rfl 76 1 _ rfl (us:=#[(0,.agg V5.toArray)]) (by rfl) (HB5.out _) ?_) | (at_builtin;refine wpList_append_rows rfl LF _ _ 76 rfl (w.heap.size + 1) 88 ti (.agg Fd.zero.v.toArray) 34 48 rfl Tryz.underlying76 hin hz0 hz1 hz2 rfl _ 5 _ rfl HOA _ [f5] rfl HIR (by unfold maxLen;simp) (by simp) (by simp;omega) ?_;intro v_5 w_5 hown hgrow))
 have hKB:=(Below.refl (w.heap.size + 1) _).grown hgrow (by simp;omega) (ownR_block HOA)
 have x_c7:Box w_5 (w.heap.size) (V):=Box.keepR (x_c6.alloc _) hKB (by omega)
 obtain ⟨x_n7,Y_n7⟩:=Box.grownT (x_n6.alloc _) (Y_n6.alloc _) HOA (by decide) hgrow
 have hB7:Below w.heap.size w w_5:=(hB6.alloc hs6 _).grown hgrow (by simp;omega) (ownR_block (ownR_base HOA (by omega)))
 have O_r7:Hid (w_5.ownsRow (w.heap.size + 1) 88 34 (v_5) (6) (P6)):=Lib.hid ((by rw [← HE6.out];exact hown))
 clear x_c6 x_n6 Y_n6 O_r6 hB6 hs6 hKB
 have hs7:=hB7.size
 clear hown hgrow HOA HIR
 rw [rounds_succ]
 have ca:=(x_n7).c 2 _ rfl
 have za:=(x_n7).lt
 go_wp2_with fail
 refine (CN6 _).mono ?_
 rintro e w8 ⟨rfl,hb⟩
 clear ca za
 have O_r8:Hid (w8.ownsRow (w.heap.size + 1) 88 34 (v_5) (6) (P6)):=Lib.hid (ownR_below O_r7.out hb)
 have Y_n8:Ty w8 (W1_0.heap.size) 2:=Ty.below Y_n7 hb
 clear O_r7 Y_n7
 have hB8:Below w.heap.size w w8:=below_thru hB7 hb
 have hs8:=hB8.size
 have x_c8:Box w8 (w.heap.size) (V):=Box.below x_c7 hb
 have x_n8:Box w8 (W1_0.heap.size) ([.int .i64 c.l0.b,.int .i64 c.l0.r,.int .i64 c.l0.p]):=Box.below x_n7 hb
 clear hB7 hs7 x_c7 x_n7
 clear hb
 have HOA:=World.ownsRow.alloc O_r8.out (.cells [V6].flatten.toArray 88)
 have HIR:IsR LF (w8.alloc (.cells [V6].flatten.toArray 88)) (.slice (some ⟨w8.heap.size,0,none⟩) 1 1) [f6]:=IsR.ofBox (Box.newc rfl rfl) EV6.out rfl (by decide)
 go_wp2_with (first | (refine wpList_bsliceN rfl 76 1 _ rfl (us:=#[(0,.agg V6.toArray)]) (by rfl) (HB6.out _) ?_) | (at_builtin;refine wpList_append_rows rfl LF _ _ 76 rfl (w.heap.size + 1) 88 ti (.agg Fd.zero.v.toArray) 34 48 rfl Tryz.underlying76 hin hz0 hz1 hz2 rfl _ 6 _ rfl HOA _ [f6] rfl HIR (by unfold maxLen;simp) (by simp) (by simp;omega) ?_;intro v_6 w_6 hown hgrow))
 have hKB:=(Below.refl (w.heap.size + 1) _).grown hgrow (by simp;omega) (ownR_block HOA)
 have x_c9:Box w_6 (w.heap.size) (V):=Box.keepR (x_c8.alloc _) hKB (by omega)
 obtain ⟨x_n9,Y_n9⟩:=Box.grownT (x_n8.alloc _) (Y_n8.alloc _) HOA (by decide) hgrow
 have hB9:Below w.heap.size w w_6:=(hB8.alloc hs8 _).grown hgrow (by simp;omega) (ownR_block (ownR_base HOA (by omega)))
 have O_r9:Hid (w_6.ownsRow (w.heap.size + 1) 88 34 (v_6) (7) (P7)):=Lib.hid ((by rw [← HE7.out];exact hown))
 clear x_c8 x_n8 Y_n8 O_r8 hB8 hs8 hKB
 have hs9:=hB9.size
 clear hown hgrow HOA HIR
 rw [rounds_succ]
 go_wp2_with fail
 clear Y_n9
 clear x_n9
 rw [rounds_succ]
 have d_m_c:=(x_c9).lt
 have d_m_0:=hs9
 go_upto_region 5 with (refine wpList_store_box (cs:=M1) rfl _ _ _ rfl (Box.newc (l:=Lm.zero.v) rfl rfl) rfl rfl SL1.out LL1.out OL1.out ?_;intro W9_0 hW9_0)
 have hN:Below w_6.heap.size w_6 W9_0:=(hW9_0.below _ _ (by omega) ((Below.refl _ w_6).alloc (Nat.le_refl _) _))
 have x_m10:Box W9_0 (w_6.heap.size) (M1):=hW9_0.box
 have O_r10:Hid (W9_0.ownsRow (w.heap.size + 1) 88 34 (v_6) (7) (P7)):=Lib.hid (ownR_below O_r9.out hN)
 clear O_r9
 have hB10:Below w.heap.size w W9_0:=below_thru hB9 hN
 have hs10:=hB10.size
 have x_c10:Box W9_0 (w.heap.size) (V):=Box.below x_c9 hN
 clear hB9 hs9 x_c9
 clear hN hW9_0
 have ca:=(x_m10).c 0 _ m10
 have za:=(x_m10).lt
 have cb:=(x_m10).c 1 _ m11
 have zb:=(x_m10).lt
 have cd:=(x_m10).c 2 _ m12
 have zd:=(x_m10).lt
 go_wp2_with fail
 clear ca za cb zb cd zd
 clear x_m10
 refine F_gen (F:=fun W=>Code.wp _ _ _ _ W) (J:=fun W=>Box W (w.heap.size) (V)∧Hid (W.ownsRow (w.heap.size + 1) 88 34 (v_6) (7) (P7))∧Box W (W9_0.heap.size) ([.int .i64 c.l1.b,.int .i64 c.l1.r,.int .i64 c.l1.p])∧Ty W (W9_0.heap.size) 2∧Below w.heap.size w W) (And.intro (x_c10.alloc _) (And.intro (Lib.hid ((O_r10.out.alloc _))) (And.intro (Box.newc rfl rfl) (And.intro (Ty.newc rfl) (hB10.alloc (by first | exact hs10 | (simp;omega)) _))))) ?_
 intro w11 ⟨x_c11,O_r11,x_n11,Y_n11,hB11⟩
 clear x_c10 O_r10 hB10 hs10
 have hs11:=hB11.size
 refine wp_loop_rounds 5 ?_
 rw [rounds_succ]
 have ca:=(x_n11).c 0 _ rfl
 have za:=(x_n11).lt
 go_wp2_with fail
 refine (CN7 _).mono ?_
 rintro e w12 ⟨rfl,hb⟩
 clear ca za
 have O_r12:Hid (w12.ownsRow (w.heap.size + 1) 88 34 (v_6) (7) (P7)):=Lib.hid (ownR_below O_r11.out hb)
 have Y_n12:Ty w12 (W9_0.heap.size) 2:=Ty.below Y_n11 hb
 clear O_r11 Y_n11
 have hB12:Below w.heap.size w w12:=below_thru hB11 hb
 have hs12:=hB12.size
 have x_c12:Box w12 (w.heap.size) (V):=Box.below x_c11 hb
 have x_n12:Box w12 (W9_0.heap.size) ([.int .i64 c.l1.b,.int .i64 c.l1.r,.int .i64 c.l1.p]):=Box.below x_n11 hb
 clear hB11 hs11 x_c11 x_n11
 clear hb
 have HOA:=World.ownsRow.alloc O_r12.out (.cells [V7].flatten.toArray 88)
 have HIR:IsR LF (w12.alloc (.cells [V7].flatten.toArray 88)) (.slice (some ⟨w12.heap.size,0,none⟩) 1 1) [f7]:=IsR.ofBox (Box.newc rfl rfl) EV7.out rfl (by decide)
 go_wp2_with (first | (refine wpList_bsliceN rfl 76 1 _ rfl (us:=#[(0,.agg V7.toArray)]) (by rfl) (HB7.out _) ?_) | (at_builtin;refine wpList_append_rows rfl LF _ _ 76 rfl (w.heap.size + 1) 88 ti (.agg Fd.zero.v.toArray) 34 48 rfl Tryz.underlying76 hin hz0 hz1 hz2 rfl _ 7 _ rfl HOA _ [f7] rfl HIR (by unfold maxLen;simp) (by simp) (by simp;omega) ?_;intro v_7 w_7 hown hgrow))
 have hKB:=(Below.refl (w.heap.size + 1) _).grown hgrow (by simp;omega) (ownR_block HOA)
 have x_c13:Box w_7 (w.heap.size) (V):=Box.keepR (x_c12.alloc _) hKB (by omega)
 obtain ⟨x_n13,Y_n13⟩:=Box.grownT (x_n12.alloc _) (Y_n12.alloc _) HOA (by decide) hgrow
 have hB13:Below w.heap.size w w_7:=(hB12.alloc hs12 _).grown hgrow (by simp;omega) (ownR_block (ownR_base HOA (by omega)))
 have O_r13:Hid (w_7.ownsRow (w.heap.size + 1) 88 34 (v_7) (8) (P8)):=Lib.hid ((by rw [← HE8.out];exact hown))
 clear x_c12 x_n12 Y_n12 O_r12 hB12 hs12 hKB
 have hs13:=hB13.size
 clear hown hgrow HOA HIR
 rw [rounds_succ]
 have ca:=(x_n13).c 1 _ rfl
 have za:=(x_n13).lt
 go_wp2_with fail
 refine (CN8 _).mono ?_
 rintro e w14 ⟨rfl,hb⟩
 clear ca za
 have O_r14:Hid (w14.ownsRow (w.heap.size + 1) 88 34 (v_7) (8) (P8)):=Lib.hid (ownR_below O_r13.out hb)
 have Y_n14:Ty w14 (W9_0.heap.size) 2:=Ty.below Y_n13 hb
 clear O_r13 Y_n13
 have hB14:Below w.heap.size w w14:=below_thru hB13 hb
 have hs14:=hB14.size
 have x_c14:Box w14 (w.heap.size) (V):=Box.below x_c13 hb
 have x_n14:Box w14 (W9_0.heap.size) ([.int .i64 c.l1.b,.int .i64 c.l1.r,.int .i64 c.l1.p]):=Box.below x_n13 hb
 clear hB13 hs13 x_c13 x_n13
 clear hb
 have HOA:=World.ownsRow.alloc O_r14.out (.cells [V8].flatten.toArray 88)
 have HIR:IsR LF (w14.alloc (.cells [V8].flatten.toArray 88)) (.slice (some ⟨w14.heap.size,0,none⟩) 1 1) [f8]:=IsR.ofBox (Box.newc rfl rfl) EV8.out rfl (by decide)
 go_wp2_with (first | (refine wpList_bsliceN rfl 76 1 _ rfl (us:=#[(0,.agg V8.toArray)]) (by rfl) (HB8.out _) ?_) | (at_builtin;refine wpList_append_rows rfl LF _ _ 76 rfl (w.heap.size + 1) 88 ti (.agg Fd.zero.v.toArray) 34 48 rfl Tryz.underlying76 hin hz0 hz1 hz2 rfl _ 8 _ rfl HOA _ [f8] rfl HIR (by unfold maxLen;simp) (by simp) (by simp;omega) ?_;intro v_8 w_8 hown hgrow))
 have hKB:=(Below.refl (w.heap.size + 1) _).grown hgrow (by simp;omega) (ownR_block HOA)
 have x_c15:Box w_8 (w.heap.size) (V):=Box.keepR (x_c14.alloc _) hKB (by omega)
 obtain ⟨x_n15,Y_n15⟩:=Box.grownT (x_n14.alloc _) (Y_n14.alloc _) HOA (by decide) hgrow
 have hB15:Below w.heap.size w w_8:=(hB14.alloc hs14 _).grown hgrow (by simp;omega) (ownR_block (ownR_base HOA (by omega)))
 have O_r15:Hid (w_8.ownsRow (w.heap.size + 1) 88 34 (v_8) (9) (P9)):=Lib.hid ((by rw [← HE9.out];exact hown))
 clear x_c14 x_n14 Y_n14 O_r14 hB14 hs14 hKB
 have hs15:=hB15.size
 clear hown hgrow HOA HIR
 rw [rounds_succ]
 have ca:=(x_n15).c 2 _ rfl
 have za:=(x_n15).lt
 go_wp2_with fail
 refine (CN9 _).mono ?_
 rintro e w16 ⟨rfl,hb⟩
 clear ca za
 have O_r16:Hid (w16.ownsRow (w.heap.size + 1) 88 34 (v_8) (9) (P9)):=Lib.hid (ownR_below O_r15.out hb)
 have Y_n16:Ty w16 (W9_0.heap.size) 2:=Ty.below Y_n15 hb
 clear O_r15 Y_n15
 have hB16:Below w.heap.size w w16:=below_thru hB15 hb
 have hs16:=hB16.size
 have x_c16:Box w16 (w.heap.size) (V):=Box.below x_c15 hb
 have x_n16:Box w16 (W9_0.heap.size) ([.int .i64 c.l1.b,.int .i64 c.l1.r,.int .i64 c.l1.p]):=Box.below x_n15 hb
 clear hB15 hs15 x_c15 x_n15
 clear hb
 have HOA:=World.ownsRow.alloc O_r16.out (.cells [V9].flatten.toArray 88)
 have HIR:IsR LF (w16.alloc (.cells [V9].flatten.toArray 88)) (.slice (some ⟨w16.heap.size,0,none⟩) 1 1) [f9]:=IsR.ofBox (Box.newc rfl rfl) EV9.out rfl (by decide)
 go_wp2_with (first | (refine wpList_bsliceN rfl 76 1 _ rfl (us:=#[(0,.agg V9.toArray)]) (by rfl) (HB9.out _) ?_) | (at_builtin;refine wpList_append_rows rfl LF _ _ 76 rfl (w.heap.size + 1) 88 ti (.agg Fd.zero.v.toArray) 34 48 rfl Tryz.underlying76 hin hz0 hz1 hz2 rfl _ 9 _ rfl HOA _ [f9] rfl HIR (by unfold maxLen;simp) (by simp) (by simp;omega) ?_;intro v_9 w_9 hown hgrow))
 have hKB:=(Below.refl (w.heap.size + 1) _).grown hgrow (by simp;omega) (ownR_block HOA)
 have x_c17:Box w_9 (w.heap.size) (V):=Box.keepR (x_c16.alloc _) hKB (by omega)
 obtain ⟨x_n17,Y_n17⟩:=Box.grownT (x_n16.alloc _) (Y_n16.alloc _) HOA (by decide) hgrow
 have hB17:Below w.heap.size w w_9:=(hB16.alloc hs16 _).grown hgrow (by simp;omega) (ownR_block (ownR_base HOA (by omega)))
 have O_r17:Hid (w_9.ownsRow (w.heap.size + 1) 88 34 (v_9) (10) (P10)):=Lib.hid ((by rw [← HE10.out];exact hown))
 clear x_c16 x_n16 Y_n16 O_r16 hB16 hs16 hKB
 have hs17:=hB17.size
 clear hown hgrow HOA HIR
 rw [rounds_succ]
 go_wp2_with fail
 clear Y_n17
 clear x_n17
 rw [rounds_succ]
 have d_m_c:=(x_c17).lt
 have d_m_0:=hs17
 go_upto_region 5 with (refine wpList_store_box (cs:=M2) rfl _ _ _ rfl (Box.newc (l:=Lm.zero.v) rfl rfl) rfl rfl SL2.out LL2.out OL2.out ?_;intro W17_0 hW17_0)
 have hN:Below w_9.heap.size w_9 W17_0:=(hW17_0.below _ _ (by omega) ((Below.refl _ w_9).alloc (Nat.le_refl _) _))
 have x_m18:Box W17_0 (w_9.heap.size) (M2):=hW17_0.box
 have O_r18:Hid (W17_0.ownsRow (w.heap.size + 1) 88 34 (v_9) (10) (P10)):=Lib.hid (ownR_below O_r17.out hN)
 clear O_r17
 have hB18:Below w.heap.size w W17_0:=below_thru hB17 hN
 have hs18:=hB18.size
 have x_c18:Box W17_0 (w.heap.size) (V):=Box.below x_c17 hN
 clear hB17 hs17 x_c17
 clear hN hW17_0
 have ca:=(x_m18).c 0 _ m20
 have za:=(x_m18).lt
 have cb:=(x_m18).c 1 _ m21
 have zb:=(x_m18).lt
 have cd:=(x_m18).c 2 _ m22
 have zd:=(x_m18).lt
 go_wp2_with fail
 clear ca za cb zb cd zd
 clear x_m18
 refine F_gen (F:=fun W=>Code.wp _ _ _ _ W) (J:=fun W=>Box W (w.heap.size) (V)∧Hid (W.ownsRow (w.heap.size + 1) 88 34 (v_9) (10) (P10))∧Box W (W17_0.heap.size) ([.int .i64 c.l2.b,.int .i64 c.l2.r,.int .i64 c.l2.p])∧Ty W (W17_0.heap.size) 2∧Below w.heap.size w W) (And.intro (x_c18.alloc _) (And.intro (Lib.hid ((O_r18.out.alloc _))) (And.intro (Box.newc rfl rfl) (And.intro (Ty.newc rfl) (hB18.alloc (by first | exact hs18 | (simp;omega)) _))))) ?_
 intro w19 ⟨x_c19,O_r19,x_n19,Y_n19,hB19⟩
 clear x_c18 O_r18 hB18 hs18
 have hs19:=hB19.size
 refine wp_loop_rounds 5 ?_
 rw [rounds_succ]
 have ca:=(x_n19).c 0 _ rfl
 have za:=(x_n19).lt
 go_wp2_with fail
 refine (CN10 _).mono ?_
 rintro e w20 ⟨rfl,hb⟩
 clear ca za
 have O_r20:Hid (w20.ownsRow (w.heap.size + 1) 88 34 (v_9) (10) (P10)):=Lib.hid (ownR_below O_r19.out hb)
 have Y_n20:Ty w20 (W17_0.heap.size) 2:=Ty.below Y_n19 hb
 clear O_r19 Y_n19
 have hB20:Below w.heap.size w w20:=below_thru hB19 hb
 have hs20:=hB20.size
 have x_c20:Box w20 (w.heap.size) (V):=Box.below x_c19 hb
 have x_n20:Box w20 (W17_0.heap.size) ([.int .i64 c.l2.b,.int .i64 c.l2.r,.int .i64 c.l2.p]):=Box.below x_n19 hb
 clear hB19 hs19 x_c19 x_n19
 clear hb
 have HOA:=World.ownsRow.alloc O_r20.out (.cells [V10].flatten.toArray 88)
 have HIR:IsR LF (w20.alloc (.cells [V10].flatten.toArray 88)) (.slice (some ⟨w20.heap.size,0,none⟩) 1 1) [f10]:=IsR.ofBox (Box.newc rfl rfl) EV10.out rfl (by decide)
 go_wp2_with (first | (refine wpList_bsliceN rfl 76 1 _ rfl (us:=#[(0,.agg V10.toArray)]) (by rfl) (HB10.out _) ?_) | (at_builtin;refine wpList_append_rows rfl LF _ _ 76 rfl (w.heap.size + 1) 88 ti (.agg Fd.zero.v.toArray) 34 48 rfl Tryz.underlying76 hin hz0 hz1 hz2 rfl _ 10 _ rfl HOA _ [f10] rfl HIR (by unfold maxLen;simp) (by simp) (by simp;omega) ?_;intro v_10 w_10 hown hgrow))
 have hKB:=(Below.refl (w.heap.size + 1) _).grown hgrow (by simp;omega) (ownR_block HOA)
 have x_c21:Box w_10 (w.heap.size) (V):=Box.keepR (x_c20.alloc _) hKB (by omega)
 obtain ⟨x_n21,Y_n21⟩:=Box.grownT (x_n20.alloc _) (Y_n20.alloc _) HOA (by decide) hgrow
 have hB21:Below w.heap.size w w_10:=(hB20.alloc hs20 _).grown hgrow (by simp;omega) (ownR_block (ownR_base HOA (by omega)))
 have O_r21:Hid (w_10.ownsRow (w.heap.size + 1) 88 34 (v_10) (11) (P11)):=Lib.hid ((by rw [← HE11.out];exact hown))
 clear x_c20 x_n20 Y_n20 O_r20 hB20 hs20 hKB
 have hs21:=hB21.size
 clear hown hgrow HOA HIR
 rw [rounds_succ]
 have ca:=(x_n21).c 1 _ rfl
 have za:=(x_n21).lt
 go_wp2_with fail
 refine (CN11 _).mono ?_
 rintro e w22 ⟨rfl,hb⟩
 clear ca za
 have O_r22:Hid (w22.ownsRow (w.heap.size + 1) 88 34 (v_10) (11) (P11)):=Lib.hid (ownR_below O_r21.out hb)
 have Y_n22:Ty w22 (W17_0.heap.size) 2:=Ty.below Y_n21 hb
 clear O_r21 Y_n21
 have hB22:Below w.heap.size w w22:=below_thru hB21 hb
 have hs22:=hB22.size
 have x_c22:Box w22 (w.heap.size) (V):=Box.below x_c21 hb
 have x_n22:Box w22 (W17_0.heap.size) ([.int .i64 c.l2.b,.int .i64 c.l2.r,.int .i64 c.l2.p]):=Box.below x_n21 hb
 clear hB21 hs21 x_c21 x_n21
 clear hb
 have HOA:=World.ownsRow.alloc O_r22.out (.cells [V11].flatten.toArray 88)
 have HIR:IsR LF (w22.alloc (.cells [V11].flatten.toArray 88)) (.slice (some ⟨w22.heap.size,0,none⟩) 1 1) [f11]:=IsR.ofBox (Box.newc rfl rfl) EV11.out rfl (by decide)
 go_wp2_with (first | (refine wpList_bsliceN rfl 76 1 _ rfl (us:=#[(0,.agg V11.toArray)]) (by rfl) (HB11.out _) ?_) | (at_builtin;refine wpList_append_rows rfl LF _ _ 76 rfl (w.heap.size + 1) 88 ti (.agg Fd.zero.v.toArray) 34 48 rfl Tryz.underlying76 hin hz0 hz1 hz2 rfl _ 11 _ rfl HOA _ [f11] rfl HIR (by unfold maxLen;simp) (by simp) (by simp;omega) ?_;intro v_11 w_11 hown hgrow))
 have hKB:=(Below.refl (w.heap.size + 1) _).grown hgrow (by simp;omega) (ownR_block HOA)
 have x_c23:Box w_11 (w.heap.size) (V):=Box.keepR (x_c22.alloc _) hKB (by omega)
 obtain ⟨x_n23,Y_n23⟩:=Box.grownT (x_n22.alloc _) (Y_n22.alloc _) HOA (by decide) hgrow
 have hB23:Below w.heap.size w w_11:=(hB22.alloc hs22 _).grown hgrow (by simp;omega) (ownR_block (ownR_base HOA (by omega)))
 have O_r23:Hid (w_11.ownsRow (w.heap.size + 1) 88 34 (v_11) (12) (P12)):=Lib.hid ((by rw [← HE12.out];exact hown))
 clear x_c22 x_n22 Y_n22 O_r22 hB22 hs22 hKB
 have hs23:=hB23.size
 clear hown hgrow HOA HIR
 rw [rounds_succ]
 have ca:=(x_n23).c 2 _ rfl
 have za:=(x_n23).lt
 go_wp2_with fail
 refine (CN12 _).mono ?_
 rintro e w24 ⟨rfl,hb⟩
 clear ca za
 have O_r24:Hid (w24.ownsRow (w.heap.size + 1) 88 34 (v_11) (12) (P12)):=Lib.hid (ownR_below O_r23.out hb)
 have Y_n24:Ty w24 (W17_0.heap.size) 2:=Ty.below Y_n23 hb
 clear O_r23 Y_n23
 have hB24:Below w.heap.size w w24:=below_thru hB23 hb
 have hs24:=hB24.size
 have x_c24:Box w24 (w.heap.size) (V):=Box.below x_c23 hb
 have x_n24:Box w24 (W17_0.heap.size) ([.int .i64 c.l2.b,.int .i64 c.l2.r,.int .i64 c.l2.p]):=Box.below x_n23 hb
 clear hB23 hs23 x_c23 x_n23
 clear hb
 have HOA:=World.ownsRow.alloc O_r24.out (.cells [V12].flatten.toArray 88)
 have HIR:IsR LF (w24.alloc (.cells [V12].flatten.toArray 88)) (.slice (some ⟨w24.heap.size,0,none⟩) 1 1) [f12]:=IsR.ofBox (Box.newc rfl rfl) EV12.out rfl (by decide)
 go_wp2_with (first | (refine wpList_bsliceN rfl 76 1 _ rfl (us:=#[(0,.agg V12.toArray)]) (by rfl) (HB12.out _) ?_) | (at_builtin;refine wpList_append_rows rfl LF _ _ 76 rfl (w.heap.size + 1) 88 ti (.agg Fd.zero.v.toArray) 34 48 rfl Tryz.underlying76 hin hz0 hz1 hz2 rfl _ 12 _ rfl HOA _ [f12] rfl HIR (by unfold maxLen;simp) (by simp) (by simp;omega) ?_;intro v_12 w_12 hown hgrow))
 have hKB:=(Below.refl (w.heap.size + 1) _).grown hgrow (by simp;omega) (ownR_block HOA)
 have x_c25:Box w_12 (w.heap.size) (V):=Box.keepR (x_c24.alloc _) hKB (by omega)
 obtain ⟨x_n25,Y_n25⟩:=Box.grownT (x_n24.alloc _) (Y_n24.alloc _) HOA (by decide) hgrow
 have hB25:Below w.heap.size w w_12:=(hB24.alloc hs24 _).grown hgrow (by simp;omega) (ownR_block (ownR_base HOA (by omega)))
 have O_r25:Hid (w_12.ownsRow (w.heap.size + 1) 88 34 (v_12) (13) (P13)):=Lib.hid ((by rw [← HE13.out];exact hown))
 clear x_c24 x_n24 Y_n24 O_r24 hB24 hs24 hKB
 have hs25:=hB25.size
 clear hown hgrow HOA HIR
 rw [rounds_succ]
 go_wp2_with fail
 clear Y_n25
 clear x_n25
 rw [rounds_succ]
 go_upto_region 11 with fail
 refine wp_region_held_drew (S:=fun W=>Box W w.heap.size V) (by kernel_rfl) (x_c25).drew (fun _=>?_)
 refine F_drew (F:=fun W=>wpAnyH _ _ _ _ _ _ _ _ W) ?_
 intro W0 hb0
 have xc0:=x_c25.below hb0;have Bc0:=below_thru hB25 hb0;have Oc0:=Lib.hid (ownR_below O_r25.out hb0)
 clear x_c25 hB25 O_r25 hs25 hb0
 refine takeH 0 47 (v:=?vz0_1) rfl (by rfl) (by kernel_rfl) (by kernel_rfl) (by kernel_rfl) (fun _ _ _ h=>h) (Or.inl ⟨by rfl,?_⟩) (xc0) ?_
 rotate_left
 · intro wq hSq
   go_simp
   exact rfl
 try simp only [Act.put,qzA,qz0,qzS]
 refine takeH 1 48 (v:=?vz1_2) rfl (by rfl) (by kernel_rfl) (by kernel_rfl) (by kernel_rfl) (fun _ _ _ h=>h) (Or.inl ⟨by rfl,?_⟩) (xc0) ?_
 rotate_left
 · intro wq hSq
   go_simp
   exact rfl
 try simp only [Act.put,qzA,qz0,qzS]
 refine takeH 2 49 (v:=?vz2_3) rfl (by rfl) (by kernel_rfl) (by kernel_rfl) (by kernel_rfl) (fun _ _ _ h=>h) (Or.inl ⟨by rfl,?_⟩) (xc0) ?_
 rotate_left
 · intro wq hSq
   have cq:=hSq.c 12 _ v12
   have zq:=lt_of_cell cq
   go_simp
   exact rfl
 try simp only [Act.put,qzA,qz0,qzS]
 refine takeH 3 50 (v:=?vz3_4) rfl (by rfl) (by kernel_rfl) (by kernel_rfl) (by kernel_rfl) (fun _ _ _ h=>h) (Or.inl ⟨by rfl,?_⟩) (xc0) ?_
 rotate_left
 · intro wq hSq
   go_simp
   exact rfl
 try simp only [Act.put,qzA,qz0,qzS]
 refine takeH 5 52 (v:=?vz5_5) rfl (by rfl) (by kernel_rfl) (by kernel_rfl) (by kernel_rfl) (fun _ _ _ h=>h) (Or.inl ⟨by rfl,?_⟩) (xc0) ?_
 rotate_left
 · intro wq hSq
   go_simp
   exact rfl
 try simp only [Act.put,qzA,qz0,qzS]
 refine takeH 6 53 (v:=?vz6_6) rfl (by rfl) (by kernel_rfl) (by kernel_rfl) (by kernel_rfl) (fun _ _ _ h=>h) (Or.inl ⟨by rfl,?_⟩) (xc0) ?_
 rotate_left
 · intro wq hSq
   have cq:=hSq.c 13 _ v13
   have zq:=lt_of_cell cq
   go_simp
   exact rfl
 try simp only [Act.put,qzA,qz0,qzS]
 refine takeH 7 54 (v:=?vz7_7) rfl (by rfl) (by kernel_rfl) (by kernel_rfl) (by kernel_rfl) (fun _ _ _ h=>h) (Or.inl ⟨by rfl,?_⟩) (xc0) ?_
 rotate_left
 · intro wq hSq
   go_simp
   exact rfl
 try simp only [Act.put,qzA,qz0,qzS]
 refine takeH 9 56 (v:=?vz9_8) rfl (by rfl) (by kernel_rfl) (by kernel_rfl) (by kernel_rfl) (fun _ _ _ h=>h) (Or.inl ⟨by rfl,?_⟩) (xc0) ?_
 rotate_left
 · intro wq hSq
   go_simp
   exact rfl
 try simp only [Act.put,qzA,qz0,qzS]
 refine takeH 10 57 (v:=?vz10_9) rfl (by rfl) (by kernel_rfl) (by kernel_rfl) (by kernel_rfl) (fun _ _ _ h=>h) (Or.inl ⟨by rfl,?_⟩) (xc0) ?_
 rotate_left
 · intro wq hSq
   have cq:=hSq.c 14 _ v14
   have zq:=lt_of_cell cq
   go_simp
   exact rfl
 try simp only [Act.put,qzA,qz0,qzS]
 refine wpAnyH_ready (rs:=[4]) (by kernel_rfl) (by simp) (AllReadyH.cons rfl (fun K hK=>?_) AllReadyH.nil)
 go_simp
 refine (CN13 _).mono ?_
 rintro e W10 ⟨rfl,hb10⟩
 have xc10:=Box.below xc0 hb10;have Bc10:=below_thru Bc0 hb10;have Oc10:=Lib.hid (ownR_below Oc0.out hb10)
 clear xc0 Bc0 Oc0 hb10
 refine hK.out _ _ xc10 (fun _=>?_);clear hK K
 refine wpAnyH_ready (rs:=[8]) (by kernel_rfl) (by simp) (AllReadyH.cons rfl (fun K hK=>?_) AllReadyH.nil)
 go_simp
 refine (CN14 _).mono ?_
 rintro e W11 ⟨rfl,hb11⟩
 have xc11:=Box.below xc10 hb11;have Bc11:=below_thru Bc10 hb11;have Oc11:=Lib.hid (ownR_below Oc10.out hb11)
 clear xc10 Bc10 Oc10 hb11
 refine hK.out _ _ xc11 (fun _=>?_);clear hK K
 refine wpAnyH_ready (rs:=[11]) (by kernel_rfl) (by simp) (AllReadyH.cons rfl (fun K hK=>?_) AllReadyH.nil)
 go_simp
 refine (CN15 _).mono ?_
 rintro e W12 ⟨rfl,hb12⟩
 have xc12:=Box.below xc11 hb12;have Bc12:=below_thru Bc11 hb12;have Oc12:=Lib.hid (ownR_below Oc11.out hb12)
 clear xc11 Bc11 Oc11 hb12
 refine hK.out _ _ xc12 (fun _=>?_);clear hK K
 refine wpAnyH_ready (rs:=[12]) (by kernel_rfl) (by simp) (AllReadyH.cons rfl (fun K hK=>?_) AllReadyH.nil)
 refine step_bsliceH 59 rfl rfl 76 3 _ rfl (us:=#[(0,.agg V13.toArray),(1,.agg V14.toArray),(2,.agg V15.toArray)]) (by rfl) (HB3.out _) ?_
 refine hK.out _ _ (Box.alloc xc12 _) (fun _=>?_);clear hK K
 refine F_gen (F:=fun W=>wpAnyH _ _ _ _ _ _ _ _ W) (J:=fun W=>IsR LF W (.slice (some ⟨W12.heap.size,0,none⟩) 3 3) [f13,f14,f15]∧Below W12.heap.size W12 W) (And.intro (IsR.ofBox (Box.newc rfl rfl) HR3.out rfl (by decide)) ((Below.refl _ _).alloc (Nat.le_refl _) _)) ?_
 intro W13 ⟨hIR,hb13⟩
 have xc13:=Box.below xc12 hb13;have Bc13:=below_thru Bc12 hb13;have Oc13:=Lib.hid (ownR_below Oc12.out hb13)
 clear xc12 Bc12 Oc12 hb13
 refine wpAnyH_ready (rs:=[13]) (by kernel_rfl) (by simp) (AllReadyH.cons rfl (fun K hK=>?_) AllReadyH.nil)
 have sz14:=xc13.lt
 refine step_append_rowsd 60 rfl rfl LF _ _ 76 rfl (w.heap.size + 1) 88 ti (.agg Fd.zero.v.toArray) 34 48 rfl Tryz.underlying76 hin hz0 hz1 hz2 rfl _ 13 _ rfl Oc13.out _ [f13,f14,f15] rfl hIR (by unfold maxLen;simp) (by simp) sz14 ?_
 intro v9 W14 hown hb14
 have Bc14:=Bc13.trans (hb14.mono (Nat.le_succ _))
 have xc14:=Box.keepR xc13 hb14 (Nat.lt_succ_self _)
 refine hK.out _ _ xc14 (fun _=>?_);clear hK K
 refine takeH 14 2 (v:=?vz14_15) rfl (by rfl) (by kernel_rfl) (by kernel_rfl) (by kernel_rfl) (fun _ _ _ h=>h) (Or.inl ⟨by rfl,?_⟩) (xc14) ?_
 rotate_left
 · intro wq hSq
   go_simp
   exact rfl
 try simp only [Act.put,qzA,qz0,qzS]
 refine wpAnyH_done (by kernel_rfl) ?_ _
 have hown9:=hown
 rw [HP.out] at hown9
 clear hown
 go_wp2_with fail
 go_returns
 exact ⟨v9,rfl,IsR.own hown9 rfl NC.out.symm,Bc14⟩
end Go.Proofs.YtnfejdfjlnpldaaGreatDoor
namespace Go.Proofs.YtnfejdfjlnpldaaGreatDoor
open Go.RowKit
set_option maxRecDepth 100000 in
set_option maxHeartbeats 1600000 in
theorem msg_is (c:Cmd) (hw:c.wd) (w:World):Calls Tryz.prog 22 #[.agg (ccell c).toArray] w (GivesL c.msg w):=by
 have SV:=Lib.hid (size_cmd c)
 have MR:=fun W=>mrow_is c hw W
 have WR:=fun (W:World) (v:Value) (h:IsR LF W v (crow c))=>fwrite_is W h
 rw [rowV_ok (crow_e hw),crow_e hw,crow_b hw] at WR
 obtain ⟨V,hV⟩:∃ V,ccell c=V:=⟨_,rfl⟩
 rw [hV] at SV MR ⊢
 clear hV hw
 go_enter Tryz.func22,Tryz.ntmps22
 go_upto_region 1 with fail
 refine F_gen (F:=fun W=>Code.wp _ _ _ _ W) (J:=fun W=>Box W (w.heap.size) (V)∧Below w.heap.size w W) (And.intro (Box.newc rfl rfl) (by go_grown)) ?_
 intro w0 ⟨e_c,hB0⟩
 have hs0:=hB0.size
 have x_c0:=e_c;clear e_c
 go_wp2_with (refine wpList_load_box9 rfl _ _ rfl x_c0 rfl Tryz.underlying35 rfl SV.out ?_)
 refine (MR _).mono ?_
 rintro e w1 ⟨vr,rfl,hr,hb1⟩
 have hB1:=below_thru hB0 hb1
 go_wp2_with fail
 refine (WR _ _ hr).mono ?_
 rintro e w2 ⟨vm,rfl,hm,hb2⟩
 have hB2:=below_thru hB1 hb2
 clear hr
 go_wp2_with fail
 go_returns
 exact ⟨vm,rfl,hm,hB2⟩
def GivesE (xs:List Int) (q:Int) (w:World) (e:Ending) (w':World):Prop:=∃ v,e=.returned (.tuple #[v,.int .i64 q])∧IsL w' .u8 v xs∧Below w.heap.size w w'
set_option maxRecDepth 100000 in
set_option maxHeartbeats 1600000 in
theorem bef_t (c:Cmd) (h:c.Ok) (w:World):Calls Tryz.prog 28 #[.agg (ccell c).toArray] w (GivesE c.msg 0 w):=by
 have SV:=Lib.hid (size_cmd c)
 have IC:=fun W=>isc_is c (q:=true) (Lib.hid ⟨fun _=>rfl,fun _=>h⟩) W
 have MR:=fun W=>msg_is c (Cmd.ok_wd h) W
 obtain ⟨V,hV⟩:∃ V,ccell c=V:=⟨_,rfl⟩
 rw [hV] at SV MR IC ⊢
 clear hV h
 go_enter Tryz.func28,Tryz.ntmps28
 go_upto_region 1 with fail
 refine F_gen (F:=fun W=>Code.wp _ _ _ _ W) (J:=fun W=>Box W (w.heap.size) (V)∧Below w.heap.size w W) (And.intro (Box.newc rfl rfl) (by go_grown)) ?_
 intro w0 ⟨e_c,hB0⟩
 have hs0:=hB0.size
 have x_c0:=e_c;clear e_c
 go_wp2_with (refine wpList_load_box9 rfl _ _ rfl x_c0 rfl Tryz.underlying35 rfl SV.out ?_)
 refine (IC _).mono ?_
 rintro e w1 ⟨rfl,hb⟩
 clear IC
 have hB1:Below w.heap.size w w1:=below_thru hB0 hb
 have hs1:=hB1.size
 have x_c1:Box w1 (w.heap.size) (V):=Box.below x_c0 hb
 clear hB0 hs0 x_c0
 clear hb
 go_wp2_with (refine wpList_load_box9 rfl _ _ rfl x_c1 rfl Tryz.underlying35 rfl SV.out ?_)
 refine (MR _).mono ?_
 rintro e w2 ⟨vr,rfl,hr,hb2⟩
 have hB2:=below_thru hB1 hb2
 go_wp2_with fail
 go_returns
 exact ⟨vr,rfl,hr,hB2⟩
set_option maxRecDepth 100000 in
set_option maxHeartbeats 1600000 in
theorem bef_f (c:Cmd) (h:¬ c.Ok) (w:World):Calls Tryz.prog 28 #[.agg (ccell c).toArray] w (GivesE [] 8 w):=by
 have SV:=Lib.hid (size_cmd c)
 have IC:=fun W=>isc_is c (q:=false) (Lib.hid ⟨fun g=>absurd g h,fun g=>by cases g⟩) W
 obtain ⟨V,hV⟩:∃ V,ccell c=V:=⟨_,rfl⟩
 rw [hV] at SV IC ⊢
 clear hV h
 go_enter Tryz.func28,Tryz.ntmps28
 go_upto_region 1 with fail
 refine F_gen (F:=fun W=>Code.wp _ _ _ _ W) (J:=fun W=>Box W (w.heap.size) (V)∧Below w.heap.size w W) (And.intro (Box.newc rfl rfl) (by go_grown)) ?_
 intro w0 ⟨e_c,hB0⟩
 have hs0:=hB0.size
 have x_c0:=e_c;clear e_c
 go_wp2_with (refine wpList_load_box9 rfl _ _ rfl x_c0 rfl Tryz.underlying35 rfl SV.out ?_)
 refine (IC _).mono ?_
 rintro e w1 ⟨rfl,hb⟩
 clear IC
 have hB1:Below w.heap.size w w1:=below_thru hB0 hb
 have hs1:=hB1.size
 have x_c1:Box w1 (w.heap.size) (V):=Box.below x_c0 hb
 clear hB0 hs0 x_c0
 clear hb
 go_wp2_with fail
 go_returns
 exact ⟨_,rfl,IsL.none,hB1⟩
theorem bef_is (c:Cmd) {xs:List Int} {q:Int} (h:(q=0∧c.Ok∧xs=c.msg)∨(q=8∧¬ c.Ok∧xs=[])) (w:World):Calls Tryz.prog 28 #[.agg (ccell c).toArray] w (GivesE xs q w):=by
 rcases h with ⟨rfl,h,rfl⟩ | ⟨rfl,h,rfl⟩
 · exact bef_t c h w
 · exact bef_f c h w
theorem fd3_bs {n:Int} (h:0≤n∧n≤65535):(fdN 3 n).bs=be 2 n:=fdN_bs (by decide) (by omega) (by decide)
theorem fd3_ok {n:Int} (h:0≤n∧n≤65535):(fdN 3 n).ok=true:=fdN_ok (by decide) (by omega) (by decide) h.2
theorem one8:(0:Int)≤1∧(1:Int)≤255:=by decide
theorem row1_e:rowE [fdN 2 1]=0:=rowE_ok (by decide) (fun f hf=>by simp at hf;rw [hf];exact fd2_ok one8)
theorem row1_b:rowB [fdN 2 1]=[1]:=by
 show (fdN 2 1).bs ++ []=[1]
 rw [fd2_bs one8]
 rfl
theorem row2_e (r:Req):rowE [fdN 3 r.ep,fdN 4 r.co]=0:=rowE_ok (by show 2≤40;decide) (fun f hf=>by
 simp at hf
 rcases hf with rfl | rfl
 · exact fd3_ok r.hep
 · exact fd4_ok r.hco)
theorem row2_b (r:Req):rowB [fdN 3 r.ep,fdN 4 r.co]=be 2 r.ep ++ be 4 r.co:=by
 show (fdN 3 r.ep).bs ++ ((fdN 4 r.co).bs ++ [])=_
 rw [fd3_bs r.hep,fd4_bs r.hco,List.append_nil]
theorem rcell_t (r:Req):(rcell r).drop 0=tcell r.k r.g ++ [.int .u16 r.ep,.int .u32 r.co]:=rfl
theorem rcell_ep (r:Req):(rcell r)[36]? = some (.int .u16 r.ep):=by
 unfold rcell
 rw [List.getElem?_append_right (by rw [tcell_len r.k r.hg];decide),tcell_len r.k r.hg]
 rfl
theorem rcell_co (r:Req):(rcell r)[37]? = some (.int .u32 r.co):=by
 unfold rcell
 rw [List.getElem?_append_right (by rw [tcell_len r.k r.hg];decide),tcell_len r.k r.hg]
 rfl
theorem own_sl9 {w:World} {B e:Nat} {v:Value} {n:Nat} {l:List Value} (h:w.ownsRow B e 1 v n l):∃ a c,v=.slice a n c:=by
 rcases h.2 with ⟨rfl,rfl⟩ | ⟨g,cap,cur,rfl,_⟩
 · exact ⟨none,0,rfl⟩
 · exact ⟨_,_,rfl⟩
set_option maxRecDepth 100000 in
set_option maxHeartbeats 6400000 in
theorem reqb_is (r:Req) (w:World):Calls Tryz.prog 20 #[.agg (rcell r).toArray] w (GivesOwn (1 :: r.bs) w):=by
 obtain ⟨ti,hin,hz0,hz1,hz2⟩:=info_parts info_fld
 have SR:=Lib.hid (size_req r)
 have ST:=Lib.hid (size_tok r.k r.hg)
 have DT:=Lib.hid (rcell_t r)
 have v36:=rcell_ep r
 have v37:=rcell_co r
 have wn1:IntKind.u64.wrap r.ep=r.ep:=by have:=r.hep;rw [IntKind.wrap_u64];omega
 have wn2:IntKind.u64.wrap r.co=r.co:=by have:=r.hco;rw [IntKind.wrap_u64];omega
 have CN0:=fun W=>num_is 2 1 W
 have FV0:=fdN_v (k:=2) (n:=1) (by decide) (k8 one8)
 rw [← FV0] at CN0
 clear FV0
 have CN1:=fun W=>num_is 3 r.ep W
 have FV1:=fdN_v (k:=3) (n:=r.ep) (by decide) (by have:=r.hep;omega)
 rw [← FV1] at CN1
 clear FV1
 have CN2:=fun W=>num_is 4 r.co W
 have FV2:=fdN_v (k:=4) (n:=r.co) (by decide) (k32 r.hco)
 rw [← FV2] at CN2
 clear FV2
 have WT:=fun W=>twrite_is r.k r.hg W
 have WR1:=fun (W:World) (v:Value) (h:IsR LF W v [fdN 2 1])=>fwrite_is W h
 rw [rowV_ok row1_e,row1_e,row1_b] at WR1
 have WR2:=fun (W:World) (v:Value) (h:IsR LF W v [fdN 3 r.ep,fdN 4 r.co])=>fwrite_is W h
 rw [rowV_ok (row2_e r),row2_e r,row2_b r] at WR2
 have HBS:Hid (1 :: r.bs=[[1],r.k.msg ++ r.g,be 2 r.ep ++ be 4 r.co].flatten):=Lib.hid (by unfold Req.bs;simp)
 have LT:Hid ((r.k.msg ++ r.g).length=52):=Lib.hid (by rw [List.length_append,r.k.msg_len,r.hg])
 have LE:Hid ((be 2 r.ep ++ be 4 r.co).length=6):=Lib.hid (by rw [List.length_append,be_len,be_len])
 obtain ⟨f0,hf0⟩:∃ f,fdN 2 1=f:=⟨_,rfl⟩
 rw [hf0] at CN0 WR1
 have FL0:=f0.v_len;have FE0:=flatF f0
 obtain ⟨V0,hV0⟩:∃ V,f0.v=V:=⟨_,rfl⟩
 rw [hV0] at CN0 FL0 FE0
 obtain ⟨f1,hf1⟩:∃ f,fdN 3 r.ep=f:=⟨_,rfl⟩
 rw [hf1] at CN1 WR2
 have FL1:=f1.v_len;have FE1:=flatF f1
 obtain ⟨V1,hV1⟩:∃ V,f1.v=V:=⟨_,rfl⟩
 rw [hV1] at CN1 FL1 FE1
 obtain ⟨f2,hf2⟩:∃ f,fdN 4 r.co=f:=⟨_,rfl⟩
 rw [hf2] at CN2 WR2
 have FL2:=f2.v_len;have FE2:=flatF f2
 obtain ⟨V2,hV2⟩:∃ V,f2.v=V:=⟨_,rfl⟩
 rw [hV2] at CN2 FL2 FE2
 have HB1:=fun W=>run_bsliceN (P:=Tryz.prog) (n:=1) W 76 88 ti _ 34 Tryz.underlying76 hin hz0 hz1 rfl [V0] (by simp [FL0]) (by decide) (by simp) #[(0,.agg V0.toArray)] rfl rfl (by decide)
 rw [show [V0].flatten=V0 by simp] at HB1
 have HB1:=Lib.hid HB1
 have HB2:=Lib.hid (fun W=>run_bsliceN (P:=Tryz.prog) (n:=2) W 76 88 ti _ 34 Tryz.underlying76 hin hz0 hz1 rfl [V1,V2] (by simp [FL1,FL2]) (by decide) (by simp) #[(0,.agg V1.toArray),(1,.agg V2.toArray)] rfl rfl (by decide))
 have EV1:Hid (V0=flatR LF [f0]):=Lib.hid FE0.symm
 have EV2:Hid ([V1,V2].flatten=flatR LF [f1,f2]):=Lib.hid (by rw [← hV1,← hV2];simp [flatR,LF])
 obtain ⟨X,hX⟩:∃ X,1 :: r.bs=X:=⟨_,rfl⟩
 obtain ⟨TT,hTT⟩:∃ X,r.k.msg ++ r.g=X:=⟨_,rfl⟩
 obtain ⟨TE,hTE⟩:∃ X,be 2 r.ep ++ be 4 r.co=X:=⟨_,rfl⟩
 rw [hX] at HBS ⊢
 rw [hTT] at WT HBS LT
 rw [hTE] at WR2 HBS LE
 obtain ⟨V,hV⟩:∃ V,rcell r=V:=⟨_,rfl⟩
 obtain ⟨TC,hTC⟩:∃ V,tcell r.k r.g=V:=⟨_,rfl⟩
 rw [hV] at SR DT v36 v37 ⊢
 rw [hTC] at ST DT WT
 clear hV hTC hX hTT hTE hf0 hf1 hf2 hV0 hV1 hV2 FL0 FL1 FL2 FE0 FE1 FE2
 go_enter Tryz.func20,Tryz.ntmps20
 go_upto_region 1 with fail
 refine F_gen (F:=fun W=>Code.wp _ _ _ _ W) (J:=fun W=>Box W (w.heap.size) (V)∧Below w.heap.size w W) (And.intro (Box.newc rfl rfl) (by go_grown)) ?_
 intro w0 ⟨e_r,hB0⟩
 have hs0:=hB0.size
 have x_r0:=e_r;clear e_r
 go_wp2_with fail
 refine (CN0 _).mono ?_
 rintro e w1 ⟨rfl,hb⟩
 have hB1:Below w.heap.size w w1:=below_thru hB0 hb
 have hs1:=hB1.size
 have x_r1:Box w1 (w.heap.size) (V):=Box.below x_r0 hb
 clear hB0 hs0 x_r0
 clear hb
 have HIR:IsR LF (w1.alloc (.cells V0.toArray 88)) (.slice (some ⟨w1.heap.size,0,none⟩) 1 1) [f0]:=IsR.ofBox (Box.newc rfl rfl) EV1.out rfl (by decide)
 go_wp2_with (refine wpList_bsliceN rfl 76 1 _ rfl (us:=#[(0,.agg V0.toArray)]) (by rfl) (HB1.out _) ?_)
 refine (WR1 _ _ HIR).mono ?_
 rintro e w2 ⟨vk,rfl,hk,hb⟩
 have hb2:Below w1.heap.size w1 w2:=below_thru ((Below.refl _ _).alloc (Nat.le_refl _) _) hb
 clear hb HIR
 have hB2:Below w.heap.size w w2:=below_thru hB1 hb2
 have hs2:=hB2.size
 have x_r2:Box w2 (w.heap.size) (V):=Box.below x_r1 hb2
 clear hB1 hs1 x_r1
 clear hb2
 obtain ⟨ak,ck,rfl,hk2⟩:=id hk
 have J_k2:Hid (IsL w2 .u8 (.slice ak 1 ck) [1]):=Lib.hid hk
 clear hk hk2
 go_upto_region 2 with fail
 refine wp_region_held_drew (S:=fun W=>Box W w.heap.size V) (by kernel_rfl) (x_r2).drew (fun _=>?_)
 refine F_drew (F:=fun W=>wpAnyH _ _ _ _ _ _ _ _ W) ?_
 intro W0 hb0
 have xc0:=x_r2.below hb0;have Bc0:=below_thru hB2 hb0;have Jc0:=Lib.hid (J_k2.out.below hb0)
 clear x_r2 hB2 J_k2 hs2 hb0
 refine takeH 0 14 (v:=?vt0_1) rfl (by rfl) (by kernel_rfl) (by kernel_rfl) (by kernel_rfl) (fun _ _ _ h=>h) (Or.inl ⟨by rfl,?_⟩) (xc0) ?_
 rotate_left
 · intro wq hSq
   go_simp
   exact rfl
 try simp only [Act.put,qzA,qz0,qzS]
 refine takeH 1 15 (v:=?vt1_2) rfl (by rfl) (by kernel_rfl) (by kernel_rfl) (by kernel_rfl) (fun _ _ _ h=>h) (Or.inl ⟨by rfl,?_⟩) (xc0) ?_
 rotate_left
 · intro wq hSq
   have cq:=hSq.c 36 _ v36
   have zq:=lt_of_cell cq
   go_simp
   exact rfl
 try simp only [Act.put,qzA,qz0,qzS]
 refine takeH 2 16 (v:=?vt2_3) rfl (by rfl) (by kernel_rfl) (by kernel_rfl) (by kernel_rfl) (fun _ _ _ h=>h) (Or.inl ⟨by rfl,?_⟩) (xc0) ?_
 rotate_left
 · intro wq hSq
   go_simp
   exact rfl
 try simp only [Act.put,qzA,qz0,qzS]
 refine takeH 4 18 (v:=?vt4_4) rfl (by rfl) (by kernel_rfl) (by kernel_rfl) (by kernel_rfl) (fun _ _ _ h=>h) (Or.inl ⟨by rfl,?_⟩) (xc0) ?_
 rotate_left
 · intro wq hSq
   go_simp
   exact rfl
 try simp only [Act.put,qzA,qz0,qzS]
 refine takeH 5 19 (v:=?vt5_5) rfl (by rfl) (by kernel_rfl) (by kernel_rfl) (by kernel_rfl) (fun _ _ _ h=>h) (Or.inl ⟨by rfl,?_⟩) (xc0) ?_
 rotate_left
 · intro wq hSq
   have cq:=hSq.c 37 _ v37
   have zq:=lt_of_cell cq
   go_simp
   exact rfl
 try simp only [Act.put,qzA,qz0,qzS]
 refine takeH 6 20 (v:=?vt6_6) rfl (by rfl) (by kernel_rfl) (by kernel_rfl) (by kernel_rfl) (fun _ _ _ h=>h) (Or.inl ⟨by rfl,?_⟩) (xc0) ?_
 rotate_left
 · intro wq hSq
   go_simp
   exact rfl
 try simp only [Act.put,qzA,qz0,qzS]
 refine wpAnyH_ready (rs:=[3]) (by kernel_rfl) (by simp) (AllReadyH.cons rfl (fun K hK=>?_) AllReadyH.nil)
 go_simp
 refine (CN1 _).mono ?_
 rintro e W7 ⟨rfl,hb7⟩
 have xc7:=Box.below xc0 hb7;have Bc7:=below_thru Bc0 hb7;have Jc7:=Lib.hid (Jc0.out.below hb7)
 clear xc0 Bc0 Jc0 hb7
 refine hK.out _ _ xc7 (fun _=>?_);clear hK K
 refine wpAnyH_ready (rs:=[7]) (by kernel_rfl) (by simp) (AllReadyH.cons rfl (fun K hK=>?_) AllReadyH.nil)
 go_simp
 refine (CN2 _).mono ?_
 rintro e W8 ⟨rfl,hb8⟩
 have xc8:=Box.below xc7 hb8;have Bc8:=below_thru Bc7 hb8;have Jc8:=Lib.hid (Jc7.out.below hb8)
 clear xc7 Bc7 Jc7 hb8
 refine hK.out _ _ xc8 (fun _=>?_);clear hK K
 refine wpAnyH_ready (rs:=[8]) (by kernel_rfl) (by simp) (AllReadyH.cons rfl (fun K hK=>?_) AllReadyH.nil)
 refine step_bsliceH 22 rfl rfl 76 2 _ rfl (us:=#[(0,.agg V1.toArray),(1,.agg V2.toArray)]) (by rfl) (HB2.out _) ?_
 refine hK.out _ _ (Box.alloc xc8 _) (fun _=>?_);clear hK K
 refine F_gen (F:=fun W=>wpAnyH _ _ _ _ _ _ _ _ W) (J:=fun W=>IsR LF W (.slice (some ⟨W8.heap.size,0,none⟩) 2 2) [f1,f2]∧Below W8.heap.size W8 W) (And.intro (IsR.ofBox (Box.newc rfl rfl) EV2.out rfl (by decide)) ((Below.refl _ _).alloc (Nat.le_refl _) _)) ?_
 intro W9 ⟨hIR,hb9⟩
 have xc9:=Box.below xc8 hb9;have Bc9:=below_thru Bc8 hb9;have Jc9:=Lib.hid (Jc8.out.below hb9)
 clear xc8 Bc8 Jc8 hb9
 refine wpAnyH_ready (rs:=[9]) (by kernel_rfl) (by simp) (AllReadyH.cons rfl (fun K hK=>?_) AllReadyH.nil)
 go_simp
 refine (WR2 _ _ hIR).mono ?_
 rintro e W10 ⟨ve,rfl,he,hb10⟩
 have xc10:=Box.below xc9 hb10;have Bc10:=below_thru Bc9 hb10;have Jc10:=Lib.hid (Jc9.out.below hb10)
 clear xc9 Bc9 Jc9 hb10
 obtain ⟨ae,ce,rfl,he2⟩:=id he
 clear he2
 refine hK.out _ _ xc10 (fun _=>?_);clear hK K
 refine takeH 10 13 (v:=?vt10_11) rfl (by rfl) (by kernel_rfl) (by kernel_rfl) (by kernel_rfl) (fun _ _ _ h=>h) (Or.inl ⟨by rfl,?_⟩) (xc10) ?_
 rotate_left
 · intro wq hSq
   go_simp
   exact rfl
 try simp only [Act.put,qzA,qz0,qzS]
 refine takeH 11 24 (v:=?vt11_12) rfl (by rfl) (by kernel_rfl) (by kernel_rfl) (by kernel_rfl) (fun _ _ _ h=>h) (Or.inl ⟨by rfl,?_⟩) (xc10) ?_
 rotate_left
 · intro wq hSq
   go_simp
   exact rfl
 try simp only [Act.put,qzA,qz0,qzS]
 refine takeH 12 25 (v:=?vt12_13) rfl (by rfl) (by kernel_rfl) (by kernel_rfl) (by kernel_rfl) (fun _ _ _ h=>h) (Or.inl ⟨by rfl,?_⟩) (xc10) ?_
 rotate_left
 · intro wq hSq
   go_simp
   exact rfl
 try simp only [Act.put,qzA,qz0,qzS]
 refine takeH 13 5 (v:=?vt13_14) rfl (by rfl) (by kernel_rfl) (by kernel_rfl) (by kernel_rfl) (fun _ _ _ h=>h) (Or.inl ⟨by rfl,?_⟩) (xc10) ?_
 rotate_left
 · intro wq hSq
   go_simp
   exact rfl
 try simp only [Act.put,qzA,qz0,qzS]
 refine takeH 14 6 (v:=?vt14_15) rfl (by rfl) (by kernel_rfl) (by kernel_rfl) (by kernel_rfl) (fun _ _ _ h=>h) (Or.inl ⟨by rfl,?_⟩) (xc10) ?_
 rotate_left
 · intro wq hSq
   go_simp
   exact rfl
 try simp only [Act.put,qzA,qz0,qzS]
 refine wpAnyH_done (by kernel_rfl) ?_ _
 have x_r3:=xc10;have hB3:=Bc10;have hs3:=hB3.size;have J_k3:=Jc10;clear xc10 Bc10 Jc10
 have J_e3:Hid (IsL W10 .u8 (.slice ae (TE.length) ce) TE):=Lib.hid he
 clear he
 go_wp2_with (refine wpList_load_rangew rfl _ _ rfl (Box.rangeMid x_r3 0 (TC) (_) DT.out) rfl Tryz.underlying27 rfl ST.out ?_)
 refine (WT _).mono ?_
 rintro e w9 ⟨vt,rfl,ho,hb⟩
 have hB4:Below w.heap.size w w9:=below_thru hB3 hb
 have hs4:=hB4.size
 have x_r4:Box w9 (w.heap.size) (V):=Box.below x_r3 hb
 have J_k4:Hid (IsL w9 .u8 (.slice ak 1 ck) [1]):=Lib.hid (IsL.below J_k3.out hb)
 have J_e4:Hid (IsL w9 .u8 (.slice ae (TE.length) ce) TE):=Lib.hid (IsL.below J_e3.out hb)
 clear hB3 hs3 x_r3 J_k3 J_e3
 clear hb
 have ht:=IsL.own ho rfl
 obtain ⟨at1,ct1,rfl⟩:=own_sl9 ho
 clear ho
 have J_t4:Hid (IsL w9 .u8 (.slice at1 (TT.length) ct1) TT):=Lib.hid ht
 clear ht
 have hv:Box (w9.alloc (.cells #[.slice ak 1 ck,.slice at1 (TT.length) ct1,.slice ae (TE.length) ce] 43)) w9.heap.size [.slice ak 1 ck,.slice at1 (TT.length) ct1,.slice ae (TE.length) ce]:=Box.newc rfl rfl
 have C:=concat_is (n:=3) (xss:=[[1],TT,TE]) _ hv (fun i v xs h1 h2=>by match i,h1,h2 with | 0,h1,h2=>(cases h1;cases h2;exact J_k4.out.alloc _) | 1,h1,h2=>(cases h1;cases h2;exact J_t4.out.alloc _) | 2,h1,h2=>(cases h1;cases h2;exact J_e4.out.alloc _)) rfl rfl (by decide) (by simp [LT.out,LE.out])
 rw [← HBS.out] at C
 go_wp2_with fail
 refine C.mono ?_
 rintro e w10 ⟨vr,rfl,ho,hb⟩
 have hB9:=below_thru (hB4.alloc hs4 _) hb
 have ho:=ownR_base ho (by simp;omega:w.heap.size≤_)
 clear hv C hb
 go_wp2_with fail
 go_returns
 exact ⟨_,rfl,ho,hB9⟩
end Go.Proofs.YtnfejdfjlnpldaaGreatDoor
