import Derived.Test.YtnfejdfjlnpldaaGreatDoorGX1
import Derived.Test.YtnfejdfjlnpldaaGreatDoorGX2
set_option maxHeartbeats 3200000
set_option maxRecDepth 100000
namespace Go.Proofs.YtnfejdfjlnpldaaGreatDoor
open Go.RowKit
theorem keyL:Tryz.prog.keyTypeAt 5 32=true:=by kernel_rfl
theorem kinL:kindsT Tryz.prog 5 32=some [.i64,.i64,.i64]:=by kernel_rfl
theorem aggL:aggB Tryz.prog 32=true:=by kernel_rfl
theorem celL:Tryz.prog.cellsOf 32=3:=by kernel_rfl
theorem fit_lim (l:Lm):Fit [.i64,.i64,.i64] l.v:=.cons (fitI64 l.hb) (.cons (fitI64 l.hr) (.cons (fitI64 l.hp) trivial))
theorem Lm.v_inj {l m:Lm} (h:l.v=m.v):l=m:=by
 unfold Lm.v at h
 simp only [List.cons.injEq,Value.int.injEq,true_and,and_true] at h
 exact Lm.ext' h.1 h.2.1 h.2.2
theorem eql_t {l m:Lm} (h:l=m) (W:World):(Op.equalIn 10000 32 (.agg l.v.toArray) (.agg m.v.toArray)).run Tryz.prog W=.ok true W :=
 eq_flat_t 5 (by decide) keyL kinL aggL celL (fit_lim l) (by rw [h]) W
theorem eql_f {l m:Lm} (h:l ≠ m) (W:World):(Op.equalIn 10000 32 (.agg l.v.toArray) (.agg m.v.toArray)).run Tryz.prog W=.ok false W :=
 eq_flat_f 5 (by decide) keyL kinL aggL celL (fit_lim l) (fit_lim m) (fun e=>h (Lm.v_inj e)) W
theorem build_l0 (W:World):(Instr.build 32 #[]).run Tryz.prog W=.ok (.agg Lm.zero.v.toArray) W:=by kernel_rfl
theorem size_lim (l:Lm):(Tryz.prog.info? 32).map (·.size)=some l.v.length:=by rw [sizeLim];rfl
def Used (op:Int) (L C U I:Bool):Prop:=∀ W,Calls Tryz.prog 37 #[.int .u8 op] W fun e w'=>e=.returned (.tuple #[.bool L,.bool C,.bool U,.bool I])∧Below W.heap.size W w'
set_option maxHeartbeats 800000 in
theorem used_1:Used 1 true true false true:=fun w=>by
 go_enter Tryz.func37,Tryz.ntmps37
 go_wp2_with fail
 go_returns
 exact ⟨rfl,Below.refl _ _⟩
set_option maxHeartbeats 800000 in
theorem used_2:Used 2 false false false true:=fun w=>by
 go_enter Tryz.func37,Tryz.ntmps37
 go_wp2_with fail
 go_returns
 exact ⟨rfl,Below.refl _ _⟩
set_option maxHeartbeats 800000 in
theorem used_3:Used 3 true false false true:=fun w=>by
 go_enter Tryz.func37,Tryz.ntmps37
 go_wp2_with fail
 go_returns
 exact ⟨rfl,Below.refl _ _⟩
set_option maxHeartbeats 800000 in
theorem used_4:Used 4 false false false true:=fun w=>by
 go_enter Tryz.func37,Tryz.ntmps37
 go_wp2_with fail
 go_returns
 exact ⟨rfl,Below.refl _ _⟩
set_option maxHeartbeats 800000 in
theorem used_5:Used 5 false false true true:=fun w=>by
 go_enter Tryz.func37,Tryz.ntmps37
 go_wp2_with fail
 go_returns
 exact ⟨rfl,Below.refl _ _⟩
set_option maxHeartbeats 800000 in
theorem used_n {op:Int} (e1:(op == 1)=false) (e3:(op == 3)=false) (e5:(op == 5)=false) (h:0≤op) (h2:op ≠ 1) (h3:op ≠ 2) (h4:op ≠ 3) (h5:op ≠ 4) (h6:op ≠ 5):Used op false false false false:=fun w=>by
 go_enter Tryz.func37,Tryz.ntmps37
 by_cases h0:op=0
 · subst h0
   go_wp2_with fail
   go_returns
   exact ⟨rfl,Below.refl _ _⟩
 · have d1:decide (1≤op)=true:=decide_eq_true (by omega)
   have d2:decide (op≤5)=false:=decide_eq_false (by omega)
   clear h h0 h2 h3 h4 h5 h6
   go_wp2_with fail
   go_returns
   exact ⟨rfl,Below.refl _ _⟩
set_option maxRecDepth 100000 in
set_option maxHeartbeats 3200000 in
theorem rc_n (c:Cmd)  (HU:Used c.op false false false false) (w:World):Calls Tryz.prog 12 #[.agg (ccell c).toArray] w fun e w'=>e=.returned (.bool false)∧Below w.heap.size w w':=by
 have SV:=Lib.hid (size_cmd c)
 unfold Used at HU
 obtain ⟨V,hV⟩:∃ V,ccell c=V:=⟨_,rfl⟩
 have v0:V[0]? = some (.int .u8 c.op):=by rw [← hV];rfl
 have v1:V[1]? = some (.int .u32 c.t):=by rw [← hV];rfl
 have v2:V[2]? = some (.int .u32 c.u):=by rw [← hV];rfl
 have v12:V[12]? = some (.int .u8 c.us):=by rw [← hV];rfl
 have v13:V[13]? = some (.int .u8 c.en):=by rw [← hV];rfl
 rw [hV] at SV ⊢
 clear hV
 go_enter Tryz.func12,Tryz.ntmps12
 go_upto_region 1 with fail
 refine F_gen (F:=fun W=>Code.wp _ _ _ _ W) (J:=fun W=>Box W (w.heap.size) (V)∧Below w.heap.size w W) (And.intro (Box.newc rfl rfl) (by go_grown)) ?_
 intro w0 ⟨e_c,hB0⟩
 have hs0:=hB0.size
 have x_c0:=e_c;clear e_c
 have ca:=(x_c0).c 0 _ v0
 have za:=(x_c0).lt
 go_wp2_with fail
 refine (HU _).mono ?_
 rintro e w1 ⟨rfl,hb⟩
 clear ca za HU
 have hB1:Below w.heap.size w w1:=below_thru hB0 hb
 have hs1:=hB1.size
 have x_c1:Box w1 (w.heap.size) (V):=Box.below x_c0 hb
 clear hB0 hs0 x_c0
 clear hb
 have cb:=(x_c1).c 1 _ v1
 have zb:=(x_c1).lt
 have cd:=(x_c1).c 2 _ v2
 have zd:=(x_c1).lt
 go_wp2_with fail
 go_returns
 exact ⟨rfl,hB1⟩
set_option maxRecDepth 100000 in
set_option maxHeartbeats 3200000 in
theorem rc_t (c:Cmd) {L C U:Bool} (d1:decide (16≤c.t)=true) (HU:Used c.op L C U true) (w:World):Calls Tryz.prog 12 #[.agg (ccell c).toArray] w fun e w'=>e=.returned (.bool false)∧Below w.heap.size w w':=by
 have SV:=Lib.hid (size_cmd c)
 unfold Used at HU
 obtain ⟨V,hV⟩:∃ V,ccell c=V:=⟨_,rfl⟩
 have v0:V[0]? = some (.int .u8 c.op):=by rw [← hV];rfl
 have v1:V[1]? = some (.int .u32 c.t):=by rw [← hV];rfl
 have v2:V[2]? = some (.int .u32 c.u):=by rw [← hV];rfl
 have v12:V[12]? = some (.int .u8 c.us):=by rw [← hV];rfl
 have v13:V[13]? = some (.int .u8 c.en):=by rw [← hV];rfl
 rw [hV] at SV ⊢
 clear hV
 go_enter Tryz.func12,Tryz.ntmps12
 go_upto_region 1 with fail
 refine F_gen (F:=fun W=>Code.wp _ _ _ _ W) (J:=fun W=>Box W (w.heap.size) (V)∧Below w.heap.size w W) (And.intro (Box.newc rfl rfl) (by go_grown)) ?_
 intro w0 ⟨e_c,hB0⟩
 have hs0:=hB0.size
 have x_c0:=e_c;clear e_c
 have ca:=(x_c0).c 0 _ v0
 have za:=(x_c0).lt
 go_wp2_with fail
 refine (HU _).mono ?_
 rintro e w1 ⟨rfl,hb⟩
 clear ca za HU
 have hB1:Below w.heap.size w w1:=below_thru hB0 hb
 have hs1:=hB1.size
 have x_c1:Box w1 (w.heap.size) (V):=Box.below x_c0 hb
 clear hB0 hs0 x_c0
 clear hb
 have cb:=(x_c1).c 1 _ v1
 have zb:=(x_c1).lt
 have cd:=(x_c1).c 2 _ v2
 have zd:=(x_c1).lt
 go_wp2_with fail
 go_returns
 exact ⟨rfl,hB1⟩
set_option maxRecDepth 100000 in
set_option maxHeartbeats 3200000 in
theorem rc_u (c:Cmd) {L C:Bool} (d1:decide (16≤c.t)=false) (d2:(c.u != 0)=true) (HU:Used c.op L C false true) (w:World):Calls Tryz.prog 12 #[.agg (ccell c).toArray] w fun e w'=>e=.returned (.bool false)∧Below w.heap.size w w':=by
 have SV:=Lib.hid (size_cmd c)
 unfold Used at HU
 obtain ⟨V,hV⟩:∃ V,ccell c=V:=⟨_,rfl⟩
 have v0:V[0]? = some (.int .u8 c.op):=by rw [← hV];rfl
 have v1:V[1]? = some (.int .u32 c.t):=by rw [← hV];rfl
 have v2:V[2]? = some (.int .u32 c.u):=by rw [← hV];rfl
 have v12:V[12]? = some (.int .u8 c.us):=by rw [← hV];rfl
 have v13:V[13]? = some (.int .u8 c.en):=by rw [← hV];rfl
 rw [hV] at SV ⊢
 clear hV
 go_enter Tryz.func12,Tryz.ntmps12
 go_upto_region 1 with fail
 refine F_gen (F:=fun W=>Code.wp _ _ _ _ W) (J:=fun W=>Box W (w.heap.size) (V)∧Below w.heap.size w W) (And.intro (Box.newc rfl rfl) (by go_grown)) ?_
 intro w0 ⟨e_c,hB0⟩
 have hs0:=hB0.size
 have x_c0:=e_c;clear e_c
 have ca:=(x_c0).c 0 _ v0
 have za:=(x_c0).lt
 go_wp2_with fail
 refine (HU _).mono ?_
 rintro e w1 ⟨rfl,hb⟩
 clear ca za HU
 have hB1:Below w.heap.size w w1:=below_thru hB0 hb
 have hs1:=hB1.size
 have x_c1:Box w1 (w.heap.size) (V):=Box.below x_c0 hb
 clear hB0 hs0 x_c0
 clear hb
 have cb:=(x_c1).c 1 _ v1
 have zb:=(x_c1).lt
 have cd:=(x_c1).c 2 _ v2
 have zd:=(x_c1).lt
 go_wp2_with fail
 go_returns
 exact ⟨rfl,hB1⟩
set_option maxRecDepth 100000 in
set_option maxHeartbeats 3200000 in
theorem rc_l0 (c:Cmd) {C:Bool} (d1:decide (16≤c.t)=false) (d2:(c.u != 0)=false) (g0:Hid (limE c.l0.b c.l0.r c.l0.p=8)) (HU:Used c.op true C false true) (w:World):Calls Tryz.prog 12 #[.agg (ccell c).toArray] w fun e w'=>e=.returned (.bool false)∧Below w.heap.size w w':=by
 have SV:=Lib.hid (size_cmd c)
 unfold Used at HU
 have SL0:=Lib.hid (size_lim c.l0)
 have DL0:Hid ((ccell c).drop 3=c.l0.v ++ (ccell c).drop 6):=Lib.hid rfl
 have CL0:=fun W=>rlimit_is g0 W
 obtain ⟨V,hV⟩:∃ V,ccell c=V:=⟨_,rfl⟩
 have v0:V[0]? = some (.int .u8 c.op):=by rw [← hV];rfl
 have v1:V[1]? = some (.int .u32 c.t):=by rw [← hV];rfl
 have v2:V[2]? = some (.int .u32 c.u):=by rw [← hV];rfl
 have v12:V[12]? = some (.int .u8 c.us):=by rw [← hV];rfl
 have v13:V[13]? = some (.int .u8 c.en):=by rw [← hV];rfl
 rw [hV] at SV DL0 ⊢
 have CL0:=fun W=>(show Calls Tryz.prog 38 #[.agg c.l0.v.toArray] W _ from CL0 W)
 obtain ⟨M0,hM0⟩:∃ V,c.l0.v=V:=⟨_,rfl⟩
 obtain ⟨T0,hT0⟩:∃ T,V.drop 6=T:=⟨_,rfl⟩
 rw [hM0] at SL0 DL0 CL0
 rw [hT0] at DL0
 clear hV hM0 hT0 g0
 go_enter Tryz.func12,Tryz.ntmps12
 go_upto_region 1 with fail
 refine F_gen (F:=fun W=>Code.wp _ _ _ _ W) (J:=fun W=>Box W (w.heap.size) (V)∧Below w.heap.size w W) (And.intro (Box.newc rfl rfl) (by go_grown)) ?_
 intro w0 ⟨e_c,hB0⟩
 have hs0:=hB0.size
 have x_c0:=e_c;clear e_c
 have ca:=(x_c0).c 0 _ v0
 have za:=(x_c0).lt
 go_wp2_with fail
 refine (HU _).mono ?_
 rintro e w1 ⟨rfl,hb⟩
 clear ca za HU
 have hB1:Below w.heap.size w w1:=below_thru hB0 hb
 have hs1:=hB1.size
 have x_c1:Box w1 (w.heap.size) (V):=Box.below x_c0 hb
 clear hB0 hs0 x_c0
 clear hb
 have cb:=(x_c1).c 1 _ v1
 have zb:=(x_c1).lt
 have cd:=(x_c1).c 2 _ v2
 have zd:=(x_c1).lt
 go_wp2_with fail
 refine wp_loop_rounds 5 ?_
 clear cb zb cd zd
 rw [rounds_succ]
 go_wp2_with (refine wpList_load_rangew rfl _ _ rfl (Box.rangeMid x_c1 3 (M0) (T0) DL0.out) rfl Tryz.underlying32 rfl SL0.out ?_)
 refine (CL0 _).mono ?_
 rintro e w2 ⟨rfl,hb⟩
 have hB2:Below w.heap.size w w2:=below_thru hB1 hb
 have hs2:=hB2.size
 have x_c2:Box w2 (w.heap.size) (V):=Box.below x_c1 hb
 clear hB1 hs1 x_c1
 clear hb
 go_wp2_with fail
 go_returns
 exact ⟨rfl,hB2⟩
set_option maxRecDepth 100000 in
set_option maxHeartbeats 3200000 in
theorem rc_l1 (c:Cmd) {C:Bool} (d1:decide (16≤c.t)=false) (d2:(c.u != 0)=false) (g0:Hid (limE c.l0.b c.l0.r c.l0.p=0)) (g1:Hid (limE c.l1.b c.l1.r c.l1.p=8)) (HU:Used c.op true C false true) (w:World):Calls Tryz.prog 12 #[.agg (ccell c).toArray] w fun e w'=>e=.returned (.bool false)∧Below w.heap.size w w':=by
 have SV:=Lib.hid (size_cmd c)
 unfold Used at HU
 have SL0:=Lib.hid (size_lim c.l0)
 have DL0:Hid ((ccell c).drop 3=c.l0.v ++ (ccell c).drop 6):=Lib.hid rfl
 have SL1:=Lib.hid (size_lim c.l1)
 have DL1:Hid ((ccell c).drop 6=c.l1.v ++ (ccell c).drop 9):=Lib.hid rfl
 have CL0:=fun W=>rlimit_is g0 W
 have CL1:=fun W=>rlimit_is g1 W
 obtain ⟨V,hV⟩:∃ V,ccell c=V:=⟨_,rfl⟩
 have v0:V[0]? = some (.int .u8 c.op):=by rw [← hV];rfl
 have v1:V[1]? = some (.int .u32 c.t):=by rw [← hV];rfl
 have v2:V[2]? = some (.int .u32 c.u):=by rw [← hV];rfl
 have v12:V[12]? = some (.int .u8 c.us):=by rw [← hV];rfl
 have v13:V[13]? = some (.int .u8 c.en):=by rw [← hV];rfl
 rw [hV] at SV DL0 DL1 ⊢
 have CL0:=fun W=>(show Calls Tryz.prog 38 #[.agg c.l0.v.toArray] W _ from CL0 W)
 obtain ⟨M0,hM0⟩:∃ V,c.l0.v=V:=⟨_,rfl⟩
 obtain ⟨T0,hT0⟩:∃ T,V.drop 6=T:=⟨_,rfl⟩
 rw [hM0] at SL0 DL0 CL0
 rw [hT0] at DL0
 have CL1:=fun W=>(show Calls Tryz.prog 38 #[.agg c.l1.v.toArray] W _ from CL1 W)
 obtain ⟨M1,hM1⟩:∃ V,c.l1.v=V:=⟨_,rfl⟩
 obtain ⟨T1,hT1⟩:∃ T,V.drop 9=T:=⟨_,rfl⟩
 rw [hM1] at SL1 DL1 CL1
 rw [hT1] at DL1
 clear hV hM0 hT0 hM1 hT1 g0 g1
 go_enter Tryz.func12,Tryz.ntmps12
 go_upto_region 1 with fail
 refine F_gen (F:=fun W=>Code.wp _ _ _ _ W) (J:=fun W=>Box W (w.heap.size) (V)∧Below w.heap.size w W) (And.intro (Box.newc rfl rfl) (by go_grown)) ?_
 intro w0 ⟨e_c,hB0⟩
 have hs0:=hB0.size
 have x_c0:=e_c;clear e_c
 have ca:=(x_c0).c 0 _ v0
 have za:=(x_c0).lt
 go_wp2_with fail
 refine (HU _).mono ?_
 rintro e w1 ⟨rfl,hb⟩
 clear ca za HU
 have hB1:Below w.heap.size w w1:=below_thru hB0 hb
 have hs1:=hB1.size
 have x_c1:Box w1 (w.heap.size) (V):=Box.below x_c0 hb
 clear hB0 hs0 x_c0
 clear hb
 have cb:=(x_c1).c 1 _ v1
 have zb:=(x_c1).lt
 have cd:=(x_c1).c 2 _ v2
 have zd:=(x_c1).lt
 go_wp2_with fail
 refine wp_loop_rounds 5 ?_
 clear cb zb cd zd
 rw [rounds_succ]
 go_wp2_with (refine wpList_load_rangew rfl _ _ rfl (Box.rangeMid x_c1 3 (M0) (T0) DL0.out) rfl Tryz.underlying32 rfl SL0.out ?_)
 refine (CL0 _).mono ?_
 rintro e w2 ⟨rfl,hb⟩
 have hB2:Below w.heap.size w w2:=below_thru hB1 hb
 have hs2:=hB2.size
 have x_c2:Box w2 (w.heap.size) (V):=Box.below x_c1 hb
 clear hB1 hs1 x_c1
 clear hb
 go_wp2_with fail
 rw [rounds_succ]
 go_wp2_with (refine wpList_load_rangew rfl _ _ rfl (Box.rangeMid x_c2 6 (M1) (T1) DL1.out) rfl Tryz.underlying32 rfl SL1.out ?_)
 refine (CL1 _).mono ?_
 rintro e w3 ⟨rfl,hb⟩
 have hB3:Below w.heap.size w w3:=below_thru hB2 hb
 have hs3:=hB3.size
 have x_c3:Box w3 (w.heap.size) (V):=Box.below x_c2 hb
 clear hB2 hs2 x_c2
 clear hb
 go_wp2_with fail
 go_returns
 exact ⟨rfl,hB3⟩
set_option maxRecDepth 100000 in
set_option maxHeartbeats 3200000 in
theorem rc_l2 (c:Cmd) {C:Bool} (d1:decide (16≤c.t)=false) (d2:(c.u != 0)=false) (g0:Hid (limE c.l0.b c.l0.r c.l0.p=0)) (g1:Hid (limE c.l1.b c.l1.r c.l1.p=0)) (g2:Hid (limE c.l2.b c.l2.r c.l2.p=8)) (HU:Used c.op true C false true) (w:World):Calls Tryz.prog 12 #[.agg (ccell c).toArray] w fun e w'=>e=.returned (.bool false)∧Below w.heap.size w w':=by
 have SV:=Lib.hid (size_cmd c)
 unfold Used at HU
 have SL0:=Lib.hid (size_lim c.l0)
 have DL0:Hid ((ccell c).drop 3=c.l0.v ++ (ccell c).drop 6):=Lib.hid rfl
 have SL1:=Lib.hid (size_lim c.l1)
 have DL1:Hid ((ccell c).drop 6=c.l1.v ++ (ccell c).drop 9):=Lib.hid rfl
 have SL2:=Lib.hid (size_lim c.l2)
 have DL2:Hid ((ccell c).drop 9=c.l2.v ++ (ccell c).drop 12):=Lib.hid rfl
 have CL0:=fun W=>rlimit_is g0 W
 have CL1:=fun W=>rlimit_is g1 W
 have CL2:=fun W=>rlimit_is g2 W
 obtain ⟨V,hV⟩:∃ V,ccell c=V:=⟨_,rfl⟩
 have v0:V[0]? = some (.int .u8 c.op):=by rw [← hV];rfl
 have v1:V[1]? = some (.int .u32 c.t):=by rw [← hV];rfl
 have v2:V[2]? = some (.int .u32 c.u):=by rw [← hV];rfl
 have v12:V[12]? = some (.int .u8 c.us):=by rw [← hV];rfl
 have v13:V[13]? = some (.int .u8 c.en):=by rw [← hV];rfl
 rw [hV] at SV DL0 DL1 DL2 ⊢
 have CL0:=fun W=>(show Calls Tryz.prog 38 #[.agg c.l0.v.toArray] W _ from CL0 W)
 obtain ⟨M0,hM0⟩:∃ V,c.l0.v=V:=⟨_,rfl⟩
 obtain ⟨T0,hT0⟩:∃ T,V.drop 6=T:=⟨_,rfl⟩
 rw [hM0] at SL0 DL0 CL0
 rw [hT0] at DL0
 have CL1:=fun W=>(show Calls Tryz.prog 38 #[.agg c.l1.v.toArray] W _ from CL1 W)
 obtain ⟨M1,hM1⟩:∃ V,c.l1.v=V:=⟨_,rfl⟩
 obtain ⟨T1,hT1⟩:∃ T,V.drop 9=T:=⟨_,rfl⟩
 rw [hM1] at SL1 DL1 CL1
 rw [hT1] at DL1
 have CL2:=fun W=>(show Calls Tryz.prog 38 #[.agg c.l2.v.toArray] W _ from CL2 W)
 obtain ⟨M2,hM2⟩:∃ V,c.l2.v=V:=⟨_,rfl⟩
 obtain ⟨T2,hT2⟩:∃ T,V.drop 12=T:=⟨_,rfl⟩
 rw [hM2] at SL2 DL2 CL2
 rw [hT2] at DL2
 clear hV hM0 hT0 hM1 hT1 hM2 hT2 g0 g1 g2
 go_enter Tryz.func12,Tryz.ntmps12
 go_upto_region 1 with fail
 refine F_gen (F:=fun W=>Code.wp _ _ _ _ W) (J:=fun W=>Box W (w.heap.size) (V)∧Below w.heap.size w W) (And.intro (Box.newc rfl rfl) (by go_grown)) ?_
 intro w0 ⟨e_c,hB0⟩
 have hs0:=hB0.size
 have x_c0:=e_c;clear e_c
 have ca:=(x_c0).c 0 _ v0
 have za:=(x_c0).lt
 go_wp2_with fail
 refine (HU _).mono ?_
 rintro e w1 ⟨rfl,hb⟩
 clear ca za HU
 have hB1:Below w.heap.size w w1:=below_thru hB0 hb
 have hs1:=hB1.size
 have x_c1:Box w1 (w.heap.size) (V):=Box.below x_c0 hb
 clear hB0 hs0 x_c0
 clear hb
 have cb:=(x_c1).c 1 _ v1
 have zb:=(x_c1).lt
 have cd:=(x_c1).c 2 _ v2
 have zd:=(x_c1).lt
 go_wp2_with fail
 refine wp_loop_rounds 5 ?_
 clear cb zb cd zd
 rw [rounds_succ]
 go_wp2_with (refine wpList_load_rangew rfl _ _ rfl (Box.rangeMid x_c1 3 (M0) (T0) DL0.out) rfl Tryz.underlying32 rfl SL0.out ?_)
 refine (CL0 _).mono ?_
 rintro e w2 ⟨rfl,hb⟩
 have hB2:Below w.heap.size w w2:=below_thru hB1 hb
 have hs2:=hB2.size
 have x_c2:Box w2 (w.heap.size) (V):=Box.below x_c1 hb
 clear hB1 hs1 x_c1
 clear hb
 go_wp2_with fail
 rw [rounds_succ]
 go_wp2_with (refine wpList_load_rangew rfl _ _ rfl (Box.rangeMid x_c2 6 (M1) (T1) DL1.out) rfl Tryz.underlying32 rfl SL1.out ?_)
 refine (CL1 _).mono ?_
 rintro e w3 ⟨rfl,hb⟩
 have hB3:Below w.heap.size w w3:=below_thru hB2 hb
 have hs3:=hB3.size
 have x_c3:Box w3 (w.heap.size) (V):=Box.below x_c2 hb
 clear hB2 hs2 x_c2
 clear hb
 go_wp2_with fail
 rw [rounds_succ]
 go_wp2_with (refine wpList_load_rangew rfl _ _ rfl (Box.rangeMid x_c3 9 (M2) (T2) DL2.out) rfl Tryz.underlying32 rfl SL2.out ?_)
 refine (CL2 _).mono ?_
 rintro e w4 ⟨rfl,hb⟩
 have hB4:Below w.heap.size w w4:=below_thru hB3 hb
 have hs4:=hB4.size
 have x_c4:Box w4 (w.heap.size) (V):=Box.below x_c3 hb
 clear hB3 hs3 x_c3
 clear hb
 go_wp2_with fail
 go_returns
 exact ⟨rfl,hB4⟩
set_option maxRecDepth 100000 in
set_option maxHeartbeats 3200000 in
theorem rc_lc (c:Cmd) {q:Bool} (d1:decide (16≤c.t)=false) (d2:(c.u != 0)=false) (g0:Hid (limE c.l0.b c.l0.r c.l0.p=0)) (g1:Hid (limE c.l1.b c.l1.r c.l1.p=0)) (g2:Hid (limE c.l2.b c.l2.r c.l2.p=0)) (hq:Hid ((Cap c.us∧Cap c.en)↔q=true)) (HU:Used c.op true true false true) (w:World):Calls Tryz.prog 12 #[.agg (ccell c).toArray] w fun e w'=>e=.returned (.bool q)∧Below w.heap.size w w':=by
 have SV:=Lib.hid (size_cmd c)
 unfold Used at HU
 have SL0:=Lib.hid (size_lim c.l0)
 have DL0:Hid ((ccell c).drop 3=c.l0.v ++ (ccell c).drop 6):=Lib.hid rfl
 have SL1:=Lib.hid (size_lim c.l1)
 have DL1:Hid ((ccell c).drop 6=c.l1.v ++ (ccell c).drop 9):=Lib.hid rfl
 have SL2:=Lib.hid (size_lim c.l2)
 have DL2:Hid ((ccell c).drop 9=c.l2.v ++ (ccell c).drop 12):=Lib.hid rfl
 have CL0:=fun W=>rlimit_is g0 W
 have CL1:=fun W=>rlimit_is g1 W
 have CL2:=fun W=>rlimit_is g2 W
 obtain ⟨V,hV⟩:∃ V,ccell c=V:=⟨_,rfl⟩
 have v0:V[0]? = some (.int .u8 c.op):=by rw [← hV];rfl
 have v1:V[1]? = some (.int .u32 c.t):=by rw [← hV];rfl
 have v2:V[2]? = some (.int .u32 c.u):=by rw [← hV];rfl
 have v12:V[12]? = some (.int .u8 c.us):=by rw [← hV];rfl
 have v13:V[13]? = some (.int .u8 c.en):=by rw [← hV];rfl
 rw [hV] at SV DL0 DL1 DL2 ⊢
 have CL0:=fun W=>(show Calls Tryz.prog 38 #[.agg c.l0.v.toArray] W _ from CL0 W)
 obtain ⟨M0,hM0⟩:∃ V,c.l0.v=V:=⟨_,rfl⟩
 obtain ⟨T0,hT0⟩:∃ T,V.drop 6=T:=⟨_,rfl⟩
 rw [hM0] at SL0 DL0 CL0
 rw [hT0] at DL0
 have CL1:=fun W=>(show Calls Tryz.prog 38 #[.agg c.l1.v.toArray] W _ from CL1 W)
 obtain ⟨M1,hM1⟩:∃ V,c.l1.v=V:=⟨_,rfl⟩
 obtain ⟨T1,hT1⟩:∃ T,V.drop 9=T:=⟨_,rfl⟩
 rw [hM1] at SL1 DL1 CL1
 rw [hT1] at DL1
 have CL2:=fun W=>(show Calls Tryz.prog 38 #[.agg c.l2.v.toArray] W _ from CL2 W)
 obtain ⟨M2,hM2⟩:∃ V,c.l2.v=V:=⟨_,rfl⟩
 obtain ⟨T2,hT2⟩:∃ T,V.drop 12=T:=⟨_,rfl⟩
 rw [hM2] at SL2 DL2 CL2
 rw [hT2] at DL2
 clear hV hM0 hT0 hM1 hT1 hM2 hT2 g0 g1 g2
 go_enter Tryz.func12,Tryz.ntmps12
 go_upto_region 1 with fail
 refine F_gen (F:=fun W=>Code.wp _ _ _ _ W) (J:=fun W=>Box W (w.heap.size) (V)∧Below w.heap.size w W) (And.intro (Box.newc rfl rfl) (by go_grown)) ?_
 intro w0 ⟨e_c,hB0⟩
 have hs0:=hB0.size
 have x_c0:=e_c;clear e_c
 have ca:=(x_c0).c 0 _ v0
 have za:=(x_c0).lt
 go_wp2_with fail
 refine (HU _).mono ?_
 rintro e w1 ⟨rfl,hb⟩
 clear ca za HU
 have hB1:Below w.heap.size w w1:=below_thru hB0 hb
 have hs1:=hB1.size
 have x_c1:Box w1 (w.heap.size) (V):=Box.below x_c0 hb
 clear hB0 hs0 x_c0
 clear hb
 have cb:=(x_c1).c 1 _ v1
 have zb:=(x_c1).lt
 have cd:=(x_c1).c 2 _ v2
 have zd:=(x_c1).lt
 go_wp2_with fail
 refine wp_loop_rounds 5 ?_
 clear cb zb cd zd
 rw [rounds_succ]
 go_wp2_with (refine wpList_load_rangew rfl _ _ rfl (Box.rangeMid x_c1 3 (M0) (T0) DL0.out) rfl Tryz.underlying32 rfl SL0.out ?_)
 refine (CL0 _).mono ?_
 rintro e w2 ⟨rfl,hb⟩
 have hB2:Below w.heap.size w w2:=below_thru hB1 hb
 have hs2:=hB2.size
 have x_c2:Box w2 (w.heap.size) (V):=Box.below x_c1 hb
 clear hB1 hs1 x_c1
 clear hb
 go_wp2_with fail
 rw [rounds_succ]
 go_wp2_with (refine wpList_load_rangew rfl _ _ rfl (Box.rangeMid x_c2 6 (M1) (T1) DL1.out) rfl Tryz.underlying32 rfl SL1.out ?_)
 refine (CL1 _).mono ?_
 rintro e w3 ⟨rfl,hb⟩
 have hB3:Below w.heap.size w w3:=below_thru hB2 hb
 have hs3:=hB3.size
 have x_c3:Box w3 (w.heap.size) (V):=Box.below x_c2 hb
 clear hB2 hs2 x_c2
 clear hb
 go_wp2_with fail
 rw [rounds_succ]
 go_wp2_with (refine wpList_load_rangew rfl _ _ rfl (Box.rangeMid x_c3 9 (M2) (T2) DL2.out) rfl Tryz.underlying32 rfl SL2.out ?_)
 refine (CL2 _).mono ?_
 rintro e w4 ⟨rfl,hb⟩
 have hB4:Below w.heap.size w w4:=below_thru hB3 hb
 have hs4:=hB4.size
 have x_c4:Box w4 (w.heap.size) (V):=Box.below x_c3 hb
 clear hB3 hs3 x_c3
 clear hb
 go_wp2_with fail
 rw [rounds_succ]
 have cb:=(x_c4).c 12 _ v12
 have zb:=(x_c4).lt
 have cd:=(x_c4).c 13 _ v13
 have zd:=(x_c4).lt
 go_wp2
 all_goals go_returns
 all_goals refine ⟨?_,hB4⟩
 all_goals refine ret_b ?_
 all_goals (rw [Bool.eq_iff_iff,← hq.out];unfold Cap;simp;try omega)
set_option maxRecDepth 100000 in
set_option maxHeartbeats 3200000 in
theorem rc_lz (c:Cmd) {q:Bool} (d1:decide (16≤c.t)=false) (d2:(c.u != 0)=false) (g0:Hid (limE c.l0.b c.l0.r c.l0.p=0)) (g1:Hid (limE c.l1.b c.l1.r c.l1.p=0)) (g2:Hid (limE c.l2.b c.l2.r c.l2.p=0)) (hq:Hid ((c.us=0∧c.en=0)↔q=true)) (HU:Used c.op true false false true) (w:World):Calls Tryz.prog 12 #[.agg (ccell c).toArray] w fun e w'=>e=.returned (.bool q)∧Below w.heap.size w w':=by
 have SV:=Lib.hid (size_cmd c)
 unfold Used at HU
 have SL0:=Lib.hid (size_lim c.l0)
 have DL0:Hid ((ccell c).drop 3=c.l0.v ++ (ccell c).drop 6):=Lib.hid rfl
 have SL1:=Lib.hid (size_lim c.l1)
 have DL1:Hid ((ccell c).drop 6=c.l1.v ++ (ccell c).drop 9):=Lib.hid rfl
 have SL2:=Lib.hid (size_lim c.l2)
 have DL2:Hid ((ccell c).drop 9=c.l2.v ++ (ccell c).drop 12):=Lib.hid rfl
 have CL0:=fun W=>rlimit_is g0 W
 have CL1:=fun W=>rlimit_is g1 W
 have CL2:=fun W=>rlimit_is g2 W
 obtain ⟨V,hV⟩:∃ V,ccell c=V:=⟨_,rfl⟩
 have v0:V[0]? = some (.int .u8 c.op):=by rw [← hV];rfl
 have v1:V[1]? = some (.int .u32 c.t):=by rw [← hV];rfl
 have v2:V[2]? = some (.int .u32 c.u):=by rw [← hV];rfl
 have v12:V[12]? = some (.int .u8 c.us):=by rw [← hV];rfl
 have v13:V[13]? = some (.int .u8 c.en):=by rw [← hV];rfl
 rw [hV] at SV DL0 DL1 DL2 ⊢
 have CL0:=fun W=>(show Calls Tryz.prog 38 #[.agg c.l0.v.toArray] W _ from CL0 W)
 obtain ⟨M0,hM0⟩:∃ V,c.l0.v=V:=⟨_,rfl⟩
 obtain ⟨T0,hT0⟩:∃ T,V.drop 6=T:=⟨_,rfl⟩
 rw [hM0] at SL0 DL0 CL0
 rw [hT0] at DL0
 have CL1:=fun W=>(show Calls Tryz.prog 38 #[.agg c.l1.v.toArray] W _ from CL1 W)
 obtain ⟨M1,hM1⟩:∃ V,c.l1.v=V:=⟨_,rfl⟩
 obtain ⟨T1,hT1⟩:∃ T,V.drop 9=T:=⟨_,rfl⟩
 rw [hM1] at SL1 DL1 CL1
 rw [hT1] at DL1
 have CL2:=fun W=>(show Calls Tryz.prog 38 #[.agg c.l2.v.toArray] W _ from CL2 W)
 obtain ⟨M2,hM2⟩:∃ V,c.l2.v=V:=⟨_,rfl⟩
 obtain ⟨T2,hT2⟩:∃ T,V.drop 12=T:=⟨_,rfl⟩
 rw [hM2] at SL2 DL2 CL2
 rw [hT2] at DL2
 clear hV hM0 hT0 hM1 hT1 hM2 hT2 g0 g1 g2
 go_enter Tryz.func12,Tryz.ntmps12
 go_upto_region 1 with fail
 refine F_gen (F:=fun W=>Code.wp _ _ _ _ W) (J:=fun W=>Box W (w.heap.size) (V)∧Below w.heap.size w W) (And.intro (Box.newc rfl rfl) (by go_grown)) ?_
 intro w0 ⟨e_c,hB0⟩
 have hs0:=hB0.size
 have x_c0:=e_c;clear e_c
 have ca:=(x_c0).c 0 _ v0
 have za:=(x_c0).lt
 go_wp2_with fail
 refine (HU _).mono ?_
 rintro e w1 ⟨rfl,hb⟩
 clear ca za HU
 have hB1:Below w.heap.size w w1:=below_thru hB0 hb
 have hs1:=hB1.size
 have x_c1:Box w1 (w.heap.size) (V):=Box.below x_c0 hb
 clear hB0 hs0 x_c0
 clear hb
 have cb:=(x_c1).c 1 _ v1
 have zb:=(x_c1).lt
 have cd:=(x_c1).c 2 _ v2
 have zd:=(x_c1).lt
 go_wp2_with fail
 refine wp_loop_rounds 5 ?_
 clear cb zb cd zd
 rw [rounds_succ]
 go_wp2_with (refine wpList_load_rangew rfl _ _ rfl (Box.rangeMid x_c1 3 (M0) (T0) DL0.out) rfl Tryz.underlying32 rfl SL0.out ?_)
 refine (CL0 _).mono ?_
 rintro e w2 ⟨rfl,hb⟩
 have hB2:Below w.heap.size w w2:=below_thru hB1 hb
 have hs2:=hB2.size
 have x_c2:Box w2 (w.heap.size) (V):=Box.below x_c1 hb
 clear hB1 hs1 x_c1
 clear hb
 go_wp2_with fail
 rw [rounds_succ]
 go_wp2_with (refine wpList_load_rangew rfl _ _ rfl (Box.rangeMid x_c2 6 (M1) (T1) DL1.out) rfl Tryz.underlying32 rfl SL1.out ?_)
 refine (CL1 _).mono ?_
 rintro e w3 ⟨rfl,hb⟩
 have hB3:Below w.heap.size w w3:=below_thru hB2 hb
 have hs3:=hB3.size
 have x_c3:Box w3 (w.heap.size) (V):=Box.below x_c2 hb
 clear hB2 hs2 x_c2
 clear hb
 go_wp2_with fail
 rw [rounds_succ]
 go_wp2_with (refine wpList_load_rangew rfl _ _ rfl (Box.rangeMid x_c3 9 (M2) (T2) DL2.out) rfl Tryz.underlying32 rfl SL2.out ?_)
 refine (CL2 _).mono ?_
 rintro e w4 ⟨rfl,hb⟩
 have hB4:Below w.heap.size w w4:=below_thru hB3 hb
 have hs4:=hB4.size
 have x_c4:Box w4 (w.heap.size) (V):=Box.below x_c3 hb
 clear hB3 hs3 x_c3
 clear hb
 go_wp2_with fail
 rw [rounds_succ]
 have cb:=(x_c4).c 12 _ v12
 have zb:=(x_c4).lt
 have cd:=(x_c4).c 13 _ v13
 have zd:=(x_c4).lt
 go_wp2
 all_goals go_returns
 all_goals refine ⟨?_,hB4⟩
 all_goals refine ret_b ?_
 all_goals (rw [Bool.eq_iff_iff,← hq.out];simp;try omega)
set_option maxRecDepth 100000 in
set_option maxHeartbeats 3200000 in
theorem rc_z0 (c:Cmd) (d1:decide (16≤c.t)=false) (d2:(c.u != 0)=false) (g0:c.l0 ≠ Lm.zero) (HU:Used c.op false false false true) (w:World):Calls Tryz.prog 12 #[.agg (ccell c).toArray] w fun e w'=>e=.returned (.bool false)∧Below w.heap.size w w':=by
 have SV:=Lib.hid (size_cmd c)
 unfold Used at HU
 have SL0:=Lib.hid (size_lim c.l0)
 have DL0:Hid ((ccell c).drop 3=c.l0.v ++ (ccell c).drop 6):=Lib.hid rfl
 have BL:=fun W=>build_l0 W
 have EL0:=fun W=>eql_f g0 W
 obtain ⟨V,hV⟩:∃ V,ccell c=V:=⟨_,rfl⟩
 have v0:V[0]? = some (.int .u8 c.op):=by rw [← hV];rfl
 have v1:V[1]? = some (.int .u32 c.t):=by rw [← hV];rfl
 have v2:V[2]? = some (.int .u32 c.u):=by rw [← hV];rfl
 have v12:V[12]? = some (.int .u8 c.us):=by rw [← hV];rfl
 have v13:V[13]? = some (.int .u8 c.en):=by rw [← hV];rfl
 rw [hV] at SV DL0 ⊢
 obtain ⟨M0,hM0⟩:∃ V,c.l0.v=V:=⟨_,rfl⟩
 obtain ⟨T0,hT0⟩:∃ T,V.drop 6=T:=⟨_,rfl⟩
 rw [hM0] at SL0 DL0 EL0
 rw [hT0] at DL0
 obtain ⟨Z,hZ⟩:∃ V,Lm.zero.v=V:=⟨_,rfl⟩
 rw [hZ] at BL EL0
 clear hV hM0 hT0 g0 hZ
 go_enter Tryz.func12,Tryz.ntmps12
 go_upto_region 1 with fail
 refine F_gen (F:=fun W=>Code.wp _ _ _ _ W) (J:=fun W=>Box W (w.heap.size) (V)∧Below w.heap.size w W) (And.intro (Box.newc rfl rfl) (by go_grown)) ?_
 intro w0 ⟨e_c,hB0⟩
 have hs0:=hB0.size
 have x_c0:=e_c;clear e_c
 have ca:=(x_c0).c 0 _ v0
 have za:=(x_c0).lt
 go_wp2_with fail
 refine (HU _).mono ?_
 rintro e w1 ⟨rfl,hb⟩
 clear ca za HU
 have hB1:Below w.heap.size w w1:=below_thru hB0 hb
 have hs1:=hB1.size
 have x_c1:Box w1 (w.heap.size) (V):=Box.below x_c0 hb
 clear hB0 hs0 x_c0
 clear hb
 have cb:=(x_c1).c 1 _ v1
 have zb:=(x_c1).lt
 have cd:=(x_c1).c 2 _ v2
 have zd:=(x_c1).lt
 go_wp2_with fail
 refine wp_loop_rounds 5 ?_
 clear cb zb cd zd
 rw [rounds_succ]
 have zc0:=(x_c1).lt
 go_wp2_with (first | (refine wpList_load_rangew rfl _ _ rfl (Box.rangeMid x_c1 3 (M0) (T0) DL0.out) rfl Tryz.underlying32 rfl SL0.out ?_) | (refine wpList_build9 rfl 32 _ rfl (us:=#[]) (by rfl) (BL _) ?_))
 clear zc0
 go_returns
 exact ⟨rfl,hB1⟩
set_option maxRecDepth 100000 in
set_option maxHeartbeats 3200000 in
theorem rc_z1 (c:Cmd) (d1:decide (16≤c.t)=false) (d2:(c.u != 0)=false) (g0:c.l0=Lm.zero) (g1:c.l1 ≠ Lm.zero) (HU:Used c.op false false false true) (w:World):Calls Tryz.prog 12 #[.agg (ccell c).toArray] w fun e w'=>e=.returned (.bool false)∧Below w.heap.size w w':=by
 have SV:=Lib.hid (size_cmd c)
 unfold Used at HU
 have SL0:=Lib.hid (size_lim c.l0)
 have DL0:Hid ((ccell c).drop 3=c.l0.v ++ (ccell c).drop 6):=Lib.hid rfl
 have SL1:=Lib.hid (size_lim c.l1)
 have DL1:Hid ((ccell c).drop 6=c.l1.v ++ (ccell c).drop 9):=Lib.hid rfl
 have BL:=fun W=>build_l0 W
 have EL0:=fun W=>eql_t g0 W
 have EL1:=fun W=>eql_f g1 W
 obtain ⟨V,hV⟩:∃ V,ccell c=V:=⟨_,rfl⟩
 have v0:V[0]? = some (.int .u8 c.op):=by rw [← hV];rfl
 have v1:V[1]? = some (.int .u32 c.t):=by rw [← hV];rfl
 have v2:V[2]? = some (.int .u32 c.u):=by rw [← hV];rfl
 have v12:V[12]? = some (.int .u8 c.us):=by rw [← hV];rfl
 have v13:V[13]? = some (.int .u8 c.en):=by rw [← hV];rfl
 rw [hV] at SV DL0 DL1 ⊢
 obtain ⟨M0,hM0⟩:∃ V,c.l0.v=V:=⟨_,rfl⟩
 obtain ⟨T0,hT0⟩:∃ T,V.drop 6=T:=⟨_,rfl⟩
 rw [hM0] at SL0 DL0 EL0
 rw [hT0] at DL0
 obtain ⟨M1,hM1⟩:∃ V,c.l1.v=V:=⟨_,rfl⟩
 obtain ⟨T1,hT1⟩:∃ T,V.drop 9=T:=⟨_,rfl⟩
 rw [hM1] at SL1 DL1 EL1
 rw [hT1] at DL1
 obtain ⟨Z,hZ⟩:∃ V,Lm.zero.v=V:=⟨_,rfl⟩
 rw [hZ] at BL EL0 EL1
 clear hV hM0 hT0 hM1 hT1 g0 g1 hZ
 go_enter Tryz.func12,Tryz.ntmps12
 go_upto_region 1 with fail
 refine F_gen (F:=fun W=>Code.wp _ _ _ _ W) (J:=fun W=>Box W (w.heap.size) (V)∧Below w.heap.size w W) (And.intro (Box.newc rfl rfl) (by go_grown)) ?_
 intro w0 ⟨e_c,hB0⟩
 have hs0:=hB0.size
 have x_c0:=e_c;clear e_c
 have ca:=(x_c0).c 0 _ v0
 have za:=(x_c0).lt
 go_wp2_with fail
 refine (HU _).mono ?_
 rintro e w1 ⟨rfl,hb⟩
 clear ca za HU
 have hB1:Below w.heap.size w w1:=below_thru hB0 hb
 have hs1:=hB1.size
 have x_c1:Box w1 (w.heap.size) (V):=Box.below x_c0 hb
 clear hB0 hs0 x_c0
 clear hb
 have cb:=(x_c1).c 1 _ v1
 have zb:=(x_c1).lt
 have cd:=(x_c1).c 2 _ v2
 have zd:=(x_c1).lt
 go_wp2_with fail
 refine wp_loop_rounds 5 ?_
 clear cb zb cd zd
 rw [rounds_succ]
 have zc0:=(x_c1).lt
 go_wp2_with (first | (refine wpList_load_rangew rfl _ _ rfl (Box.rangeMid x_c1 3 (M0) (T0) DL0.out) rfl Tryz.underlying32 rfl SL0.out ?_) | (refine wpList_build9 rfl 32 _ rfl (us:=#[]) (by rfl) (BL _) ?_))
 clear zc0
 rw [rounds_succ]
 have zc1:=(x_c1).lt
 go_wp2_with (first | (refine wpList_load_rangew rfl _ _ rfl (Box.rangeMid x_c1 6 (M1) (T1) DL1.out) rfl Tryz.underlying32 rfl SL1.out ?_) | (refine wpList_build9 rfl 32 _ rfl (us:=#[]) (by rfl) (BL _) ?_))
 clear zc1
 go_returns
 exact ⟨rfl,hB1⟩
set_option maxRecDepth 100000 in
set_option maxHeartbeats 3200000 in
theorem rc_z2 (c:Cmd) (d1:decide (16≤c.t)=false) (d2:(c.u != 0)=false) (g0:c.l0=Lm.zero) (g1:c.l1=Lm.zero) (g2:c.l2 ≠ Lm.zero) (HU:Used c.op false false false true) (w:World):Calls Tryz.prog 12 #[.agg (ccell c).toArray] w fun e w'=>e=.returned (.bool false)∧Below w.heap.size w w':=by
 have SV:=Lib.hid (size_cmd c)
 unfold Used at HU
 have SL0:=Lib.hid (size_lim c.l0)
 have DL0:Hid ((ccell c).drop 3=c.l0.v ++ (ccell c).drop 6):=Lib.hid rfl
 have SL1:=Lib.hid (size_lim c.l1)
 have DL1:Hid ((ccell c).drop 6=c.l1.v ++ (ccell c).drop 9):=Lib.hid rfl
 have SL2:=Lib.hid (size_lim c.l2)
 have DL2:Hid ((ccell c).drop 9=c.l2.v ++ (ccell c).drop 12):=Lib.hid rfl
 have BL:=fun W=>build_l0 W
 have EL0:=fun W=>eql_t g0 W
 have EL1:=fun W=>eql_t g1 W
 have EL2:=fun W=>eql_f g2 W
 obtain ⟨V,hV⟩:∃ V,ccell c=V:=⟨_,rfl⟩
 have v0:V[0]? = some (.int .u8 c.op):=by rw [← hV];rfl
 have v1:V[1]? = some (.int .u32 c.t):=by rw [← hV];rfl
 have v2:V[2]? = some (.int .u32 c.u):=by rw [← hV];rfl
 have v12:V[12]? = some (.int .u8 c.us):=by rw [← hV];rfl
 have v13:V[13]? = some (.int .u8 c.en):=by rw [← hV];rfl
 rw [hV] at SV DL0 DL1 DL2 ⊢
 obtain ⟨M0,hM0⟩:∃ V,c.l0.v=V:=⟨_,rfl⟩
 obtain ⟨T0,hT0⟩:∃ T,V.drop 6=T:=⟨_,rfl⟩
 rw [hM0] at SL0 DL0 EL0
 rw [hT0] at DL0
 obtain ⟨M1,hM1⟩:∃ V,c.l1.v=V:=⟨_,rfl⟩
 obtain ⟨T1,hT1⟩:∃ T,V.drop 9=T:=⟨_,rfl⟩
 rw [hM1] at SL1 DL1 EL1
 rw [hT1] at DL1
 obtain ⟨M2,hM2⟩:∃ V,c.l2.v=V:=⟨_,rfl⟩
 obtain ⟨T2,hT2⟩:∃ T,V.drop 12=T:=⟨_,rfl⟩
 rw [hM2] at SL2 DL2 EL2
 rw [hT2] at DL2
 obtain ⟨Z,hZ⟩:∃ V,Lm.zero.v=V:=⟨_,rfl⟩
 rw [hZ] at BL EL0 EL1 EL2
 clear hV hM0 hT0 hM1 hT1 hM2 hT2 g0 g1 g2 hZ
 go_enter Tryz.func12,Tryz.ntmps12
 go_upto_region 1 with fail
 refine F_gen (F:=fun W=>Code.wp _ _ _ _ W) (J:=fun W=>Box W (w.heap.size) (V)∧Below w.heap.size w W) (And.intro (Box.newc rfl rfl) (by go_grown)) ?_
 intro w0 ⟨e_c,hB0⟩
 have hs0:=hB0.size
 have x_c0:=e_c;clear e_c
 have ca:=(x_c0).c 0 _ v0
 have za:=(x_c0).lt
 go_wp2_with fail
 refine (HU _).mono ?_
 rintro e w1 ⟨rfl,hb⟩
 clear ca za HU
 have hB1:Below w.heap.size w w1:=below_thru hB0 hb
 have hs1:=hB1.size
 have x_c1:Box w1 (w.heap.size) (V):=Box.below x_c0 hb
 clear hB0 hs0 x_c0
 clear hb
 have cb:=(x_c1).c 1 _ v1
 have zb:=(x_c1).lt
 have cd:=(x_c1).c 2 _ v2
 have zd:=(x_c1).lt
 go_wp2_with fail
 refine wp_loop_rounds 5 ?_
 clear cb zb cd zd
 rw [rounds_succ]
 have zc0:=(x_c1).lt
 go_wp2_with (first | (refine wpList_load_rangew rfl _ _ rfl (Box.rangeMid x_c1 3 (M0) (T0) DL0.out) rfl Tryz.underlying32 rfl SL0.out ?_) | (refine wpList_build9 rfl 32 _ rfl (us:=#[]) (by rfl) (BL _) ?_))
 clear zc0
 rw [rounds_succ]
 have zc1:=(x_c1).lt
 go_wp2_with (first | (refine wpList_load_rangew rfl _ _ rfl (Box.rangeMid x_c1 6 (M1) (T1) DL1.out) rfl Tryz.underlying32 rfl SL1.out ?_) | (refine wpList_build9 rfl 32 _ rfl (us:=#[]) (by rfl) (BL _) ?_))
 clear zc1
 rw [rounds_succ]
 have zc2:=(x_c1).lt
 go_wp2_with (first | (refine wpList_load_rangew rfl _ _ rfl (Box.rangeMid x_c1 9 (M2) (T2) DL2.out) rfl Tryz.underlying32 rfl SL2.out ?_) | (refine wpList_build9 rfl 32 _ rfl (us:=#[]) (by rfl) (BL _) ?_))
 clear zc2
 go_returns
 exact ⟨rfl,hB1⟩
set_option maxRecDepth 100000 in
set_option maxHeartbeats 3200000 in
theorem rc_z (c:Cmd) {q:Bool} (d1:decide (16≤c.t)=false) (d2:(c.u != 0)=false) (g0:c.l0=Lm.zero) (g1:c.l1=Lm.zero) (g2:c.l2=Lm.zero) (hq:Hid ((c.us=0∧c.en=0)↔q=true)) (HU:Used c.op false false false true) (w:World):Calls Tryz.prog 12 #[.agg (ccell c).toArray] w fun e w'=>e=.returned (.bool q)∧Below w.heap.size w w':=by
 have SV:=Lib.hid (size_cmd c)
 unfold Used at HU
 have SL0:=Lib.hid (size_lim c.l0)
 have DL0:Hid ((ccell c).drop 3=c.l0.v ++ (ccell c).drop 6):=Lib.hid rfl
 have SL1:=Lib.hid (size_lim c.l1)
 have DL1:Hid ((ccell c).drop 6=c.l1.v ++ (ccell c).drop 9):=Lib.hid rfl
 have SL2:=Lib.hid (size_lim c.l2)
 have DL2:Hid ((ccell c).drop 9=c.l2.v ++ (ccell c).drop 12):=Lib.hid rfl
 have BL:=fun W=>build_l0 W
 have EL0:=fun W=>eql_t g0 W
 have EL1:=fun W=>eql_t g1 W
 have EL2:=fun W=>eql_t g2 W
 obtain ⟨V,hV⟩:∃ V,ccell c=V:=⟨_,rfl⟩
 have v0:V[0]? = some (.int .u8 c.op):=by rw [← hV];rfl
 have v1:V[1]? = some (.int .u32 c.t):=by rw [← hV];rfl
 have v2:V[2]? = some (.int .u32 c.u):=by rw [← hV];rfl
 have v12:V[12]? = some (.int .u8 c.us):=by rw [← hV];rfl
 have v13:V[13]? = some (.int .u8 c.en):=by rw [← hV];rfl
 rw [hV] at SV DL0 DL1 DL2 ⊢
 obtain ⟨M0,hM0⟩:∃ V,c.l0.v=V:=⟨_,rfl⟩
 obtain ⟨T0,hT0⟩:∃ T,V.drop 6=T:=⟨_,rfl⟩
 rw [hM0] at SL0 DL0 EL0
 rw [hT0] at DL0
 obtain ⟨M1,hM1⟩:∃ V,c.l1.v=V:=⟨_,rfl⟩
 obtain ⟨T1,hT1⟩:∃ T,V.drop 9=T:=⟨_,rfl⟩
 rw [hM1] at SL1 DL1 EL1
 rw [hT1] at DL1
 obtain ⟨M2,hM2⟩:∃ V,c.l2.v=V:=⟨_,rfl⟩
 obtain ⟨T2,hT2⟩:∃ T,V.drop 12=T:=⟨_,rfl⟩
 rw [hM2] at SL2 DL2 EL2
 rw [hT2] at DL2
 obtain ⟨Z,hZ⟩:∃ V,Lm.zero.v=V:=⟨_,rfl⟩
 rw [hZ] at BL EL0 EL1 EL2
 clear hV hM0 hT0 hM1 hT1 hM2 hT2 g0 g1 g2 hZ
 go_enter Tryz.func12,Tryz.ntmps12
 go_upto_region 1 with fail
 refine F_gen (F:=fun W=>Code.wp _ _ _ _ W) (J:=fun W=>Box W (w.heap.size) (V)∧Below w.heap.size w W) (And.intro (Box.newc rfl rfl) (by go_grown)) ?_
 intro w0 ⟨e_c,hB0⟩
 have hs0:=hB0.size
 have x_c0:=e_c;clear e_c
 have ca:=(x_c0).c 0 _ v0
 have za:=(x_c0).lt
 go_wp2_with fail
 refine (HU _).mono ?_
 rintro e w1 ⟨rfl,hb⟩
 clear ca za HU
 have hB1:Below w.heap.size w w1:=below_thru hB0 hb
 have hs1:=hB1.size
 have x_c1:Box w1 (w.heap.size) (V):=Box.below x_c0 hb
 clear hB0 hs0 x_c0
 clear hb
 have cb:=(x_c1).c 1 _ v1
 have zb:=(x_c1).lt
 have cd:=(x_c1).c 2 _ v2
 have zd:=(x_c1).lt
 go_wp2_with fail
 refine wp_loop_rounds 5 ?_
 clear cb zb cd zd
 rw [rounds_succ]
 have zc0:=(x_c1).lt
 go_wp2_with (first | (refine wpList_load_rangew rfl _ _ rfl (Box.rangeMid x_c1 3 (M0) (T0) DL0.out) rfl Tryz.underlying32 rfl SL0.out ?_) | (refine wpList_build9 rfl 32 _ rfl (us:=#[]) (by rfl) (BL _) ?_))
 clear zc0
 rw [rounds_succ]
 have zc1:=(x_c1).lt
 go_wp2_with (first | (refine wpList_load_rangew rfl _ _ rfl (Box.rangeMid x_c1 6 (M1) (T1) DL1.out) rfl Tryz.underlying32 rfl SL1.out ?_) | (refine wpList_build9 rfl 32 _ rfl (us:=#[]) (by rfl) (BL _) ?_))
 clear zc1
 rw [rounds_succ]
 have zc2:=(x_c1).lt
 go_wp2_with (first | (refine wpList_load_rangew rfl _ _ rfl (Box.rangeMid x_c1 9 (M2) (T2) DL2.out) rfl Tryz.underlying32 rfl SL2.out ?_) | (refine wpList_build9 rfl 32 _ rfl (us:=#[]) (by rfl) (BL _) ?_))
 clear zc2
 rw [rounds_succ]
 have cb:=(x_c1).c 12 _ v12
 have zb:=(x_c1).lt
 have cd:=(x_c1).c 13 _ v13
 have zd:=(x_c1).lt
 go_wp2
 all_goals go_returns
 all_goals refine ⟨?_,hB1⟩
 all_goals refine ret_b ?_
 all_goals (rw [Bool.eq_iff_iff,← hq.out];simp;try omega)
set_option maxRecDepth 100000 in
set_option maxHeartbeats 3200000 in
theorem rc_zu0 (c:Cmd) (d1:decide (16≤c.t)=false) (g0:c.l0 ≠ Lm.zero) (HU:Used c.op false false true true) (w:World):Calls Tryz.prog 12 #[.agg (ccell c).toArray] w fun e w'=>e=.returned (.bool false)∧Below w.heap.size w w':=by
 have SV:=Lib.hid (size_cmd c)
 unfold Used at HU
 have SL0:=Lib.hid (size_lim c.l0)
 have DL0:Hid ((ccell c).drop 3=c.l0.v ++ (ccell c).drop 6):=Lib.hid rfl
 have BL:=fun W=>build_l0 W
 have EL0:=fun W=>eql_f g0 W
 obtain ⟨V,hV⟩:∃ V,ccell c=V:=⟨_,rfl⟩
 have v0:V[0]? = some (.int .u8 c.op):=by rw [← hV];rfl
 have v1:V[1]? = some (.int .u32 c.t):=by rw [← hV];rfl
 have v2:V[2]? = some (.int .u32 c.u):=by rw [← hV];rfl
 have v12:V[12]? = some (.int .u8 c.us):=by rw [← hV];rfl
 have v13:V[13]? = some (.int .u8 c.en):=by rw [← hV];rfl
 rw [hV] at SV DL0 ⊢
 obtain ⟨M0,hM0⟩:∃ V,c.l0.v=V:=⟨_,rfl⟩
 obtain ⟨T0,hT0⟩:∃ T,V.drop 6=T:=⟨_,rfl⟩
 rw [hM0] at SL0 DL0 EL0
 rw [hT0] at DL0
 obtain ⟨Z,hZ⟩:∃ V,Lm.zero.v=V:=⟨_,rfl⟩
 rw [hZ] at BL EL0
 clear hV hM0 hT0 g0 hZ
 go_enter Tryz.func12,Tryz.ntmps12
 go_upto_region 1 with fail
 refine F_gen (F:=fun W=>Code.wp _ _ _ _ W) (J:=fun W=>Box W (w.heap.size) (V)∧Below w.heap.size w W) (And.intro (Box.newc rfl rfl) (by go_grown)) ?_
 intro w0 ⟨e_c,hB0⟩
 have hs0:=hB0.size
 have x_c0:=e_c;clear e_c
 have ca:=(x_c0).c 0 _ v0
 have za:=(x_c0).lt
 go_wp2_with fail
 refine (HU _).mono ?_
 rintro e w1 ⟨rfl,hb⟩
 clear ca za HU
 have hB1:Below w.heap.size w w1:=below_thru hB0 hb
 have hs1:=hB1.size
 have x_c1:Box w1 (w.heap.size) (V):=Box.below x_c0 hb
 clear hB0 hs0 x_c0
 clear hb
 have cb:=(x_c1).c 1 _ v1
 have zb:=(x_c1).lt
 have cd:=(x_c1).c 2 _ v2
 have zd:=(x_c1).lt
 go_wp2_with fail
 refine wp_loop_rounds 5 ?_
 clear cb zb cd zd
 rw [rounds_succ]
 have zc0:=(x_c1).lt
 go_wp2_with (first | (refine wpList_load_rangew rfl _ _ rfl (Box.rangeMid x_c1 3 (M0) (T0) DL0.out) rfl Tryz.underlying32 rfl SL0.out ?_) | (refine wpList_build9 rfl 32 _ rfl (us:=#[]) (by rfl) (BL _) ?_))
 clear zc0
 go_returns
 exact ⟨rfl,hB1⟩
set_option maxRecDepth 100000 in
set_option maxHeartbeats 3200000 in
theorem rc_zu1 (c:Cmd) (d1:decide (16≤c.t)=false) (g0:c.l0=Lm.zero) (g1:c.l1 ≠ Lm.zero) (HU:Used c.op false false true true) (w:World):Calls Tryz.prog 12 #[.agg (ccell c).toArray] w fun e w'=>e=.returned (.bool false)∧Below w.heap.size w w':=by
 have SV:=Lib.hid (size_cmd c)
 unfold Used at HU
 have SL0:=Lib.hid (size_lim c.l0)
 have DL0:Hid ((ccell c).drop 3=c.l0.v ++ (ccell c).drop 6):=Lib.hid rfl
 have SL1:=Lib.hid (size_lim c.l1)
 have DL1:Hid ((ccell c).drop 6=c.l1.v ++ (ccell c).drop 9):=Lib.hid rfl
 have BL:=fun W=>build_l0 W
 have EL0:=fun W=>eql_t g0 W
 have EL1:=fun W=>eql_f g1 W
 obtain ⟨V,hV⟩:∃ V,ccell c=V:=⟨_,rfl⟩
 have v0:V[0]? = some (.int .u8 c.op):=by rw [← hV];rfl
 have v1:V[1]? = some (.int .u32 c.t):=by rw [← hV];rfl
 have v2:V[2]? = some (.int .u32 c.u):=by rw [← hV];rfl
 have v12:V[12]? = some (.int .u8 c.us):=by rw [← hV];rfl
 have v13:V[13]? = some (.int .u8 c.en):=by rw [← hV];rfl
 rw [hV] at SV DL0 DL1 ⊢
 obtain ⟨M0,hM0⟩:∃ V,c.l0.v=V:=⟨_,rfl⟩
 obtain ⟨T0,hT0⟩:∃ T,V.drop 6=T:=⟨_,rfl⟩
 rw [hM0] at SL0 DL0 EL0
 rw [hT0] at DL0
 obtain ⟨M1,hM1⟩:∃ V,c.l1.v=V:=⟨_,rfl⟩
 obtain ⟨T1,hT1⟩:∃ T,V.drop 9=T:=⟨_,rfl⟩
 rw [hM1] at SL1 DL1 EL1
 rw [hT1] at DL1
 obtain ⟨Z,hZ⟩:∃ V,Lm.zero.v=V:=⟨_,rfl⟩
 rw [hZ] at BL EL0 EL1
 clear hV hM0 hT0 hM1 hT1 g0 g1 hZ
 go_enter Tryz.func12,Tryz.ntmps12
 go_upto_region 1 with fail
 refine F_gen (F:=fun W=>Code.wp _ _ _ _ W) (J:=fun W=>Box W (w.heap.size) (V)∧Below w.heap.size w W) (And.intro (Box.newc rfl rfl) (by go_grown)) ?_
 intro w0 ⟨e_c,hB0⟩
 have hs0:=hB0.size
 have x_c0:=e_c;clear e_c
 have ca:=(x_c0).c 0 _ v0
 have za:=(x_c0).lt
 go_wp2_with fail
 refine (HU _).mono ?_
 rintro e w1 ⟨rfl,hb⟩
 clear ca za HU
 have hB1:Below w.heap.size w w1:=below_thru hB0 hb
 have hs1:=hB1.size
 have x_c1:Box w1 (w.heap.size) (V):=Box.below x_c0 hb
 clear hB0 hs0 x_c0
 clear hb
 have cb:=(x_c1).c 1 _ v1
 have zb:=(x_c1).lt
 have cd:=(x_c1).c 2 _ v2
 have zd:=(x_c1).lt
 go_wp2_with fail
 refine wp_loop_rounds 5 ?_
 clear cb zb cd zd
 rw [rounds_succ]
 have zc0:=(x_c1).lt
 go_wp2_with (first | (refine wpList_load_rangew rfl _ _ rfl (Box.rangeMid x_c1 3 (M0) (T0) DL0.out) rfl Tryz.underlying32 rfl SL0.out ?_) | (refine wpList_build9 rfl 32 _ rfl (us:=#[]) (by rfl) (BL _) ?_))
 clear zc0
 rw [rounds_succ]
 have zc1:=(x_c1).lt
 go_wp2_with (first | (refine wpList_load_rangew rfl _ _ rfl (Box.rangeMid x_c1 6 (M1) (T1) DL1.out) rfl Tryz.underlying32 rfl SL1.out ?_) | (refine wpList_build9 rfl 32 _ rfl (us:=#[]) (by rfl) (BL _) ?_))
 clear zc1
 go_returns
 exact ⟨rfl,hB1⟩
set_option maxRecDepth 100000 in
set_option maxHeartbeats 3200000 in
theorem rc_zu2 (c:Cmd) (d1:decide (16≤c.t)=false) (g0:c.l0=Lm.zero) (g1:c.l1=Lm.zero) (g2:c.l2 ≠ Lm.zero) (HU:Used c.op false false true true) (w:World):Calls Tryz.prog 12 #[.agg (ccell c).toArray] w fun e w'=>e=.returned (.bool false)∧Below w.heap.size w w':=by
 have SV:=Lib.hid (size_cmd c)
 unfold Used at HU
 have SL0:=Lib.hid (size_lim c.l0)
 have DL0:Hid ((ccell c).drop 3=c.l0.v ++ (ccell c).drop 6):=Lib.hid rfl
 have SL1:=Lib.hid (size_lim c.l1)
 have DL1:Hid ((ccell c).drop 6=c.l1.v ++ (ccell c).drop 9):=Lib.hid rfl
 have SL2:=Lib.hid (size_lim c.l2)
 have DL2:Hid ((ccell c).drop 9=c.l2.v ++ (ccell c).drop 12):=Lib.hid rfl
 have BL:=fun W=>build_l0 W
 have EL0:=fun W=>eql_t g0 W
 have EL1:=fun W=>eql_t g1 W
 have EL2:=fun W=>eql_f g2 W
 obtain ⟨V,hV⟩:∃ V,ccell c=V:=⟨_,rfl⟩
 have v0:V[0]? = some (.int .u8 c.op):=by rw [← hV];rfl
 have v1:V[1]? = some (.int .u32 c.t):=by rw [← hV];rfl
 have v2:V[2]? = some (.int .u32 c.u):=by rw [← hV];rfl
 have v12:V[12]? = some (.int .u8 c.us):=by rw [← hV];rfl
 have v13:V[13]? = some (.int .u8 c.en):=by rw [← hV];rfl
 rw [hV] at SV DL0 DL1 DL2 ⊢
 obtain ⟨M0,hM0⟩:∃ V,c.l0.v=V:=⟨_,rfl⟩
 obtain ⟨T0,hT0⟩:∃ T,V.drop 6=T:=⟨_,rfl⟩
 rw [hM0] at SL0 DL0 EL0
 rw [hT0] at DL0
 obtain ⟨M1,hM1⟩:∃ V,c.l1.v=V:=⟨_,rfl⟩
 obtain ⟨T1,hT1⟩:∃ T,V.drop 9=T:=⟨_,rfl⟩
 rw [hM1] at SL1 DL1 EL1
 rw [hT1] at DL1
 obtain ⟨M2,hM2⟩:∃ V,c.l2.v=V:=⟨_,rfl⟩
 obtain ⟨T2,hT2⟩:∃ T,V.drop 12=T:=⟨_,rfl⟩
 rw [hM2] at SL2 DL2 EL2
 rw [hT2] at DL2
 obtain ⟨Z,hZ⟩:∃ V,Lm.zero.v=V:=⟨_,rfl⟩
 rw [hZ] at BL EL0 EL1 EL2
 clear hV hM0 hT0 hM1 hT1 hM2 hT2 g0 g1 g2 hZ
 go_enter Tryz.func12,Tryz.ntmps12
 go_upto_region 1 with fail
 refine F_gen (F:=fun W=>Code.wp _ _ _ _ W) (J:=fun W=>Box W (w.heap.size) (V)∧Below w.heap.size w W) (And.intro (Box.newc rfl rfl) (by go_grown)) ?_
 intro w0 ⟨e_c,hB0⟩
 have hs0:=hB0.size
 have x_c0:=e_c;clear e_c
 have ca:=(x_c0).c 0 _ v0
 have za:=(x_c0).lt
 go_wp2_with fail
 refine (HU _).mono ?_
 rintro e w1 ⟨rfl,hb⟩
 clear ca za HU
 have hB1:Below w.heap.size w w1:=below_thru hB0 hb
 have hs1:=hB1.size
 have x_c1:Box w1 (w.heap.size) (V):=Box.below x_c0 hb
 clear hB0 hs0 x_c0
 clear hb
 have cb:=(x_c1).c 1 _ v1
 have zb:=(x_c1).lt
 have cd:=(x_c1).c 2 _ v2
 have zd:=(x_c1).lt
 go_wp2_with fail
 refine wp_loop_rounds 5 ?_
 clear cb zb cd zd
 rw [rounds_succ]
 have zc0:=(x_c1).lt
 go_wp2_with (first | (refine wpList_load_rangew rfl _ _ rfl (Box.rangeMid x_c1 3 (M0) (T0) DL0.out) rfl Tryz.underlying32 rfl SL0.out ?_) | (refine wpList_build9 rfl 32 _ rfl (us:=#[]) (by rfl) (BL _) ?_))
 clear zc0
 rw [rounds_succ]
 have zc1:=(x_c1).lt
 go_wp2_with (first | (refine wpList_load_rangew rfl _ _ rfl (Box.rangeMid x_c1 6 (M1) (T1) DL1.out) rfl Tryz.underlying32 rfl SL1.out ?_) | (refine wpList_build9 rfl 32 _ rfl (us:=#[]) (by rfl) (BL _) ?_))
 clear zc1
 rw [rounds_succ]
 have zc2:=(x_c1).lt
 go_wp2_with (first | (refine wpList_load_rangew rfl _ _ rfl (Box.rangeMid x_c1 9 (M2) (T2) DL2.out) rfl Tryz.underlying32 rfl SL2.out ?_) | (refine wpList_build9 rfl 32 _ rfl (us:=#[]) (by rfl) (BL _) ?_))
 clear zc2
 go_returns
 exact ⟨rfl,hB1⟩
set_option maxRecDepth 100000 in
set_option maxHeartbeats 3200000 in
theorem rc_zu (c:Cmd) {q:Bool} (d1:decide (16≤c.t)=false) (g0:c.l0=Lm.zero) (g1:c.l1=Lm.zero) (g2:c.l2=Lm.zero) (hq:Hid ((c.us=0∧c.en=0)↔q=true)) (HU:Used c.op false false true true) (w:World):Calls Tryz.prog 12 #[.agg (ccell c).toArray] w fun e w'=>e=.returned (.bool q)∧Below w.heap.size w w':=by
 have SV:=Lib.hid (size_cmd c)
 unfold Used at HU
 have SL0:=Lib.hid (size_lim c.l0)
 have DL0:Hid ((ccell c).drop 3=c.l0.v ++ (ccell c).drop 6):=Lib.hid rfl
 have SL1:=Lib.hid (size_lim c.l1)
 have DL1:Hid ((ccell c).drop 6=c.l1.v ++ (ccell c).drop 9):=Lib.hid rfl
 have SL2:=Lib.hid (size_lim c.l2)
 have DL2:Hid ((ccell c).drop 9=c.l2.v ++ (ccell c).drop 12):=Lib.hid rfl
 have BL:=fun W=>build_l0 W
 have EL0:=fun W=>eql_t g0 W
 have EL1:=fun W=>eql_t g1 W
 have EL2:=fun W=>eql_t g2 W
 obtain ⟨V,hV⟩:∃ V,ccell c=V:=⟨_,rfl⟩
 have v0:V[0]? = some (.int .u8 c.op):=by rw [← hV];rfl
 have v1:V[1]? = some (.int .u32 c.t):=by rw [← hV];rfl
 have v2:V[2]? = some (.int .u32 c.u):=by rw [← hV];rfl
 have v12:V[12]? = some (.int .u8 c.us):=by rw [← hV];rfl
 have v13:V[13]? = some (.int .u8 c.en):=by rw [← hV];rfl
 rw [hV] at SV DL0 DL1 DL2 ⊢
 obtain ⟨M0,hM0⟩:∃ V,c.l0.v=V:=⟨_,rfl⟩
 obtain ⟨T0,hT0⟩:∃ T,V.drop 6=T:=⟨_,rfl⟩
 rw [hM0] at SL0 DL0 EL0
 rw [hT0] at DL0
 obtain ⟨M1,hM1⟩:∃ V,c.l1.v=V:=⟨_,rfl⟩
 obtain ⟨T1,hT1⟩:∃ T,V.drop 9=T:=⟨_,rfl⟩
 rw [hM1] at SL1 DL1 EL1
 rw [hT1] at DL1
 obtain ⟨M2,hM2⟩:∃ V,c.l2.v=V:=⟨_,rfl⟩
 obtain ⟨T2,hT2⟩:∃ T,V.drop 12=T:=⟨_,rfl⟩
 rw [hM2] at SL2 DL2 EL2
 rw [hT2] at DL2
 obtain ⟨Z,hZ⟩:∃ V,Lm.zero.v=V:=⟨_,rfl⟩
 rw [hZ] at BL EL0 EL1 EL2
 clear hV hM0 hT0 hM1 hT1 hM2 hT2 g0 g1 g2 hZ
 go_enter Tryz.func12,Tryz.ntmps12
 go_upto_region 1 with fail
 refine F_gen (F:=fun W=>Code.wp _ _ _ _ W) (J:=fun W=>Box W (w.heap.size) (V)∧Below w.heap.size w W) (And.intro (Box.newc rfl rfl) (by go_grown)) ?_
 intro w0 ⟨e_c,hB0⟩
 have hs0:=hB0.size
 have x_c0:=e_c;clear e_c
 have ca:=(x_c0).c 0 _ v0
 have za:=(x_c0).lt
 go_wp2_with fail
 refine (HU _).mono ?_
 rintro e w1 ⟨rfl,hb⟩
 clear ca za HU
 have hB1:Below w.heap.size w w1:=below_thru hB0 hb
 have hs1:=hB1.size
 have x_c1:Box w1 (w.heap.size) (V):=Box.below x_c0 hb
 clear hB0 hs0 x_c0
 clear hb
 have cb:=(x_c1).c 1 _ v1
 have zb:=(x_c1).lt
 have cd:=(x_c1).c 2 _ v2
 have zd:=(x_c1).lt
 go_wp2_with fail
 refine wp_loop_rounds 5 ?_
 clear cb zb cd zd
 rw [rounds_succ]
 have zc0:=(x_c1).lt
 go_wp2_with (first | (refine wpList_load_rangew rfl _ _ rfl (Box.rangeMid x_c1 3 (M0) (T0) DL0.out) rfl Tryz.underlying32 rfl SL0.out ?_) | (refine wpList_build9 rfl 32 _ rfl (us:=#[]) (by rfl) (BL _) ?_))
 clear zc0
 rw [rounds_succ]
 have zc1:=(x_c1).lt
 go_wp2_with (first | (refine wpList_load_rangew rfl _ _ rfl (Box.rangeMid x_c1 6 (M1) (T1) DL1.out) rfl Tryz.underlying32 rfl SL1.out ?_) | (refine wpList_build9 rfl 32 _ rfl (us:=#[]) (by rfl) (BL _) ?_))
 clear zc1
 rw [rounds_succ]
 have zc2:=(x_c1).lt
 go_wp2_with (first | (refine wpList_load_rangew rfl _ _ rfl (Box.rangeMid x_c1 9 (M2) (T2) DL2.out) rfl Tryz.underlying32 rfl SL2.out ?_) | (refine wpList_build9 rfl 32 _ rfl (us:=#[]) (by rfl) (BL _) ?_))
 clear zc2
 rw [rounds_succ]
 have cb:=(x_c1).c 12 _ v12
 have zb:=(x_c1).lt
 have cd:=(x_c1).c 13 _ v13
 have zd:=(x_c1).lt
 go_wp2
 all_goals go_returns
 all_goals refine ⟨?_,hB1⟩
 all_goals refine ret_b ?_
 all_goals (rw [Bool.eq_iff_iff,← hq.out];simp;try omega)
theorem hid_ok {l:Lm} (h:l.ok):Hid (limE l.b l.r l.p=0):=Lib.hid h
theorem hid_no {l:Lm} (h:¬ l.ok):Hid (limE l.b l.r l.p=8):=Lib.hid (Lm.not_ok h)
theorem iff_t {p q:Prop} {b:Bool} (h:p↔q) (hb:p↔b=true):q↔b=true:=h.symm.trans hb
theorem risc_is (c:Cmd) {q:Bool} (hq:Hid (c.Ok↔q=true)) (w:World):Calls Tryz.prog 12 #[.agg (ccell c).toArray] w fun e w'=>e=.returned (.bool q)∧Below w.heap.size w w':=by
 have hf:¬ c.Ok→q=false:=fun h=>by
   cases q
   · rfl
   · exact absurd (hq.out.2 rfl) h
 by_cases on:c.op ≠ 1∧c.op ≠ 2∧c.op ≠ 3∧c.op ≠ 4∧c.op ≠ 5
 · rw [hf (fun h=>by rcases h.2 with g | g | g | g <;> omega)]
   exact rc_n c (used_n (by simpa using on.1) (by simpa using on.2.2.1) (by simpa using on.2.2.2.2) c.hop.1 on.1 on.2.1 on.2.2.1 on.2.2.2.1 on.2.2.2.2) w
 have hu:∃ L C U:Bool,Used c.op L C U true∧((L=true∧C=true∧U=false∧c.op=1)∨(L=true∧C=false∧U=false∧c.op=3)∨(L=false∧C=false∧U=false∧(c.op=2∨c.op=4))∨(L=false∧C=false∧U=true∧c.op=5)):=by
   have:c.op=1∨c.op=2∨c.op=3∨c.op=4∨c.op=5:=by omega
   rcases this with h | h | h | h | h <;> rw [h]
   · exact ⟨_,_,_,used_1,Or.inl ⟨rfl,rfl,rfl,rfl⟩⟩
   · exact ⟨_,_,_,used_2,Or.inr (Or.inr (Or.inl ⟨rfl,rfl,rfl,Or.inl rfl⟩))⟩
   · exact ⟨_,_,_,used_3,Or.inr (Or.inl ⟨rfl,rfl,rfl,rfl⟩)⟩
   · exact ⟨_,_,_,used_4,Or.inr (Or.inr (Or.inl ⟨rfl,rfl,rfl,Or.inr rfl⟩))⟩
   · exact ⟨_,_,_,used_5,Or.inr (Or.inr (Or.inr ⟨rfl,rfl,rfl,rfl⟩))⟩
 obtain ⟨L,C,U,HU,hk⟩:=hu
 by_cases h1:16≤c.t
 · rw [hf (fun h=>by have:=h.1;omega)]
   exact rc_t c (decide_eq_true h1) HU w
 have d1:decide (16≤c.t)=false:=decide_eq_false h1
 have hlt:c.t < 16:=by omega
 by_cases h2:U=false∧c.u ≠ 0
 · rw [hf (fun h=>by rcases h.2 with g | g | g | g <;> rcases hk with k | k | k | k <;> simp_all)]
   rw [h2.1] at HU
   exact rc_u c d1 (by simpa using h2.2) HU w
 rcases hk with ⟨rfl,rfl,rfl,ho⟩ | ⟨rfl,rfl,rfl,ho⟩ | ⟨rfl,rfl,rfl,ho⟩ | ⟨rfl,rfl,rfl,ho⟩
 · have hu0:c.u=0:=by simpa using h2
   have d2:(c.u != 0)=false:=by simpa using hu0
   by_cases l0:c.l0.ok
   · by_cases l1:c.l1.ok
     · by_cases l2:c.l2.ok
       · exact rc_lc c d1 d2 (hid_ok l0) (hid_ok l1) (hid_ok l2) (Lib.hid (iff_t ⟨fun h=>by rcases h.2 with g | g | g | g <;> first | exact ⟨g.2.2.1,g.2.2.2.1⟩ | omega,fun h=>⟨hlt,Or.inl ⟨ho,⟨l0,l1,l2⟩,h.1,h.2,hu0⟩⟩⟩ hq.out)) HU w
       · rw [hf (fun h=>by rcases h.2 with g | g | g | g <;> first | exact l2 g.2.1.2.2 | omega)]
         exact rc_l2 c d1 d2 (hid_ok l0) (hid_ok l1) (hid_no l2) HU w
     · rw [hf (fun h=>by rcases h.2 with g | g | g | g <;> first | exact l1 g.2.1.2.1 | omega)]
       exact rc_l1 c d1 d2 (hid_ok l0) (hid_no l1) HU w
   · rw [hf (fun h=>by rcases h.2 with g | g | g | g <;> first | exact l0 g.2.1.1 | omega)]
     exact rc_l0 c d1 d2 (hid_no l0) HU w
 · have hu0:c.u=0:=by simpa using h2
   have d2:(c.u != 0)=false:=by simpa using hu0
   by_cases l0:c.l0.ok
   · by_cases l1:c.l1.ok
     · by_cases l2:c.l2.ok
       · exact rc_lz c d1 d2 (hid_ok l0) (hid_ok l1) (hid_ok l2) (Lib.hid (iff_t ⟨fun h=>by rcases h.2 with g | g | g | g <;> first | exact ⟨g.2.2.1,g.2.2.2.1⟩ | omega,fun h=>⟨hlt,Or.inr (Or.inl ⟨ho,⟨l0,l1,l2⟩,h.1,h.2,hu0⟩)⟩⟩ hq.out)) HU w
       · rw [hf (fun h=>by rcases h.2 with g | g | g | g <;> first | exact l2 g.2.1.2.2 | omega)]
         exact rc_l2 c d1 d2 (hid_ok l0) (hid_ok l1) (hid_no l2) HU w
     · rw [hf (fun h=>by rcases h.2 with g | g | g | g <;> first | exact l1 g.2.1.2.1 | omega)]
       exact rc_l1 c d1 d2 (hid_ok l0) (hid_no l1) HU w
   · rw [hf (fun h=>by rcases h.2 with g | g | g | g <;> first | exact l0 g.2.1.1 | omega)]
     exact rc_l0 c d1 d2 (hid_no l0) HU w
 · have hu0:c.u=0:=by simpa using h2
   have d2:(c.u != 0)=false:=by simpa using hu0
   by_cases l0:c.l0=Lm.zero
   · by_cases l1:c.l1=Lm.zero
     · by_cases l2:c.l2=Lm.zero
       · exact rc_z c d1 d2 l0 l1 l2 (Lib.hid (iff_t ⟨fun h=>by rcases h.2 with g | g | g | g <;> first | omega | exact ⟨g.2.2.1,g.2.2.2.1⟩ | exact ⟨g.2.2.1,g.2.2.2⟩,fun h=>⟨hlt,Or.inr (Or.inr (Or.inl ⟨ho,⟨l0,l1,l2⟩,h.1,h.2,hu0⟩))⟩⟩ hq.out)) HU w
       · rw [hf (fun h=>by rcases h.2 with g | g | g | g <;> first | omega | exact l2 g.2.1.2.2)]
         exact rc_z2 c d1 d2 l0 l1 l2 HU w
     · rw [hf (fun h=>by rcases h.2 with g | g | g | g <;> first | omega | exact l1 g.2.1.2.1)]
       exact rc_z1 c d1 d2 l0 l1 HU w
   · rw [hf (fun h=>by rcases h.2 with g | g | g | g <;> first | omega | exact l0 g.2.1.1)]
     exact rc_z0 c d1 d2 l0 HU w
 · by_cases l0:c.l0=Lm.zero
   · by_cases l1:c.l1=Lm.zero
     · by_cases l2:c.l2=Lm.zero
       · exact rc_zu c d1 l0 l1 l2 (Lib.hid (iff_t ⟨fun h=>by rcases h.2 with g | g | g | g <;> first | omega | exact ⟨g.2.2.1,g.2.2.2⟩,fun h=>⟨hlt,Or.inr (Or.inr (Or.inr ⟨ho,⟨l0,l1,l2⟩,h.1,h.2⟩))⟩⟩ hq.out)) HU w
       · rw [hf (fun h=>by rcases h.2 with g | g | g | g <;> first | omega | exact l2 g.2.1.2.2)]
         exact rc_zu2 c d1 l0 l1 l2 HU w
     · rw [hf (fun h=>by rcases h.2 with g | g | g | g <;> first | omega | exact l1 g.2.1.2.1)]
       exact rc_zu1 c d1 l0 l1 HU w
   · rw [hf (fun h=>by rcases h.2 with g | g | g | g <;> first | omega | exact l0 g.2.1.1)]
     exact rc_zu0 c d1 l0 HU w
end Go.Proofs.YtnfejdfjlnpldaaGreatDoor
namespace Go.Proofs.YtnfejdfjlnpldaaGreatDoor
open Go.RowKit
set_option maxRecDepth 100000 in
set_option maxHeartbeats 3200000 in
theorem rchk_1a (f:Frm) (h0:f.kd=1) (d1:decide (f.r.k.t < 16)=false) (hc:f.c=Cmd.zero) (w:World):Calls Tryz.prog 4 #[.agg (mcell f).toArray] w fun e w'=>e=.returned (.int .i64 8)∧Below w.heap.size w w':=by
 have SV:=Lib.hid (size_frm f)
 have SC:=Lib.hid (size_cmd f.c)
 have SR:=Lib.hid (size_req f.r)
 have DC:=Lib.hid (mcell_c f)
 have DR:=Lib.hid (mcell_r f)
 have BC:=fun W=>build_c0 W
 have BR:=fun W=>build_r0 W
 have EC:=fun W=>eqc_t hc W
 have v0:(mcell f)[0]? = some (.int .u8 1):=by rw [← h0];rfl
 have v1:=mcell_kt f
 obtain ⟨V,hV⟩:∃ V,mcell f=V:=⟨_,rfl⟩
 obtain ⟨C,hC⟩:∃ V,ccell f.c=V:=⟨_,rfl⟩
 obtain ⟨R,hR⟩:∃ V,rcell f.r=V:=⟨_,rfl⟩
 obtain ⟨Z,hZ⟩:∃ V,ccell Cmd.zero=V:=⟨_,rfl⟩
 obtain ⟨Y,hY⟩:∃ V,rcell Req.zero=V:=⟨_,rfl⟩
 rw [hV] at SV DC DR v0 v1 ⊢
 rw [hC] at SC DC DR EC
 rw [hR] at SR DR
 rw [hZ] at BC EC
 rw [hY] at BR
 clear hV hC hR hZ hY hc
 go_enter Tryz.func4,Tryz.ntmps4
 go_upto_region 1 with fail
 refine F_gen (F:=fun W=>Code.wp _ _ _ _ W) (J:=fun W=>Box W (w.heap.size) (V)∧Below w.heap.size w W) (And.intro (Box.newc rfl rfl) (by go_grown)) ?_
 intro w0 ⟨e_f,hB0⟩
 have hs0:=hB0.size
 have x_f0:=e_f;clear e_f
 have ca:=(x_f0).c 0 _ v0
 have za:=(x_f0).lt
 have cb:=(x_f0).c 1 _ v1
 have zb:=(x_f0).lt
 go_wp2_with (first
   | (refine wpList_load_rangew rfl _ _ rfl (Box.rangeMid x_f0 39 (C) ([]) DC.out) rfl Tryz.underlying35 rfl SC.out ?_)
   | (refine wpList_load_rangew rfl _ _ rfl (Box.rangeMid x_f0 1 (R) (C) DR.out) rfl Tryz.underlying30 rfl SR.out ?_)
   | (refine wpList_build9 rfl 35 _ rfl (us:=#[]) (by rfl) (BC _) ?_)
   | (refine wpList_build9 rfl 30 _ rfl (us:=#[]) (by rfl) (BR _) ?_))
 go_returns
 exact ⟨rfl,hB0⟩
set_option maxRecDepth 100000 in
set_option maxHeartbeats 3200000 in
theorem rchk_1b (f:Frm) (h0:f.kd=1) (hc:f.c ≠ Cmd.zero) (w:World):Calls Tryz.prog 4 #[.agg (mcell f).toArray] w fun e w'=>e=.returned (.int .i64 8)∧Below w.heap.size w w':=by
 have SV:=Lib.hid (size_frm f)
 have SC:=Lib.hid (size_cmd f.c)
 have SR:=Lib.hid (size_req f.r)
 have DC:=Lib.hid (mcell_c f)
 have DR:=Lib.hid (mcell_r f)
 have BC:=fun W=>build_c0 W
 have BR:=fun W=>build_r0 W
 have EC:=fun W=>eqc_f hc W
 have v0:(mcell f)[0]? = some (.int .u8 1):=by rw [← h0];rfl
 have v1:=mcell_kt f
 obtain ⟨V,hV⟩:∃ V,mcell f=V:=⟨_,rfl⟩
 obtain ⟨C,hC⟩:∃ V,ccell f.c=V:=⟨_,rfl⟩
 obtain ⟨R,hR⟩:∃ V,rcell f.r=V:=⟨_,rfl⟩
 obtain ⟨Z,hZ⟩:∃ V,ccell Cmd.zero=V:=⟨_,rfl⟩
 obtain ⟨Y,hY⟩:∃ V,rcell Req.zero=V:=⟨_,rfl⟩
 rw [hV] at SV DC DR v0 v1 ⊢
 rw [hC] at SC DC DR EC
 rw [hR] at SR DR
 rw [hZ] at BC EC
 rw [hY] at BR
 clear hV hC hR hZ hY hc
 go_enter Tryz.func4,Tryz.ntmps4
 go_upto_region 1 with fail
 refine F_gen (F:=fun W=>Code.wp _ _ _ _ W) (J:=fun W=>Box W (w.heap.size) (V)∧Below w.heap.size w W) (And.intro (Box.newc rfl rfl) (by go_grown)) ?_
 intro w0 ⟨e_f,hB0⟩
 have hs0:=hB0.size
 have x_f0:=e_f;clear e_f
 have ca:=(x_f0).c 0 _ v0
 have za:=(x_f0).lt
 have cb:=(x_f0).c 1 _ v1
 have zb:=(x_f0).lt
 go_wp2_with (first
   | (refine wpList_load_rangew rfl _ _ rfl (Box.rangeMid x_f0 39 (C) ([]) DC.out) rfl Tryz.underlying35 rfl SC.out ?_)
   | (refine wpList_load_rangew rfl _ _ rfl (Box.rangeMid x_f0 1 (R) (C) DR.out) rfl Tryz.underlying30 rfl SR.out ?_)
   | (refine wpList_build9 rfl 35 _ rfl (us:=#[]) (by rfl) (BC _) ?_)
   | (refine wpList_build9 rfl 30 _ rfl (us:=#[]) (by rfl) (BR _) ?_))
 go_returns
 exact ⟨rfl,hB0⟩
set_option maxRecDepth 100000 in
set_option maxHeartbeats 3200000 in
theorem rchk_1c (f:Frm) (h0:f.kd=1) (d1:decide (f.r.k.t < 16)=true) (hc:f.c=Cmd.zero) (w:World):Calls Tryz.prog 4 #[.agg (mcell f).toArray] w fun e w'=>e=.returned (.int .i64 0)∧Below w.heap.size w w':=by
 have SV:=Lib.hid (size_frm f)
 have SC:=Lib.hid (size_cmd f.c)
 have SR:=Lib.hid (size_req f.r)
 have DC:=Lib.hid (mcell_c f)
 have DR:=Lib.hid (mcell_r f)
 have BC:=fun W=>build_c0 W
 have BR:=fun W=>build_r0 W
 have EC:=fun W=>eqc_t hc W
 have v0:(mcell f)[0]? = some (.int .u8 1):=by rw [← h0];rfl
 have v1:=mcell_kt f
 obtain ⟨V,hV⟩:∃ V,mcell f=V:=⟨_,rfl⟩
 obtain ⟨C,hC⟩:∃ V,ccell f.c=V:=⟨_,rfl⟩
 obtain ⟨R,hR⟩:∃ V,rcell f.r=V:=⟨_,rfl⟩
 obtain ⟨Z,hZ⟩:∃ V,ccell Cmd.zero=V:=⟨_,rfl⟩
 obtain ⟨Y,hY⟩:∃ V,rcell Req.zero=V:=⟨_,rfl⟩
 rw [hV] at SV DC DR v0 v1 ⊢
 rw [hC] at SC DC DR EC
 rw [hR] at SR DR
 rw [hZ] at BC EC
 rw [hY] at BR
 clear hV hC hR hZ hY hc
 go_enter Tryz.func4,Tryz.ntmps4
 go_upto_region 1 with fail
 refine F_gen (F:=fun W=>Code.wp _ _ _ _ W) (J:=fun W=>Box W (w.heap.size) (V)∧Below w.heap.size w W) (And.intro (Box.newc rfl rfl) (by go_grown)) ?_
 intro w0 ⟨e_f,hB0⟩
 have hs0:=hB0.size
 have x_f0:=e_f;clear e_f
 have ca:=(x_f0).c 0 _ v0
 have za:=(x_f0).lt
 have cb:=(x_f0).c 1 _ v1
 have zb:=(x_f0).lt
 go_wp2_with (first
   | (refine wpList_load_rangew rfl _ _ rfl (Box.rangeMid x_f0 39 (C) ([]) DC.out) rfl Tryz.underlying35 rfl SC.out ?_)
   | (refine wpList_load_rangew rfl _ _ rfl (Box.rangeMid x_f0 1 (R) (C) DR.out) rfl Tryz.underlying30 rfl SR.out ?_)
   | (refine wpList_build9 rfl 35 _ rfl (us:=#[]) (by rfl) (BC _) ?_)
   | (refine wpList_build9 rfl 30 _ rfl (us:=#[]) (by rfl) (BR _) ?_))
 go_returns
 exact ⟨rfl,hB0⟩
set_option maxRecDepth 100000 in
set_option maxHeartbeats 3200000 in
theorem rchk_2a (f:Frm) (h0:f.kd=2) (hr:f.r ≠ Req.zero) (w:World):Calls Tryz.prog 4 #[.agg (mcell f).toArray] w fun e w'=>e=.returned (.int .i64 8)∧Below w.heap.size w w':=by
 have SV:=Lib.hid (size_frm f)
 have SC:=Lib.hid (size_cmd f.c)
 have SR:=Lib.hid (size_req f.r)
 have DC:=Lib.hid (mcell_c f)
 have DR:=Lib.hid (mcell_r f)
 have BC:=fun W=>build_c0 W
 have BR:=fun W=>build_r0 W
 have ER:=fun W=>eqr_f hr W
 have v0:(mcell f)[0]? = some (.int .u8 2):=by rw [← h0];rfl
 have v1:=mcell_kt f
 obtain ⟨V,hV⟩:∃ V,mcell f=V:=⟨_,rfl⟩
 obtain ⟨C,hC⟩:∃ V,ccell f.c=V:=⟨_,rfl⟩
 obtain ⟨R,hR⟩:∃ V,rcell f.r=V:=⟨_,rfl⟩
 obtain ⟨Z,hZ⟩:∃ V,ccell Cmd.zero=V:=⟨_,rfl⟩
 obtain ⟨Y,hY⟩:∃ V,rcell Req.zero=V:=⟨_,rfl⟩
 rw [hV] at SV DC DR v0 v1 ⊢
 rw [hC] at SC DC DR
 rw [hR] at SR DR ER
 rw [hZ] at BC
 rw [hY] at BR ER
 clear hV hC hR hZ hY hr
 go_enter Tryz.func4,Tryz.ntmps4
 go_upto_region 1 with fail
 refine F_gen (F:=fun W=>Code.wp _ _ _ _ W) (J:=fun W=>Box W (w.heap.size) (V)∧Below w.heap.size w W) (And.intro (Box.newc rfl rfl) (by go_grown)) ?_
 intro w0 ⟨e_f,hB0⟩
 have hs0:=hB0.size
 have x_f0:=e_f;clear e_f
 have ca:=(x_f0).c 0 _ v0
 have za:=(x_f0).lt
 have cb:=(x_f0).c 1 _ v1
 have zb:=(x_f0).lt
 go_wp2_with (first
   | (refine wpList_load_rangew rfl _ _ rfl (Box.rangeMid x_f0 39 (C) ([]) DC.out) rfl Tryz.underlying35 rfl SC.out ?_)
   | (refine wpList_load_rangew rfl _ _ rfl (Box.rangeMid x_f0 1 (R) (C) DR.out) rfl Tryz.underlying30 rfl SR.out ?_)
   | (refine wpList_build9 rfl 35 _ rfl (us:=#[]) (by rfl) (BC _) ?_)
   | (refine wpList_build9 rfl 30 _ rfl (us:=#[]) (by rfl) (BR _) ?_))
 go_returns
 exact ⟨rfl,hB0⟩
set_option maxRecDepth 100000 in
set_option maxHeartbeats 3200000 in
theorem rchk_2b (f:Frm) (h0:f.kd=2) (hr:f.r=Req.zero) (hq:Hid (f.c.Ok↔false=true)) (w:World):Calls Tryz.prog 4 #[.agg (mcell f).toArray] w fun e w'=>e=.returned (.int .i64 8)∧Below w.heap.size w w':=by
 have SV:=Lib.hid (size_frm f)
 have SC:=Lib.hid (size_cmd f.c)
 have SR:=Lib.hid (size_req f.r)
 have DC:=Lib.hid (mcell_c f)
 have DR:=Lib.hid (mcell_r f)
 have BC:=fun W=>build_c0 W
 have BR:=fun W=>build_r0 W
 have ER:=fun W=>eqr_t hr W
 have IC:=fun W=>risc_is f.c hq W
 have v0:(mcell f)[0]? = some (.int .u8 2):=by rw [← h0];rfl
 have v1:=mcell_kt f
 obtain ⟨V,hV⟩:∃ V,mcell f=V:=⟨_,rfl⟩
 obtain ⟨C,hC⟩:∃ V,ccell f.c=V:=⟨_,rfl⟩
 obtain ⟨R,hR⟩:∃ V,rcell f.r=V:=⟨_,rfl⟩
 obtain ⟨Z,hZ⟩:∃ V,ccell Cmd.zero=V:=⟨_,rfl⟩
 obtain ⟨Y,hY⟩:∃ V,rcell Req.zero=V:=⟨_,rfl⟩
 rw [hV] at SV DC DR v0 v1 ⊢
 rw [hC] at SC DC DR IC
 rw [hR] at SR DR ER
 rw [hZ] at BC
 rw [hY] at BR ER
 clear hV hC hR hZ hY hr hq
 go_enter Tryz.func4,Tryz.ntmps4
 go_upto_region 1 with fail
 refine F_gen (F:=fun W=>Code.wp _ _ _ _ W) (J:=fun W=>Box W (w.heap.size) (V)∧Below w.heap.size w W) (And.intro (Box.newc rfl rfl) (by go_grown)) ?_
 intro w0 ⟨e_f,hB0⟩
 have hs0:=hB0.size
 have x_f0:=e_f;clear e_f
 have ca:=(x_f0).c 0 _ v0
 have za:=(x_f0).lt
 have cb:=(x_f0).c 1 _ v1
 have zb:=(x_f0).lt
 go_wp2_with (first
   | (refine wpList_load_rangew rfl _ _ rfl (Box.rangeMid x_f0 39 (C) ([]) DC.out) rfl Tryz.underlying35 rfl SC.out ?_)
   | (refine wpList_load_rangew rfl _ _ rfl (Box.rangeMid x_f0 1 (R) (C) DR.out) rfl Tryz.underlying30 rfl SR.out ?_)
   | (refine wpList_build9 rfl 35 _ rfl (us:=#[]) (by rfl) (BC _) ?_)
   | (refine wpList_build9 rfl 30 _ rfl (us:=#[]) (by rfl) (BR _) ?_))
 refine (IC _).mono ?_
 rintro e w1 ⟨rfl,hb⟩
 clear ca za cb zb
 have hB1:Below w.heap.size w w1:=below_thru hB0 hb
 have hs1:=hB1.size
 have x_f1:Box w1 (w.heap.size) (V):=Box.below x_f0 hb
 clear hB0 hs0 x_f0
 clear hb
 go_wp2_with fail
 go_returns
 exact ⟨rfl,hB1⟩
set_option maxRecDepth 100000 in
set_option maxHeartbeats 3200000 in
theorem rchk_2c (f:Frm) (h0:f.kd=2) (hr:f.r=Req.zero) (hq:Hid (f.c.Ok↔true=true)) (w:World):Calls Tryz.prog 4 #[.agg (mcell f).toArray] w fun e w'=>e=.returned (.int .i64 0)∧Below w.heap.size w w':=by
 have SV:=Lib.hid (size_frm f)
 have SC:=Lib.hid (size_cmd f.c)
 have SR:=Lib.hid (size_req f.r)
 have DC:=Lib.hid (mcell_c f)
 have DR:=Lib.hid (mcell_r f)
 have BC:=fun W=>build_c0 W
 have BR:=fun W=>build_r0 W
 have ER:=fun W=>eqr_t hr W
 have IC:=fun W=>risc_is f.c hq W
 have v0:(mcell f)[0]? = some (.int .u8 2):=by rw [← h0];rfl
 have v1:=mcell_kt f
 obtain ⟨V,hV⟩:∃ V,mcell f=V:=⟨_,rfl⟩
 obtain ⟨C,hC⟩:∃ V,ccell f.c=V:=⟨_,rfl⟩
 obtain ⟨R,hR⟩:∃ V,rcell f.r=V:=⟨_,rfl⟩
 obtain ⟨Z,hZ⟩:∃ V,ccell Cmd.zero=V:=⟨_,rfl⟩
 obtain ⟨Y,hY⟩:∃ V,rcell Req.zero=V:=⟨_,rfl⟩
 rw [hV] at SV DC DR v0 v1 ⊢
 rw [hC] at SC DC DR IC
 rw [hR] at SR DR ER
 rw [hZ] at BC
 rw [hY] at BR ER
 clear hV hC hR hZ hY hr hq
 go_enter Tryz.func4,Tryz.ntmps4
 go_upto_region 1 with fail
 refine F_gen (F:=fun W=>Code.wp _ _ _ _ W) (J:=fun W=>Box W (w.heap.size) (V)∧Below w.heap.size w W) (And.intro (Box.newc rfl rfl) (by go_grown)) ?_
 intro w0 ⟨e_f,hB0⟩
 have hs0:=hB0.size
 have x_f0:=e_f;clear e_f
 have ca:=(x_f0).c 0 _ v0
 have za:=(x_f0).lt
 have cb:=(x_f0).c 1 _ v1
 have zb:=(x_f0).lt
 go_wp2_with (first
   | (refine wpList_load_rangew rfl _ _ rfl (Box.rangeMid x_f0 39 (C) ([]) DC.out) rfl Tryz.underlying35 rfl SC.out ?_)
   | (refine wpList_load_rangew rfl _ _ rfl (Box.rangeMid x_f0 1 (R) (C) DR.out) rfl Tryz.underlying30 rfl SR.out ?_)
   | (refine wpList_build9 rfl 35 _ rfl (us:=#[]) (by rfl) (BC _) ?_)
   | (refine wpList_build9 rfl 30 _ rfl (us:=#[]) (by rfl) (BR _) ?_))
 refine (IC _).mono ?_
 rintro e w1 ⟨rfl,hb⟩
 clear ca za cb zb
 have hB1:Below w.heap.size w w1:=below_thru hB0 hb
 have hs1:=hB1.size
 have x_f1:Box w1 (w.heap.size) (V):=Box.below x_f0 hb
 clear hB0 hs0 x_f0
 clear hb
 go_wp2_with fail
 go_returns
 exact ⟨rfl,hB1⟩
set_option maxRecDepth 100000 in
set_option maxHeartbeats 3200000 in
theorem rchk_n (f:Frm) (e1:(f.kd == 1)=false) (e2:(f.kd == 2)=false) (w:World):Calls Tryz.prog 4 #[.agg (mcell f).toArray] w fun e w'=>e=.returned (.int .i64 8)∧Below w.heap.size w w':=by
 have SV:=Lib.hid (size_frm f)
 have SC:=Lib.hid (size_cmd f.c)
 have SR:=Lib.hid (size_req f.r)
 have DC:=Lib.hid (mcell_c f)
 have DR:=Lib.hid (mcell_r f)
 have BC:=fun W=>build_c0 W
 have BR:=fun W=>build_r0 W
 have v0:(mcell f)[0]? = some (.int .u8 f.kd):=by rfl
 have v1:=mcell_kt f
 obtain ⟨V,hV⟩:∃ V,mcell f=V:=⟨_,rfl⟩
 obtain ⟨C,hC⟩:∃ V,ccell f.c=V:=⟨_,rfl⟩
 obtain ⟨R,hR⟩:∃ V,rcell f.r=V:=⟨_,rfl⟩
 obtain ⟨Z,hZ⟩:∃ V,ccell Cmd.zero=V:=⟨_,rfl⟩
 obtain ⟨Y,hY⟩:∃ V,rcell Req.zero=V:=⟨_,rfl⟩
 rw [hV] at SV DC DR v0 v1 ⊢
 rw [hC] at SC DC DR
 rw [hR] at SR DR
 rw [hZ] at BC
 rw [hY] at BR
 clear hV hC hR hZ hY
 go_enter Tryz.func4,Tryz.ntmps4
 go_upto_region 1 with fail
 refine F_gen (F:=fun W=>Code.wp _ _ _ _ W) (J:=fun W=>Box W (w.heap.size) (V)∧Below w.heap.size w W) (And.intro (Box.newc rfl rfl) (by go_grown)) ?_
 intro w0 ⟨e_f,hB0⟩
 have hs0:=hB0.size
 have x_f0:=e_f;clear e_f
 have ca:=(x_f0).c 0 _ v0
 have za:=(x_f0).lt
 have cb:=(x_f0).c 1 _ v1
 have zb:=(x_f0).lt
 go_wp2_with (first
   | (refine wpList_load_rangew rfl _ _ rfl (Box.rangeMid x_f0 39 (C) ([]) DC.out) rfl Tryz.underlying35 rfl SC.out ?_)
   | (refine wpList_load_rangew rfl _ _ rfl (Box.rangeMid x_f0 1 (R) (C) DR.out) rfl Tryz.underlying30 rfl SR.out ?_)
   | (refine wpList_build9 rfl 35 _ rfl (us:=#[]) (by rfl) (BC _) ?_)
   | (refine wpList_build9 rfl 30 _ rfl (us:=#[]) (by rfl) (BR _) ?_))
 go_returns
 exact ⟨rfl,hB0⟩
theorem rchk_is (f:Frm) {q:Int} (hq:Hid ((q=0∧f.Ok)∨(q=8∧¬ f.Ok))) (w:World):Calls Tryz.prog 4 #[.agg (mcell f).toArray] w fun e w'=>e=.returned (.int .i64 q)∧Below w.heap.size w w':=by
 have ht:f.Ok→q=0:=fun h=>by rcases hq.out with g | g;exact g.1;exact absurd h g.2
 have hf:¬ f.Ok→q=8:=fun h=>by rcases hq.out with g | g;exact absurd g.2 h;exact g.1
 by_cases h0:f.kd=1
 · by_cases h1:f.r.k.t < 16
   · by_cases hc:f.c=Cmd.zero
     · rw [ht (Or.inl ⟨h0,h1,hc⟩)]
       exact rchk_1c f h0 (decide_eq_true h1) hc w
     · rw [hf (fun h=>by rcases h with g | g;exact hc g.2.2;omega)]
       exact rchk_1b f h0 hc w
   · rw [hf (fun h=>by rcases h with g | g;exact h1 g.2.1;omega)]
     by_cases hc:f.c=Cmd.zero
     · exact rchk_1a f h0 (decide_eq_false h1) hc w
     · exact rchk_1b f h0 hc w
 by_cases h2:f.kd=2
 · by_cases hr:f.r=Req.zero
   · by_cases hc:f.c.Ok
     · rw [ht (Or.inr ⟨h2,hr,hc⟩)]
       exact rchk_2c f h2 hr (Lib.hid ⟨fun _=>rfl,fun _=>hc⟩) w
     · rw [hf (fun h=>by rcases h with g | g;omega;exact hc g.2.2)]
       exact rchk_2b f h2 hr (Lib.hid ⟨fun h=>absurd h hc,fun h=>by cases h⟩) w
   · rw [hf (fun h=>by rcases h with g | g;omega;exact hr g.2.1)]
     exact rchk_2a f h2 hr w
 rw [hf (fun h=>by rcases h with g | g;exact h0 g.1;exact h2 g.1)]
 exact rchk_n f (by simpa using h0) (by simpa using h2) w
end Go.Proofs.YtnfejdfjlnpldaaGreatDoor
