import Derived.Test.YtnfejdfjlnpldaaGreatDoorKyMath
set_option maxHeartbeats 6400000
set_option maxRecDepth 100000
namespace Go.Proofs.YtnfejdfjlnpldaaGreatDoor
open Go.RowKit
theorem ver11_t {K:List Int} {k:Nums} {g:List Int} (h:tagL K k.msg=g):verN K k g=0:=if_pos h
theorem ver11_f {K:List Int} {k:Nums} {g:List Int} (h:tagL K k.msg ≠ g):verN K k g=22:=if_neg h
theorem bzf (k n:Int) (W:World):(Instr.build 88 #[(0,.int .u8 k),(1,.int .u64 n)]).run Tryz.prog W=.ok (.agg (fcell k n zeroD).toArray) W:=by kernel_rfl
theorem build_d0 (W:World):(Instr.build 23 #[]).run Tryz.prog W=.ok (.agg (zeroD.map (Value.int .u8)).toArray) W:=by kernel_rfl
theorem build_t0 (W:World):(Instr.build 27 #[]).run Tryz.prog W=.ok (.agg zeroTk.toArray) W:=by kernel_rfl
theorem byts97:Byts [97]:=fun x hx=>by
 rcases List.mem_singleton.1 hx with rfl
 exact ⟨by decide,by decide⟩
set_option maxRecDepth 100000 in
set_option maxHeartbeats 6400000 in
theorem tagof_is {S xs D:List Int} {v:Value} (hS:S.length=32) (hSb:Byts S) (w:World) (hi:IsL w .u8 v xs) (hl:xs.length≤127936) (hx:Byts xs) (hD:Hid (tagL S xs=D)) (hL:Hid (LaidS w)):Calls Tryz.prog 63 #[(.agg (S.map (Value.int .u8)).toArray),v] w fun e w'=>e=.returned (.agg (D.map (Value.int .u8)).toArray)∧Below w.heap.size w w':=by
 have hDl:D.length=32:=by rw [← hD.out];exact tagL_len _ _
 have SK:=Lib.hid (size_dig hS);have LK:=Lib.hid (len_dig hS);have OK:=Lib.hid (oneCell_ints (k:=.u8) S)
 have SD:=Lib.hid (size_dig hDl);have LD:=Lib.hid (len_dig hDl);have OD:=Lib.hid (oneCell_ints (k:=.u8) D)
 have HI:=Lib.hid hi
 have LK:=Lib.hid (fun (W:World) (b:Nat) (h:Box W b (S.map (Value.int .u8)))=>IsL.boxed 32 hS h (by omega))
 obtain ⟨E,hE⟩:∃ X,D.map (Value.int .u8)=X:=⟨_,rfl⟩
 have A:∀ (W:World) (a b:Value),IsL W .u8 a S→IsL W .u8 b xs→Hid (LaidS W)→Calls Tryz.prog 95 #[a,b] W fun e w'=>e=.returned (.tuple #[.agg E.toArray,.int .i64 0])∧Below W.heap.size W w':=by rw [← hE];exact fun W a b h1 h2 h=>tag_ok W (Lib.hid h1) (Lib.hid h2) (by rw [hS];omega) hl (Lib.hid hSb.l) (Lib.hid hx.l) hD h
 rw [hE] at SD LD OD ⊢
 obtain ⟨C,hC⟩:∃ X,S.map (Value.int .u8)=X:=⟨_,rfl⟩
 rw [hC] at SK LK ⊢
 clear hC
 clear hS hSb hi hl hx hD hDl hE
 go_enter Tryz.func63,Tryz.ntmps63
 go_upto_region 1 with fail
 refine F_gen (F:=fun W=>Code.wp _ _ _ _ W) (J:=fun W=>Box W (w.heap.size) (C)∧Box W (w.heap.size + 1) (zero32)∧Below w.heap.size w W) (And.intro (Box.alloc (Box.newc rfl rfl) _) (And.intro (Box.newc rfl (by simp)) (by go_grown))) ?_
 intro w0 ⟨e_k,e_r,hB0⟩
 have hs0:=hB0.size
 have x_k0:=e_k;clear e_k
 have x_r0:=e_r;clear e_r
 have J_x0:Hid (IsL w0 .u8 (v) xs):=Lib.hid (HI.out.below hB0)
 go_wp2_with fail
 refine (A _ _ _ (LK.out _ _ x_k0) J_x0.out (Lib.hid (hL.out.below hB0))).mono ?_
 rintro e w1 ⟨rfl,hb⟩
 have hB1:Below w.heap.size w w1:=below_thru hB0 hb
 have hs1:=hB1.size
 have x_k1:Box w1 (w.heap.size) (C):=Box.below x_k0 hb
 have x_r1:Box w1 (w.heap.size + 1) (zero32):=Box.below x_r0 hb
 have J_x1:Hid (IsL w1 .u8 (v) xs):=Lib.hid (IsL.below J_x0.out hb)
 clear hB0 hs0 x_k0 x_r0 J_x0
 clear hb
 have d_t_k:=(x_k1).lt
 have d_t_r:=(x_r1).lt
 have d_t_0:=hs1
 go_upto_region 2 with (refine wpList_store_box (cs:=E) rfl _ _ _ rfl (Box.newc (l:=zero32) rfl rfl) rfl rfl SD.out LD.out OD.out ?_;intro W1_0 hW1_0)
 have hN:Below w1.heap.size w1 W1_0:=(hW1_0.below _ _ (by omega) ((Below.refl _ w1).alloc (Nat.le_refl _) _))
 have x_t2:Box W1_0 (w1.heap.size) (E):=hW1_0.box
 have hB2:Below w.heap.size w W1_0:=below_thru hB1 hN
 have hs2:=hB2.size
 have x_k2:Box W1_0 (w.heap.size) (C):=Box.below x_k1 hN
 have x_r2:Box W1_0 (w.heap.size + 1) (zero32):=Box.below x_r1 hN
 have J_x2:Hid (IsL W1_0 .u8 (v) xs):=Lib.hid (IsL.below J_x1.out hN)
 clear hB1 hs1 x_k1 x_r1 J_x1
 clear hN hW1_0
 have lq:=(x_r2).lt
 go_wp2_with (first | (refine wpList_load_box9 rfl _ _ rfl x_t2 rfl Tryz.underlying23 rfl SD.out ?_) | (refine wpList_store_box (cs:=E) rfl _ _ _ rfl x_r2 rfl rfl SD.out LD.out OD.out ?_;intro W99 hW99))
 exact bodyPost_ret (results_box Tryz.results63 hW99.box rfl Tryz.underlying23 rfl SD.out) rfl ⟨rfl,hW99.below _ _ (by omega) hB2⟩
set_option maxRecDepth 100000 in
set_option maxHeartbeats 6400000 in
theorem ord_is {S:List Int} (hS:S.length=32) (hSb:Byts S) (w:World) (hL:Hid (LaidS w)):Calls Tryz.prog 31 #[(.agg (S.map (Value.int .u8)).toArray)] w fun e w'=>e=.returned (.agg ((ordL S).map (Value.int .u8)).toArray)∧Below w.heap.size w w':=by
 have SK:=Lib.hid (size_dig hS);have LK:=Lib.hid (len_dig hS);have OK:=Lib.hid (oneCell_ints (k:=.u8) S)
 have SD:=Lib.hid (size_dig (ordL_len S));have LD:=Lib.hid (len_dig (ordL_len S));have OD:=Lib.hid (oneCell_ints (k:=.u8) (ordL S))
 have A:=fun (W:World) (v:Value) (h1:IsL W .u8 v [97]) (h:Hid (LaidS W))=>tagof_is (D:=ordL S) hS hSb W h1 (by decide) byts97 (Lib.hid rfl) h
 obtain ⟨E,hE⟩:∃ X,(ordL S).map (Value.int .u8)=X:=⟨_,rfl⟩
 rw [hE] at SD LD OD A ⊢
 clear hE
 obtain ⟨C,hC⟩:∃ X,S.map (Value.int .u8)=X:=⟨_,rfl⟩
 rw [hC] at SK A ⊢
 clear hC
 clear hS hSb
 go_enter Tryz.func31,Tryz.ntmps31
 go_upto_region 1 with fail
 refine F_gen (F:=fun W=>Code.wp _ _ _ _ W) (J:=fun W=>Box W (w.heap.size) (C)∧Box W (w.heap.size + 1) (zero32)∧Below w.heap.size w W) (And.intro (Box.alloc (Box.newc rfl rfl) _) (And.intro (Box.newc rfl (by simp)) (by go_grown))) ?_
 intro w0 ⟨e_k,e_r,hB0⟩
 have hs0:=hB0.size
 have x_k0:=e_k;clear e_k
 have x_r0:=e_r;clear e_r
 have LB:IsL (w0.alloc (.cells #[.int .u8 97] 5)) .u8 (.slice (some ⟨w0.heap.size,0,none⟩) 1 1) [97]:=IsL.built [97] rfl rfl rfl rfl (by simp)
 go_wp2_with (refine wpList_load_box9 rfl _ _ rfl x_k0 rfl Tryz.underlying23 rfl SK.out ?_)
 refine (A _ _ LB (Lib.hid (hL.out.below (hB0.alloc hs0 _)))).mono ?_
 rintro e w1 ⟨rfl,hb⟩
 have hN:Below w0.heap.size w0 w1:=below_thru ((Below.refl _ _).alloc (Nat.le_refl _) _) hb
 clear hb LB
 have hB1:Below w.heap.size w w1:=below_thru hB0 hN
 have hs1:=hB1.size
 have x_k1:Box w1 (w.heap.size) (C):=Box.below x_k0 hN
 have x_r1:Box w1 (w.heap.size + 1) (zero32):=Box.below x_r0 hN
 clear hB0 hs0 x_k0 x_r0
 clear hN
 have lq:=(x_r1).lt
 go_wp2_with (first | (refine wpList_store_box (cs:=E) rfl _ _ _ rfl x_r1 rfl rfl SD.out LD.out OD.out ?_;intro W99 hW99))
 exact bodyPost_ret (results_box Tryz.results31 hW99.box rfl Tryz.underlying23 rfl SD.out) rfl ⟨rfl,hW99.below _ _ (by omega) hB1⟩
set_option maxRecDepth 100000 in
set_option maxHeartbeats 6400000 in
theorem ten_t {S:List Int} {t p:Int} (hS:S.length=32) (hSb:Byts S) (ht:0≤t∧t≤4294967295) (he:0≤p∧p≤4294967295) (h:HasKey t p) (w:World) (hL:Hid (LaidS w)):Calls Tryz.prog 39 #[(.agg (S.map (Value.int .u8)).toArray),.int .u32 t,.int .u32 p] w fun e w'=>e=.returned (.tuple #[(.agg ((tkeyL S t p).map (Value.int .u8)).toArray),.int .i64 0])∧Below w.heap.size w w':=by
 obtain ⟨ti,hin,hz0,hz1,hz2⟩:=info_parts info_fld
 have q1:=h.1;have q2:=h.2
 have d1:decide (t < 16)=true:=decide_eq_true q1;have d2:decide (16≤t)=false:=decide_eq_false (by omega);have d3:decide (1000000 < p)=false:=decide_eq_false (by omega);have d4:decide (p≤1000000)=true:=decide_eq_true q2
 have wt:IntKind.u64.wrap t=t:=by rw [IntKind.wrap_u64];omega
 have we:IntKind.u64.wrap p=p:=by rw [IntKind.wrap_u64];omega
 have WR:=fun (W:World) (v:Value) (h:IsR LF W v (krowK t p))=>fwrite_is W h
 rw [rowV_ok (krowK_e ht he),krowK_e ht he,krowK_b ht he] at WR
 have A:=fun (W:World) (v:Value) (h1:IsL W .u8 v (keyMsg t p)) (h:Hid (LaidS W))=>tagof_is (D:=tkeyL S t p) hS hSb W h1 (by rw [keyMsg_len];decide) (keyMsg_byts t p) (Lib.hid rfl) h
 have SK:=Lib.hid (size_dig hS);have LK:=Lib.hid (len_dig hS);have OK:=Lib.hid (oneCell_ints (k:=.u8) S)
 have SD:=Lib.hid (size_dig (tkeyL_len S t p));have LD:=Lib.hid (len_dig (tkeyL_len S t p));have OD:=Lib.hid (oneCell_ints (k:=.u8) (tkeyL S t p))
 have B0:=fun W=>bzf 2 107 W;have F0:(fcell 2 107 zeroD).length=34:=rfl
 have B1:=fun W=>bzf 4 t W;have F1:(fcell 4 t zeroD).length=34:=rfl
 have B2:=fun W=>bzf 4 p W;have F2:(fcell 4 p zeroD).length=34:=rfl
 have EF:fcell 2 107 zeroD ++ (fcell 4 t zeroD ++ fcell 4 p zeroD)=flatR LF (krowK t p):=by
   show _=(fdN 2 107).v ++ ((fdN 4 t).v ++ ((fdN 4 p).v ++ []))
   rw [fdN_v (by decide) (by decide),fdN_v (by decide) (k32 ht),fdN_v (by decide) (k32 he),List.append_nil]
 obtain ⟨V0,hV0⟩:∃ X,fcell 2 107 zeroD=X:=⟨_,rfl⟩
 rw [hV0] at B0 F0 EF
 clear hV0
 obtain ⟨V1,hV1⟩:∃ X,fcell 4 t zeroD=X:=⟨_,rfl⟩
 rw [hV1] at B1 F1 EF
 clear hV1
 obtain ⟨V2,hV2⟩:∃ X,fcell 4 p zeroD=X:=⟨_,rfl⟩
 rw [hV2] at B2 F2 EF
 clear hV2
 have HB:=fun W=>run_bsliceN (P:=Tryz.prog) (n:=3) W 76 88 ti _ 34 Tryz.underlying76 hin hz0 hz1 rfl [V0,V1,V2] (by simp [F0,F1,F2]) (by decide) (by simp) #[(0,.agg V0.toArray),(1,.agg V1.toArray),(2,.agg V2.toArray)] rfl rfl (by decide)
 rw [show [V0,V1,V2].flatten=V0 ++ (V1 ++ V2) by simp] at HB
 obtain ⟨FR,hFR⟩:∃ X,V0 ++ (V1 ++ V2)=X:=⟨_,rfl⟩
 rw [hFR] at HB EF
 replace HB:=Lib.hid HB;replace EF:=Lib.hid EF
 have HR:Hid ((krowK t p).length=3):=Lib.hid rfl
 obtain ⟨R,hR⟩:∃ X,krowK t p=X:=⟨_,rfl⟩
 rw [hR] at WR EF HR
 clear hR
 obtain ⟨E,hE⟩:∃ X,(tkeyL S t p).map (Value.int .u8)=X:=⟨_,rfl⟩
 rw [hE] at SD LD OD A ⊢
 clear hE
 obtain ⟨M,hM⟩:∃ X,keyMsg t p=X:=⟨_,rfl⟩
 rw [hM] at WR A
 clear hM
 obtain ⟨C,hC⟩:∃ X,S.map (Value.int .u8)=X:=⟨_,rfl⟩
 rw [hC] at SK A ⊢
 clear hC
 clear hS hSb ht he h q1 q2 hFR F0 F1 F2
 go_enter Tryz.func39,Tryz.ntmps39
 go_upto_region 1 with fail
 refine F_gen (F:=fun W=>Code.wp _ _ _ _ W) (J:=fun W=>Box W (w.heap.size) (C)∧Box W (w.heap.size + 1) (zero32)∧Below w.heap.size w W) (And.intro (Box.alloc (Box.newc rfl rfl) _) (And.intro (Box.newc rfl (by simp)) (by go_grown))) ?_
 intro w0 ⟨e_k,e_r,hB0⟩
 have hs0:=hB0.size
 have x_k0:=e_k;clear e_k
 have x_r0:=e_r;clear e_r
 have HIR:IsR LF (w0.alloc (.cells FR.toArray 88)) (.slice (some ⟨w0.heap.size,0,none⟩) 3 3) R:=IsR.ofBox (Box.newc rfl rfl) EF.out HR.out.symm (by decide)
 go_wp2_with (first | (refine wpList_build9 rfl 88 _ rfl (us:=#[(0,.int .u8 2),(1,.int .u64 107)]) (by rfl) (B0 _) ?_) | (refine wpList_build9 rfl 88 _ rfl (us:=#[(0,.int .u8 4),(1,.int .u64 t)]) (by rfl) (B1 _) ?_) | (refine wpList_build9 rfl 88 _ rfl (us:=#[(0,.int .u8 4),(1,.int .u64 p)]) (by rfl) (B2 _) ?_) | (refine wpList_bsliceN rfl 76 3 _ rfl (us:=#[(0,.agg V0.toArray),(1,.agg V1.toArray),(2,.agg V2.toArray)]) (by rfl) (HB.out _) ?_))
 refine (WR _ _ HIR).mono ?_
 rintro e w1 ⟨vm,rfl,hm,hb⟩
 have hN:Below w0.heap.size w0 w1:=below_thru ((Below.refl _ _).alloc (Nat.le_refl _) _) hb
 clear hb HIR
 have hB1:Below w.heap.size w w1:=below_thru hB0 hN
 have hs1:=hB1.size
 have x_k1:Box w1 (w.heap.size) (C):=Box.below x_k0 hN
 have x_r1:Box w1 (w.heap.size + 1) (zero32):=Box.below x_r0 hN
 clear hB0 hs0 x_k0 x_r0
 clear hN
 have J_m1:Hid (IsL w1 .u8 (vm) M):=Lib.hid hm
 clear hm
 go_wp2_with (refine wpList_load_box9 rfl _ _ rfl x_k1 rfl Tryz.underlying23 rfl SK.out ?_)
 refine (A _ _ J_m1.out (Lib.hid (hL.out.below hB1))).mono ?_
 rintro e w2 ⟨rfl,hb⟩
 have hB2:Below w.heap.size w w2:=below_thru hB1 hb
 have hs2:=hB2.size
 have x_k2:Box w2 (w.heap.size) (C):=Box.below x_k1 hb
 have x_r2:Box w2 (w.heap.size + 1) (zero32):=Box.below x_r1 hb
 have J_m2:Hid (IsL w2 .u8 (vm) M):=Lib.hid (IsL.below J_m1.out hb)
 clear hB1 hs1 x_k1 x_r1 J_m1
 clear hb
 have lq:=(x_r2).lt
 go_wp2_with (first | (refine wpList_store_box (cs:=E) rfl _ _ _ rfl x_r2 rfl rfl SD.out LD.out OD.out ?_;intro W99 hW99))
 exact bodyPost_ret (results_box2 Tryz.results39 hW99.box rfl rfl Tryz.underlying23 rfl SD.out) rfl ⟨rfl,hW99.below _ _ (by omega) hB2⟩
set_option maxRecDepth 100000 in
set_option maxHeartbeats 6400000 in
theorem ten_a {S:List Int} {t p:Int} (hS:S.length=32) (d2:decide (16≤t)=true) (w:World):Calls Tryz.prog 39 #[(.agg (S.map (Value.int .u8)).toArray),.int .u32 t,.int .u32 p] w fun e w'=>e=.returned (.tuple #[(.agg (zeroD.map (Value.int .u8)).toArray),.int .i64 2])∧Below w.heap.size w w':=by
 have SK:=Lib.hid (size_dig hS);have LK:=Lib.hid (len_dig hS);have OK:=Lib.hid (oneCell_ints (k:=.u8) S)
 have SZ:=Lib.hid (size_dig zd32);have LZ:=Lib.hid (len_dig zd32);have OZ:=Lib.hid (oneCell_ints (k:=.u8) zeroD)
 have BZ:=fun W=>build_d0 W
 obtain ⟨Z,hZ⟩:∃ X,zeroD.map (Value.int .u8)=X:=⟨_,rfl⟩
 rw [hZ] at SZ LZ OZ BZ ⊢
 clear hZ
 obtain ⟨C,hC⟩:∃ X,S.map (Value.int .u8)=X:=⟨_,rfl⟩
 rw [hC] at SK ⊢
 clear hC
 clear hS
 go_enter Tryz.func39,Tryz.ntmps39
 go_upto_region 1 with fail
 refine F_gen (F:=fun W=>Code.wp _ _ _ _ W) (J:=fun W=>Box W (w.heap.size) (C)∧Box W (w.heap.size + 1) (zero32)∧Below w.heap.size w W) (And.intro (Box.alloc (Box.newc rfl rfl) _) (And.intro (Box.newc rfl (by simp)) (by go_grown))) ?_
 intro w0 ⟨e_k,e_r,hB0⟩
 have hs0:=hB0.size
 have x_k0:=e_k;clear e_k
 have x_r0:=e_r;clear e_r
 have lq:=(x_r0).lt
 go_wp2_with (first | (refine wpList_build9 rfl 23 _ rfl (us:=#[]) (by rfl) (BZ _) ?_) | (refine wpList_store_box (cs:=Z) rfl _ _ _ rfl x_r0 rfl rfl SZ.out LZ.out OZ.out ?_;intro W99 hW99))
 exact bodyPost_ret (results_box2 Tryz.results39 hW99.box rfl rfl Tryz.underlying23 rfl SZ.out) rfl ⟨rfl,hW99.below _ _ (by omega) hB0⟩
set_option maxRecDepth 100000 in
set_option maxHeartbeats 6400000 in
theorem ten_b {S:List Int} {t p:Int} (hS:S.length=32) (d2:decide (16≤t)=false) (d4:decide (1000000 < p)=true) (w:World):Calls Tryz.prog 39 #[(.agg (S.map (Value.int .u8)).toArray),.int .u32 t,.int .u32 p] w fun e w'=>e=.returned (.tuple #[(.agg (zeroD.map (Value.int .u8)).toArray),.int .i64 2])∧Below w.heap.size w w':=by
 have SK:=Lib.hid (size_dig hS);have LK:=Lib.hid (len_dig hS);have OK:=Lib.hid (oneCell_ints (k:=.u8) S)
 have SZ:=Lib.hid (size_dig zd32);have LZ:=Lib.hid (len_dig zd32);have OZ:=Lib.hid (oneCell_ints (k:=.u8) zeroD)
 have BZ:=fun W=>build_d0 W
 obtain ⟨Z,hZ⟩:∃ X,zeroD.map (Value.int .u8)=X:=⟨_,rfl⟩
 rw [hZ] at SZ LZ OZ BZ ⊢
 clear hZ
 obtain ⟨C,hC⟩:∃ X,S.map (Value.int .u8)=X:=⟨_,rfl⟩
 rw [hC] at SK ⊢
 clear hC
 clear hS
 go_enter Tryz.func39,Tryz.ntmps39
 go_upto_region 1 with fail
 refine F_gen (F:=fun W=>Code.wp _ _ _ _ W) (J:=fun W=>Box W (w.heap.size) (C)∧Box W (w.heap.size + 1) (zero32)∧Below w.heap.size w W) (And.intro (Box.alloc (Box.newc rfl rfl) _) (And.intro (Box.newc rfl (by simp)) (by go_grown))) ?_
 intro w0 ⟨e_k,e_r,hB0⟩
 have hs0:=hB0.size
 have x_k0:=e_k;clear e_k
 have x_r0:=e_r;clear e_r
 have lq:=(x_r0).lt
 go_wp2_with (first | (refine wpList_build9 rfl 23 _ rfl (us:=#[]) (by rfl) (BZ _) ?_) | (refine wpList_store_box (cs:=Z) rfl _ _ _ rfl x_r0 rfl rfl SZ.out LZ.out OZ.out ?_;intro W99 hW99))
 exact bodyPost_ret (results_box2 Tryz.results39 hW99.box rfl rfl Tryz.underlying23 rfl SZ.out) rfl ⟨rfl,hW99.below _ _ (by omega) hB0⟩
theorem ten_is {S:List Int} {t p:Int} (hS:S.length=32) (hSb:Byts S) (ht:0≤t∧t≤4294967295) (he:0≤p∧p≤4294967295) {D:List Int} {q:Int} (h:TenOf S t p D q) (w:World) (hL:Hid (LaidS w)):Calls Tryz.prog 39 #[(.agg (S.map (Value.int .u8)).toArray),.int .u32 t,.int .u32 p] w fun e w'=>e=.returned (.tuple #[(.agg (D.map (Value.int .u8)).toArray),.int .i64 q])∧Below w.heap.size w w':=by
 rcases h with ⟨rfl,h,rfl⟩ | ⟨rfl,h,rfl⟩
 · exact ten_t hS hSb ht he h w hL
 · rcases has_no h with h1 | ⟨h1,h2⟩
   · exact ten_a hS (decide_eq_true (by have:=of_decide_eq_false h1;omega)) w
   · exact ten_b hS (decide_eq_false (by have:=of_decide_eq_true h1;omega)) (decide_eq_true (by have:=of_decide_eq_false h2;omega)) w
set_option maxRecDepth 100000 in
set_option maxHeartbeats 6400000 in
theorem tok_t {S:List Int} (k:Nums) (hS:S.length=32) (hSb:Byts S) (h:HasKey k.t k.e) (w:World) (hL:Hid (LaidS w)):Calls Tryz.prog 13 #[(.agg (S.map (Value.int .u8)).toArray),.int .u32 k.t,.int .u32 k.u,.int .u32 k.e,.int .u64 k.x] w fun e w'=>e=.returned (.tuple #[(.agg (tcell k (minted S k)).toArray),.int .i64 0])∧Below w.heap.size w w':=by
 have A:=fun (W:World) (h1:Hid (LaidS W))=>ten_is hS hSb k.ht k.he (Or.inl ⟨rfl,h,rfl⟩) W h1
 have SK:=Lib.hid (size_dig hS);have LK:=Lib.hid (len_dig hS);have OK:=Lib.hid (oneCell_ints (k:=.u8) S)
 have SD:=Lib.hid (size_dig (tkeyL_len S k.t k.e));have LD:=Lib.hid (len_dig (tkeyL_len S k.t k.e));have OD:=Lib.hid (oneCell_ints (k:=.u8) (tkeyL S k.t k.e))
 have B:=fun (W:World) (h1:Hid (LaidS W))=>mint_is (D:=minted S k) k (tkeyL_len S k.t k.e) (tkeyL_byts S k.t k.e) (Lib.hid rfl) W h1
 have SV:=Lib.hid (size_tok k (minted_len S k));have LV:Hid (zeroTk.length=(tcell k (minted S k)).length):=Lib.hid (len_tok Nums.zero k zd32 (minted_len S k));have OV:=Lib.hid (tcell_one k (minted S k))
 obtain ⟨V,hV⟩:∃ X,tcell k (minted S k)=X:=⟨_,rfl⟩
 rw [hV] at B SV LV OV ⊢
 clear hV
 obtain ⟨D,hD⟩:∃ X,(tkeyL S k.t k.e).map (Value.int .u8)=X:=⟨_,rfl⟩
 rw [hD] at SD LD OD A B
 clear hD
 obtain ⟨C,hC⟩:∃ X,S.map (Value.int .u8)=X:=⟨_,rfl⟩
 rw [hC] at SK A ⊢
 clear hC
 clear hS hSb h
 go_enter Tryz.func13,Tryz.ntmps13
 go_upto_region 1 with fail
 refine F_gen (F:=fun W=>Code.wp _ _ _ _ W) (J:=fun W=>Box W (w.heap.size) (C)∧Box W (w.heap.size + 1) (zeroTk)∧Below w.heap.size w W) (And.intro (Box.alloc (Box.newc rfl rfl) _) (And.intro (Box.newc rfl (by simp)) (by go_grown))) ?_
 intro w0 ⟨e_k,e_r,hB0⟩
 have hs0:=hB0.size
 have x_k0:=e_k;clear e_k
 have x_r0:=e_r;clear e_r
 go_wp2_with (refine wpList_load_box9 rfl _ _ rfl x_k0 rfl Tryz.underlying23 rfl SK.out ?_)
 refine (A _ (Lib.hid (hL.out.below hB0))).mono ?_
 rintro e w1 ⟨rfl,hb⟩
 have hB1:Below w.heap.size w w1:=below_thru hB0 hb
 have hs1:=hB1.size
 have x_k1:Box w1 (w.heap.size) (C):=Box.below x_k0 hb
 have x_r1:Box w1 (w.heap.size + 1) (zeroTk):=Box.below x_r0 hb
 clear hB0 hs0 x_k0 x_r0
 clear hb
 have d_d_k:=(x_k1).lt
 have d_d_r:=(x_r1).lt
 have d_d_0:=hs1
 go_upto_region 2 with (refine wpList_store_box (cs:=D) rfl _ _ _ rfl (Box.newc (l:=zero32) rfl rfl) rfl rfl SD.out LD.out OD.out ?_;intro W1_0 hW1_0)
 have hN:Below w1.heap.size w1 W1_0:=(hW1_0.below _ _ (by omega) ((Below.refl _ w1).alloc (Nat.le_refl _) _))
 have x_d2:Box W1_0 (w1.heap.size) (D):=hW1_0.box
 have hB2:Below w.heap.size w W1_0:=below_thru hB1 hN
 have hs2:=hB2.size
 have x_k2:Box W1_0 (w.heap.size) (C):=Box.below x_k1 hN
 have x_r2:Box W1_0 (w.heap.size + 1) (zeroTk):=Box.below x_r1 hN
 clear hB1 hs1 x_k1 x_r1
 clear hN hW1_0
 go_wp2_with (refine wpList_load_box9 rfl _ _ rfl x_d2 rfl Tryz.underlying23 rfl SD.out ?_)
 refine (B _ (Lib.hid (hL.out.below hB2))).mono ?_
 rintro e w3 ⟨rfl,hb⟩
 have hB3:Below w.heap.size w w3:=below_thru hB2 hb
 have hs3:=hB3.size
 have x_k3:Box w3 (w.heap.size) (C):=Box.below x_k2 hb
 have x_r3:Box w3 (w.heap.size + 1) (zeroTk):=Box.below x_r2 hb
 have x_d3:Box w3 (w1.heap.size) (D):=Box.below x_d2 hb
 clear hB2 hs2 x_k2 x_r2 x_d2
 clear hb
 have lq:=(x_r3).lt
 go_wp2_with (first | (refine wpList_store_box (cs:=V) rfl _ _ _ rfl x_r3 rfl rfl SV.out LV.out OV.out ?_;intro W99 hW99))
 exact bodyPost_ret (results_box2 Tryz.results13 hW99.box rfl rfl Tryz.underlying27 rfl SV.out) rfl ⟨rfl,hW99.below _ _ (by omega) hB3⟩
set_option maxRecDepth 100000 in
set_option maxHeartbeats 6400000 in
theorem tok_f {S:List Int} (k:Nums) (hS:S.length=32) (hSb:Byts S) (h:¬ HasKey k.t k.e) (w:World) (hL:Hid (LaidS w)):Calls Tryz.prog 13 #[(.agg (S.map (Value.int .u8)).toArray),.int .u32 k.t,.int .u32 k.u,.int .u32 k.e,.int .u64 k.x] w fun e w'=>e=.returned (.tuple #[(.agg zeroTk.toArray),.int .i64 2])∧Below w.heap.size w w':=by
 have A:=fun (W:World) (h1:Hid (LaidS W))=>ten_is hS hSb k.ht k.he (Or.inr ⟨rfl,h,rfl⟩) W h1
 have SK:=Lib.hid (size_dig hS);have LK:=Lib.hid (len_dig hS);have OK:=Lib.hid (oneCell_ints (k:=.u8) S)
 have SD:=Lib.hid (size_dig zd32);have LD:=Lib.hid (len_dig zd32);have OD:=Lib.hid (oneCell_ints (k:=.u8) zeroD)
 have BT:=fun W=>build_t0 W;have SV:Hid ((Tryz.prog.info? 27).map (·.size)=some zeroTk.length):=Lib.hid (size_tok Nums.zero zd32);have LV:Hid (zeroTk.length=zeroTk.length):=Lib.hid rfl;have OV:Hid (zeroTk.toArray.all (·.oneCell')=true):=Lib.hid (tcell_one Nums.zero zeroD)
 have EZ:Hid (zeroTk=zeroTk):=Lib.hid rfl
 clear EZ LV
 obtain ⟨D,hD⟩:∃ X,zeroD.map (Value.int .u8)=X:=⟨_,rfl⟩
 rw [hD] at SD LD OD A
 clear hD
 obtain ⟨C,hC⟩:∃ X,S.map (Value.int .u8)=X:=⟨_,rfl⟩
 rw [hC] at SK A ⊢
 clear hC
 clear hS hSb h
 go_enter Tryz.func13,Tryz.ntmps13
 go_upto_region 1 with fail
 refine F_gen (F:=fun W=>Code.wp _ _ _ _ W) (J:=fun W=>Box W (w.heap.size) (C)∧Box W (w.heap.size + 1) (zeroTk)∧Below w.heap.size w W) (And.intro (Box.alloc (Box.newc rfl rfl) _) (And.intro (Box.newc rfl (by simp)) (by go_grown))) ?_
 intro w0 ⟨e_k,e_r,hB0⟩
 have hs0:=hB0.size
 have x_k0:=e_k;clear e_k
 have x_r0:=e_r;clear e_r
 go_wp2_with (refine wpList_load_box9 rfl _ _ rfl x_k0 rfl Tryz.underlying23 rfl SK.out ?_)
 refine (A _ (Lib.hid (hL.out.below hB0))).mono ?_
 rintro e w1 ⟨rfl,hb⟩
 have hB1:Below w.heap.size w w1:=below_thru hB0 hb
 have hs1:=hB1.size
 have x_k1:Box w1 (w.heap.size) (C):=Box.below x_k0 hb
 have x_r1:Box w1 (w.heap.size + 1) (zeroTk):=Box.below x_r0 hb
 clear hB0 hs0 x_k0 x_r0
 clear hb
 have d_d_k:=(x_k1).lt
 have d_d_r:=(x_r1).lt
 have d_d_0:=hs1
 go_upto_region 2 with (refine wpList_store_box (cs:=D) rfl _ _ _ rfl (Box.newc (l:=zero32) rfl rfl) rfl rfl SD.out LD.out OD.out ?_;intro W1_0 hW1_0)
 have hN:Below w1.heap.size w1 W1_0:=(hW1_0.below _ _ (by omega) ((Below.refl _ w1).alloc (Nat.le_refl _) _))
 have x_d2:Box W1_0 (w1.heap.size) (D):=hW1_0.box
 have hB2:Below w.heap.size w W1_0:=below_thru hB1 hN
 have hs2:=hB2.size
 have x_k2:Box W1_0 (w.heap.size) (C):=Box.below x_k1 hN
 have x_r2:Box W1_0 (w.heap.size + 1) (zeroTk):=Box.below x_r1 hN
 clear hB1 hs1 x_k1 x_r1
 clear hN hW1_0
 have lq:=(x_r2).lt
 go_wp2_with (first | (refine wpList_build9 rfl 27 _ rfl (us:=#[]) (by rfl) (BT _) ?_) | (refine wpList_store_box (cs:=zeroTk) rfl _ _ _ rfl x_r2 rfl rfl SV.out rfl OV.out ?_;intro W99 hW99))
 exact bodyPost_ret (results_box2 Tryz.results13 hW99.box rfl rfl Tryz.underlying27 rfl SV.out) rfl ⟨rfl,hW99.below _ _ (by omega) hB2⟩
theorem token_is {S:List Int} (k:Nums) (hS:S.length=32) (hSb:Byts S) {l:Nums} {g:List Int} {q:Int} (h:TokOf S k l g q) (w:World) (hL:Hid (LaidS w)):Calls Tryz.prog 13 #[(.agg (S.map (Value.int .u8)).toArray),.int .u32 k.t,.int .u32 k.u,.int .u32 k.e,.int .u64 k.x] w fun e w'=>e=.returned (.tuple #[(.agg (tcell l g).toArray),.int .i64 q])∧Below w.heap.size w w':=by
 rcases h with ⟨rfl,h,rfl,rfl⟩ | ⟨rfl,h,rfl,rfl⟩
 · exact tok_t l hS hSb h w hL
 · exact tok_f k hS hSb h w hL
end Go.Proofs.YtnfejdfjlnpldaaGreatDoor
