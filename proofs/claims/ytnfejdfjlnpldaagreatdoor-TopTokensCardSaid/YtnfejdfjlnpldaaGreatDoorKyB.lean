import Derived.Test.YtnfejdfjlnpldaaGreatDoorKyA
import Derived.Test.YtnfejdfjlnpldaaGreatDoorGX3
set_option maxHeartbeats 6400000
set_option maxRecDepth 100000
namespace Go.Proofs.YtnfejdfjlnpldaaGreatDoor
open Go.RowKit
theorem ccell_tail15 (c:Cmd):(ccell c).drop 15=c.g.map (Value.int .u8) ++ []:=by rw [List.append_nil];rfl
theorem sgn_p1 (c:Cmd) {D:List Int} (h:D.length=32):15 + (D.map (Value.int .u8)).length≤(ccell c).length:=by rw [List.length_map,h,ccell_len];decide
theorem sgn_p2 (c:Cmd) {D:List Int} (h:D.length=32) (hb:Byts D):ccell (c.tagged D h hb)=(ccell c).take 15 ++ D.map (Value.int .u8) ++ (ccell c).drop (15 + (D.map (Value.int .u8)).length):=by
 rw [List.drop_eq_nil_of_le (by rw [ccell_len,List.length_map,h];decide),List.append_nil]
 rfl
set_option maxRecDepth 100000 in
set_option maxHeartbeats 6400000 in
theorem sign_t {S:List Int} (c:Cmd) (hS:S.length=32) (hSb:Byts S) (h:c.Ok) (w:World) (hL:Hid (LaidS w)):Calls Tryz.prog 48 #[(.agg (S.map (Value.int .u8)).toArray),(.agg (ccell c).toArray)] w fun e w'=>e=.returned (.tuple #[(.agg (ccell (c.sgn S)).toArray),.int .i64 0])∧Below w.heap.size w w':=by
 have BE:=fun W=>bef_is c (xs:=c.msg) (q:=0) (Or.inl ⟨rfl,h,rfl⟩) W
 have CO:=fun (W:World) (h1:Hid (LaidS W))=>ord_is hS hSb W h1
 have A:=fun (W:World) (v:Value) (h1:IsL W .u8 v c.msg) (h2:Hid (LaidS W))=>tagof_is (D:=cmdTag S c) (ordL_len S) (ordL_byts S) W h1 (by rw [Cmd.msg_len (Cmd.ok_wd h)];decide) (Cmd.msg_byts c) (Lib.hid rfl) h2
 have SK:=Lib.hid (size_dig hS);have LK:=Lib.hid (len_dig hS);have OK:=Lib.hid (oneCell_ints (k:=.u8) S)
 have SD:=Lib.hid (size_dig (cmdTag_len S c));have LD:=Lib.hid (len_dig (cmdTag_len S c));have OD:=Lib.hid (oneCell_ints (k:=.u8) (cmdTag S c))
 have SV:=Lib.hid (size_cmd c);have LV:=Lib.hid (len_cmd Cmd.zero c);have OV:=Lib.hid (one_cmd c)
 have SU:=Lib.hid (size_cmd (c.sgn S));have LU:=Lib.hid (len_cmd Cmd.zero (c.sgn S));have OU:=Lib.hid (one_cmd (c.sgn S))
 have P1:=Lib.hid (sgn_p1 c (cmdTag_len S c));have P2:Hid (ccell (c.sgn S)=(ccell c).take 15 ++ (cmdTag S c).map (Value.int .u8) ++ (ccell c).drop (15 + ((cmdTag S c).map (Value.int .u8)).length)):=Lib.hid (sgn_p2 c (cmdTag_len S c) (cmdTag_byts S c))
 obtain ⟨E,hE⟩:∃ X,(cmdTag S c).map (Value.int .u8)=X:=⟨_,rfl⟩
 rw [hE] at SD LD OD A P1 P2
 clear hE
 obtain ⟨Q,hQ⟩:∃ X,(ordL S).map (Value.int .u8)=X:=⟨_,rfl⟩
 rw [hQ] at CO A
 clear hQ
 obtain ⟨U,hU⟩:∃ X,ccell (c.sgn S)=X:=⟨_,rfl⟩
 rw [hU] at SU LU OU P2 ⊢
 clear hU
 obtain ⟨V,hV⟩:∃ X,ccell c=X:=⟨_,rfl⟩
 rw [hV] at SV LV OV BE P1 P2 ⊢
 clear hV
 obtain ⟨M,hM⟩:∃ X,c.msg=X:=⟨_,rfl⟩
 rw [hM] at BE A
 clear hM
 obtain ⟨C,hC⟩:∃ X,S.map (Value.int .u8)=X:=⟨_,rfl⟩
 rw [hC] at SK CO ⊢
 clear hC
 clear hS hSb h
 go_enter Tryz.func48,Tryz.ntmps48
 go_upto_region 1 with fail
 refine F_gen (F:=fun W=>Code.wp _ _ _ _ W) (J:=fun W=>Box W (w.heap.size) (C)∧Box W (w.heap.size + 1) (V)∧Box W (w.heap.size + 2) (ccell Cmd.zero)∧Below w.heap.size w W) (And.intro (Box.alloc (Box.alloc (Box.newc rfl rfl) _) _) (And.intro (Box.alloc (Box.newc rfl (by simp)) _) (And.intro (Box.newc rfl (by simp)) (by go_grown)))) ?_
 intro w0 ⟨e_k,e_c,e_r,hB0⟩
 have hs0:=hB0.size
 have x_k0:=e_k;clear e_k
 have x_c0:=e_c;clear e_c
 have x_r0:=e_r;clear e_r
 go_wp2_with (refine wpList_load_box9 rfl _ _ rfl x_c0 rfl Tryz.underlying35 rfl SV.out ?_)
 refine (BE _).mono ?_
 rintro e w1 ⟨vm,rfl,hm,hb⟩
 have hB1:Below w.heap.size w w1:=below_thru hB0 hb
 have hs1:=hB1.size
 have x_k1:Box w1 (w.heap.size) (C):=Box.below x_k0 hb
 have x_c1:Box w1 (w.heap.size + 1) (V):=Box.below x_c0 hb
 have x_r1:Box w1 (w.heap.size + 2) (ccell Cmd.zero):=Box.below x_r0 hb
 clear hB0 hs0 x_k0 x_c0 x_r0
 clear hb
 have J_m1:Hid (IsL w1 .u8 (vm) M):=Lib.hid hm
 clear hm
 go_wp2_with (refine wpList_load_box9 rfl _ _ rfl x_k1 rfl Tryz.underlying23 rfl SK.out ?_)
 refine (CO _ (Lib.hid (hL.out.below hB1))).mono ?_
 rintro e w2 ⟨rfl,hb⟩
 have hB2:Below w.heap.size w w2:=below_thru hB1 hb
 have hs2:=hB2.size
 have x_k2:Box w2 (w.heap.size) (C):=Box.below x_k1 hb
 have x_c2:Box w2 (w.heap.size + 1) (V):=Box.below x_c1 hb
 have x_r2:Box w2 (w.heap.size + 2) (ccell Cmd.zero):=Box.below x_r1 hb
 have J_m2:Hid (IsL w2 .u8 (vm) M):=Lib.hid (IsL.below J_m1.out hb)
 clear hB1 hs1 x_k1 x_c1 x_r1 J_m1
 clear hb
 go_wp2_with fail
 refine (A _ _ J_m2.out (Lib.hid (hL.out.below hB2))).mono ?_
 rintro e w3 ⟨rfl,hb⟩
 have hB3:Below w.heap.size w w3:=below_thru hB2 hb
 have hs3:=hB3.size
 have x_k3:Box w3 (w.heap.size) (C):=Box.below x_k2 hb
 have x_c3:Box w3 (w.heap.size + 1) (V):=Box.below x_c2 hb
 have x_r3:Box w3 (w.heap.size + 2) (ccell Cmd.zero):=Box.below x_r2 hb
 have J_m3:Hid (IsL w3 .u8 (vm) M):=Lib.hid (IsL.below J_m2.out hb)
 clear hB2 hs2 x_k2 x_c2 x_r2 J_m2
 clear hb
 have lr_k:=(x_k3).lt
 have lr_c:=(x_c3).lt
 have lr_r:=(x_r3).lt
 go_upto_region 5 with (refine wpList_store_part (cs:=E) (ws:=U) rfl _ _ _ rfl x_c3 rfl rfl SD.out P1.out P2.out OD.out ?_;intro W8 hW8)
 have x_k4:Box W8 (w.heap.size) (C):=hW8.past _ _ (by omega) x_k3
 have x_r4:Box W8 (w.heap.size + 2) (ccell Cmd.zero):=hW8.past _ _ (by omega) x_r3
 have x_c4:Box W8 (w.heap.size + 1) (U):=hW8.box
 have hB4:Below w.heap.size w W8:=hW8.below _ _ (by omega) hB3
 have hs4:=hB4.size
 clear hW8 hB3 hs3 x_k3 x_c3 x_r3 lr_k lr_c lr_r J_m3
 have lq:=(x_r4).lt
 go_wp2_with (first | (refine wpList_load_box9 rfl _ _ rfl x_c4 rfl Tryz.underlying35 rfl SU.out ?_) | (refine wpList_store_box (cs:=U) rfl _ _ _ rfl x_r4 rfl rfl SU.out LU.out OU.out ?_;intro W99 hW99))
 exact bodyPost_ret (results_box2 Tryz.results48 hW99.box rfl rfl Tryz.underlying35 rfl SU.out) rfl ⟨rfl,hW99.below _ _ (by omega) hB4⟩
set_option maxRecDepth 100000 in
set_option maxHeartbeats 6400000 in
theorem sign_f {S:List Int} (c:Cmd) (hS:S.length=32) (h:¬ c.Ok) (w:World):Calls Tryz.prog 48 #[(.agg (S.map (Value.int .u8)).toArray),(.agg (ccell c).toArray)] w fun e w'=>e=.returned (.tuple #[(.agg (ccell Cmd.zero).toArray),.int .i64 8])∧Below w.heap.size w w':=by
 have BE:=fun W=>bef_is c (xs:=[]) (q:=8) (Or.inr ⟨rfl,h,rfl⟩) W
 have BC:=fun W=>build_c0 W
 have SK:=Lib.hid (size_dig hS);have LK:=Lib.hid (len_dig hS);have OK:=Lib.hid (oneCell_ints (k:=.u8) S)
 have SV:=Lib.hid (size_cmd c);have LV:=Lib.hid (len_cmd Cmd.zero c);have OV:=Lib.hid (one_cmd c)
 have SZ:=Lib.hid (size_cmd Cmd.zero);have OZ:=Lib.hid (one_cmd Cmd.zero)
 obtain ⟨V,hV⟩:∃ X,ccell c=X:=⟨_,rfl⟩
 rw [hV] at SV LV OV BE ⊢
 clear hV
 obtain ⟨C,hC⟩:∃ X,S.map (Value.int .u8)=X:=⟨_,rfl⟩
 rw [hC] at SK ⊢
 clear hC
 clear hS h LV OV
 go_enter Tryz.func48,Tryz.ntmps48
 go_upto_region 1 with fail
 refine F_gen (F:=fun W=>Code.wp _ _ _ _ W) (J:=fun W=>Box W (w.heap.size) (C)∧Box W (w.heap.size + 1) (V)∧Box W (w.heap.size + 2) (ccell Cmd.zero)∧Below w.heap.size w W) (And.intro (Box.alloc (Box.alloc (Box.newc rfl rfl) _) _) (And.intro (Box.alloc (Box.newc rfl (by simp)) _) (And.intro (Box.newc rfl (by simp)) (by go_grown)))) ?_
 intro w0 ⟨e_k,e_c,e_r,hB0⟩
 have hs0:=hB0.size
 have x_k0:=e_k;clear e_k
 have x_c0:=e_c;clear e_c
 have x_r0:=e_r;clear e_r
 go_wp2_with (refine wpList_load_box9 rfl _ _ rfl x_c0 rfl Tryz.underlying35 rfl SV.out ?_)
 refine (BE _).mono ?_
 rintro e w1 ⟨vm,rfl,hm,hb⟩
 have hB1:Below w.heap.size w w1:=below_thru hB0 hb
 have hs1:=hB1.size
 have x_k1:Box w1 (w.heap.size) (C):=Box.below x_k0 hb
 have x_c1:Box w1 (w.heap.size + 1) (V):=Box.below x_c0 hb
 have x_r1:Box w1 (w.heap.size + 2) (ccell Cmd.zero):=Box.below x_r0 hb
 clear hB0 hs0 x_k0 x_c0 x_r0
 clear hb
 clear hm
 have lq:=(x_r1).lt
 go_wp2_with (first | (refine wpList_build9 rfl 35 _ rfl (us:=#[]) (by rfl) (BC _) ?_) | (refine wpList_store_box (cs:=ccell Cmd.zero) rfl _ _ _ rfl x_r1 rfl rfl SZ.out (len_cmd Cmd.zero Cmd.zero) OZ.out ?_;intro W99 hW99))
 exact bodyPost_ret (results_box2 Tryz.results48 hW99.box rfl rfl Tryz.underlying35 rfl SZ.out) rfl ⟨rfl,hW99.below _ _ (by omega) hB1⟩
theorem sign_is {S:List Int} (c:Cmd) {d:Cmd} {q:Int} (hS:S.length=32) (hSb:Byts S) (h:SigOf S c d q) (w:World) (hL:Hid (LaidS w)):Calls Tryz.prog 48 #[(.agg (S.map (Value.int .u8)).toArray),(.agg (ccell c).toArray)] w fun e w'=>e=.returned (.tuple #[(.agg (ccell d).toArray),.int .i64 q])∧Below w.heap.size w w':=by
 rcases h with ⟨rfl,h,rfl⟩ | ⟨rfl,h,rfl⟩
 · exact sign_t c hS hSb h w hL
 · exact sign_f c hS h w
set_option maxRecDepth 100000 in
set_option maxHeartbeats 6400000 in
theorem itr_t {S g:List Int} (k:Nums) (hg:g.length=32) (hS:S.length=32) (hSb:Byts S) (h:HasKey k.t k.e) (h2:minted S k=g) (w:World) (hL:Hid (LaidS w)):Calls Tryz.prog 18 #[(.agg (S.map (Value.int .u8)).toArray),.agg (tcell k g).toArray] w fun e w'=>e=.returned (.bool true)∧Below w.heap.size w w':=by
 have A:=fun (W:World) (h1:Hid (LaidS W))=>ten_is hS hSb k.ht k.he (Or.inl ⟨rfl,h,rfl⟩) W h1
 have B:=fun (W:World) (h1:Hid (LaidS W))=>verify_is k hg (q:=0) (tkeyL_len S k.t k.e) (tkeyL_byts S k.t k.e) (Lib.hid (ver11_t h2)) W h1
 have SK:=Lib.hid (size_dig hS);have LK:=Lib.hid (len_dig hS);have OK:=Lib.hid (oneCell_ints (k:=.u8) S)
 have SD:=Lib.hid (size_dig (tkeyL_len S k.t k.e));have LD:=Lib.hid (len_dig (tkeyL_len S k.t k.e));have OD:=Lib.hid (oneCell_ints (k:=.u8) (tkeyL S k.t k.e))
 have SV:=Lib.hid (size_tok k hg);have LV:Hid (zeroTk.length=(tcell k g).length):=Lib.hid (len_tok Nums.zero k zd32 hg);have OV:=Lib.hid (tcell_one k g)
 have v0:(tcell k g)[0]? = some (.int .u32 k.t):=rfl;have v2:(tcell k g)[2]? = some (.int .u32 k.e):=rfl
 obtain ⟨V,hV⟩:∃ X,tcell k g=X:=⟨_,rfl⟩
 rw [hV] at SV LV OV v0 v2 B ⊢
 clear hV
 obtain ⟨D,hD⟩:∃ X,(tkeyL S k.t k.e).map (Value.int .u8)=X:=⟨_,rfl⟩
 rw [hD] at SD LD OD A B
 clear hD
 obtain ⟨C,hC⟩:∃ X,S.map (Value.int .u8)=X:=⟨_,rfl⟩
 rw [hC] at SK A ⊢
 clear hC
 clear hS hSb hg h LV OV h2
 go_enter Tryz.func18,Tryz.ntmps18
 go_upto_region 1 with fail
 refine F_gen (F:=fun W=>Code.wp _ _ _ _ W) (J:=fun W=>Box W (w.heap.size) (C)∧Box W (w.heap.size + 1) (V)∧Below w.heap.size w W) (And.intro (Box.alloc (Box.newc rfl rfl) _) (And.intro (Box.newc rfl (by simp)) (by go_grown))) ?_
 intro w0 ⟨e_k,e_t,hB0⟩
 have hs0:=hB0.size
 have x_k0:=e_k;clear e_k
 have x_t0:=e_t;clear e_t
 have ca:=(x_t0).c 0 _ v0
 have za:=(x_t0).lt
 have cb:=(x_t0).c 2 _ v2
 have zb:=(x_t0).lt
 go_wp2_with (refine wpList_load_box9 rfl _ _ rfl x_k0 rfl Tryz.underlying23 rfl SK.out ?_)
 refine (A _ (Lib.hid (hL.out.below hB0))).mono ?_
 rintro e w1 ⟨rfl,hb⟩
 clear ca za cb zb
 have hB1:Below w.heap.size w w1:=below_thru hB0 hb
 have hs1:=hB1.size
 have x_k1:Box w1 (w.heap.size) (C):=Box.below x_k0 hb
 have x_t1:Box w1 (w.heap.size + 1) (V):=Box.below x_t0 hb
 clear hB0 hs0 x_k0 x_t0
 clear hb
 have d_d_k:=(x_k1).lt
 have d_d_t:=(x_t1).lt
 have d_d_0:=hs1
 go_upto_region 2 with (refine wpList_store_box (cs:=D) rfl _ _ _ rfl (Box.newc (l:=zero32) rfl rfl) rfl rfl SD.out LD.out OD.out ?_;intro W1_0 hW1_0)
 have hN:Below w1.heap.size w1 W1_0:=(hW1_0.below _ _ (by omega) ((Below.refl _ w1).alloc (Nat.le_refl _) _))
 have x_d2:Box W1_0 (w1.heap.size) (D):=hW1_0.box
 have hB2:Below w.heap.size w W1_0:=below_thru hB1 hN
 have hs2:=hB2.size
 have x_k2:Box W1_0 (w.heap.size) (C):=Box.below x_k1 hN
 have x_t2:Box W1_0 (w.heap.size + 1) (V):=Box.below x_t1 hN
 clear hB1 hs1 x_k1 x_t1
 clear hN hW1_0
 go_wp2_with (first
   | (refine wpList_load_box9 rfl _ _ rfl x_d2 rfl Tryz.underlying23 rfl SD.out ?_)
   | (refine wpList_load_box9 rfl _ _ rfl x_t2 rfl Tryz.underlying27 rfl SV.out ?_))
 refine (B _ (Lib.hid (hL.out.below hB2))).mono ?_
 rintro e w3 ⟨rfl,hb⟩
 have hB3:Below w.heap.size w w3:=below_thru hB2 hb
 have hs3:=hB3.size
 have x_k3:Box w3 (w.heap.size) (C):=Box.below x_k2 hb
 have x_t3:Box w3 (w.heap.size + 1) (V):=Box.below x_t2 hb
 have x_d3:Box w3 (w1.heap.size) (D):=Box.below x_d2 hb
 clear hB2 hs2 x_k2 x_t2 x_d2
 clear hb
 go_wp2_with fail
 go_returns
 exact ⟨rfl,hB3⟩
set_option maxRecDepth 100000 in
set_option maxHeartbeats 6400000 in
theorem itr_f {S g:List Int} (k:Nums) (hg:g.length=32) (hS:S.length=32) (hSb:Byts S) (h:HasKey k.t k.e) (h2:minted S k ≠ g) (w:World) (hL:Hid (LaidS w)):Calls Tryz.prog 18 #[(.agg (S.map (Value.int .u8)).toArray),.agg (tcell k g).toArray] w fun e w'=>e=.returned (.bool false)∧Below w.heap.size w w':=by
 have A:=fun (W:World) (h1:Hid (LaidS W))=>ten_is hS hSb k.ht k.he (Or.inl ⟨rfl,h,rfl⟩) W h1
 have B:=fun (W:World) (h1:Hid (LaidS W))=>verify_is k hg (q:=22) (tkeyL_len S k.t k.e) (tkeyL_byts S k.t k.e) (Lib.hid (ver11_f h2)) W h1
 have SK:=Lib.hid (size_dig hS);have LK:=Lib.hid (len_dig hS);have OK:=Lib.hid (oneCell_ints (k:=.u8) S)
 have SD:=Lib.hid (size_dig (tkeyL_len S k.t k.e));have LD:=Lib.hid (len_dig (tkeyL_len S k.t k.e));have OD:=Lib.hid (oneCell_ints (k:=.u8) (tkeyL S k.t k.e))
 have SV:=Lib.hid (size_tok k hg);have LV:Hid (zeroTk.length=(tcell k g).length):=Lib.hid (len_tok Nums.zero k zd32 hg);have OV:=Lib.hid (tcell_one k g)
 have v0:(tcell k g)[0]? = some (.int .u32 k.t):=rfl;have v2:(tcell k g)[2]? = some (.int .u32 k.e):=rfl
 obtain ⟨V,hV⟩:∃ X,tcell k g=X:=⟨_,rfl⟩
 rw [hV] at SV LV OV v0 v2 B ⊢
 clear hV
 obtain ⟨D,hD⟩:∃ X,(tkeyL S k.t k.e).map (Value.int .u8)=X:=⟨_,rfl⟩
 rw [hD] at SD LD OD A B
 clear hD
 obtain ⟨C,hC⟩:∃ X,S.map (Value.int .u8)=X:=⟨_,rfl⟩
 rw [hC] at SK A ⊢
 clear hC
 clear hS hSb hg h LV OV h2
 go_enter Tryz.func18,Tryz.ntmps18
 go_upto_region 1 with fail
 refine F_gen (F:=fun W=>Code.wp _ _ _ _ W) (J:=fun W=>Box W (w.heap.size) (C)∧Box W (w.heap.size + 1) (V)∧Below w.heap.size w W) (And.intro (Box.alloc (Box.newc rfl rfl) _) (And.intro (Box.newc rfl (by simp)) (by go_grown))) ?_
 intro w0 ⟨e_k,e_t,hB0⟩
 have hs0:=hB0.size
 have x_k0:=e_k;clear e_k
 have x_t0:=e_t;clear e_t
 have ca:=(x_t0).c 0 _ v0
 have za:=(x_t0).lt
 have cb:=(x_t0).c 2 _ v2
 have zb:=(x_t0).lt
 go_wp2_with (refine wpList_load_box9 rfl _ _ rfl x_k0 rfl Tryz.underlying23 rfl SK.out ?_)
 refine (A _ (Lib.hid (hL.out.below hB0))).mono ?_
 rintro e w1 ⟨rfl,hb⟩
 clear ca za cb zb
 have hB1:Below w.heap.size w w1:=below_thru hB0 hb
 have hs1:=hB1.size
 have x_k1:Box w1 (w.heap.size) (C):=Box.below x_k0 hb
 have x_t1:Box w1 (w.heap.size + 1) (V):=Box.below x_t0 hb
 clear hB0 hs0 x_k0 x_t0
 clear hb
 have d_d_k:=(x_k1).lt
 have d_d_t:=(x_t1).lt
 have d_d_0:=hs1
 go_upto_region 2 with (refine wpList_store_box (cs:=D) rfl _ _ _ rfl (Box.newc (l:=zero32) rfl rfl) rfl rfl SD.out LD.out OD.out ?_;intro W1_0 hW1_0)
 have hN:Below w1.heap.size w1 W1_0:=(hW1_0.below _ _ (by omega) ((Below.refl _ w1).alloc (Nat.le_refl _) _))
 have x_d2:Box W1_0 (w1.heap.size) (D):=hW1_0.box
 have hB2:Below w.heap.size w W1_0:=below_thru hB1 hN
 have hs2:=hB2.size
 have x_k2:Box W1_0 (w.heap.size) (C):=Box.below x_k1 hN
 have x_t2:Box W1_0 (w.heap.size + 1) (V):=Box.below x_t1 hN
 clear hB1 hs1 x_k1 x_t1
 clear hN hW1_0
 go_wp2_with (first
   | (refine wpList_load_box9 rfl _ _ rfl x_d2 rfl Tryz.underlying23 rfl SD.out ?_)
   | (refine wpList_load_box9 rfl _ _ rfl x_t2 rfl Tryz.underlying27 rfl SV.out ?_))
 refine (B _ (Lib.hid (hL.out.below hB2))).mono ?_
 rintro e w3 ⟨rfl,hb⟩
 have hB3:Below w.heap.size w w3:=below_thru hB2 hb
 have hs3:=hB3.size
 have x_k3:Box w3 (w.heap.size) (C):=Box.below x_k2 hb
 have x_t3:Box w3 (w.heap.size + 1) (V):=Box.below x_t2 hb
 have x_d3:Box w3 (w1.heap.size) (D):=Box.below x_d2 hb
 clear hB2 hs2 x_k2 x_t2 x_d2
 clear hb
 go_wp2_with fail
 go_returns
 exact ⟨rfl,hB3⟩
set_option maxRecDepth 100000 in
set_option maxHeartbeats 6400000 in
theorem itr_n {S g:List Int} (k:Nums) (hg:g.length=32) (hS:S.length=32) (hSb:Byts S) (h:¬ HasKey k.t k.e) (w:World) (hL:Hid (LaidS w)):Calls Tryz.prog 18 #[(.agg (S.map (Value.int .u8)).toArray),.agg (tcell k g).toArray] w fun e w'=>e=.returned (.bool false)∧Below w.heap.size w w':=by
 have A:=fun (W:World) (h1:Hid (LaidS W))=>ten_is hS hSb k.ht k.he (Or.inr ⟨rfl,h,rfl⟩) W h1
 have SK:=Lib.hid (size_dig hS);have LK:=Lib.hid (len_dig hS);have OK:=Lib.hid (oneCell_ints (k:=.u8) S)
 have SD:=Lib.hid (size_dig zd32);have LD:=Lib.hid (len_dig zd32);have OD:=Lib.hid (oneCell_ints (k:=.u8) zeroD)
 have SV:=Lib.hid (size_tok k hg);have LV:Hid (zeroTk.length=(tcell k g).length):=Lib.hid (len_tok Nums.zero k zd32 hg);have OV:=Lib.hid (tcell_one k g)
 have v0:(tcell k g)[0]? = some (.int .u32 k.t):=rfl;have v2:(tcell k g)[2]? = some (.int .u32 k.e):=rfl
 obtain ⟨V,hV⟩:∃ X,tcell k g=X:=⟨_,rfl⟩
 rw [hV] at SV LV OV v0 v2 ⊢
 clear hV
 obtain ⟨D,hD⟩:∃ X,zeroD.map (Value.int .u8)=X:=⟨_,rfl⟩
 rw [hD] at SD LD OD A
 clear hD
 obtain ⟨C,hC⟩:∃ X,S.map (Value.int .u8)=X:=⟨_,rfl⟩
 rw [hC] at SK A ⊢
 clear hC
 clear hS hSb hg h LV OV
 go_enter Tryz.func18,Tryz.ntmps18
 go_upto_region 1 with fail
 refine F_gen (F:=fun W=>Code.wp _ _ _ _ W) (J:=fun W=>Box W (w.heap.size) (C)∧Box W (w.heap.size + 1) (V)∧Below w.heap.size w W) (And.intro (Box.alloc (Box.newc rfl rfl) _) (And.intro (Box.newc rfl (by simp)) (by go_grown))) ?_
 intro w0 ⟨e_k,e_t,hB0⟩
 have hs0:=hB0.size
 have x_k0:=e_k;clear e_k
 have x_t0:=e_t;clear e_t
 have ca:=(x_t0).c 0 _ v0
 have za:=(x_t0).lt
 have cb:=(x_t0).c 2 _ v2
 have zb:=(x_t0).lt
 go_wp2_with (refine wpList_load_box9 rfl _ _ rfl x_k0 rfl Tryz.underlying23 rfl SK.out ?_)
 refine (A _ (Lib.hid (hL.out.below hB0))).mono ?_
 rintro e w1 ⟨rfl,hb⟩
 clear ca za cb zb
 have hB1:Below w.heap.size w w1:=below_thru hB0 hb
 have hs1:=hB1.size
 have x_k1:Box w1 (w.heap.size) (C):=Box.below x_k0 hb
 have x_t1:Box w1 (w.heap.size + 1) (V):=Box.below x_t0 hb
 clear hB0 hs0 x_k0 x_t0
 clear hb
 have d_d_k:=(x_k1).lt
 have d_d_t:=(x_t1).lt
 have d_d_0:=hs1
 go_upto_region 2 with (refine wpList_store_box (cs:=D) rfl _ _ _ rfl (Box.newc (l:=zero32) rfl rfl) rfl rfl SD.out LD.out OD.out ?_;intro W1_0 hW1_0)
 have hN:Below w1.heap.size w1 W1_0:=(hW1_0.below _ _ (by omega) ((Below.refl _ w1).alloc (Nat.le_refl _) _))
 have x_d2:Box W1_0 (w1.heap.size) (D):=hW1_0.box
 have hB2:Below w.heap.size w W1_0:=below_thru hB1 hN
 have hs2:=hB2.size
 have x_k2:Box W1_0 (w.heap.size) (C):=Box.below x_k1 hN
 have x_t2:Box W1_0 (w.heap.size + 1) (V):=Box.below x_t1 hN
 clear hB1 hs1 x_k1 x_t1
 clear hN hW1_0
 go_wp2_with fail
 go_returns
 exact ⟨rfl,hB2⟩
theorem itr_is {S g:List Int} (k:Nums) (hg:g.length=32) (hS:S.length=32) (hSb:Byts S) {b:Bool} (h:b=true↔TruT S k g) (w:World) (hL:Hid (LaidS w)):Calls Tryz.prog 18 #[(.agg (S.map (Value.int .u8)).toArray),.agg (tcell k g).toArray] w fun e w'=>e=.returned (.bool b)∧Below w.heap.size w w':=by
 by_cases h1:HasKey k.t k.e
 · by_cases h2:minted S k=g
   · rw [h.2 ⟨h1,h2⟩]
     exact itr_t k hg hS hSb h1 h2 w hL
   · rw [show b=false by cases b;rfl;exact absurd (h.1 rfl).2 h2]
     exact itr_f k hg hS hSb h1 h2 w hL
 · rw [show b=false by cases b;rfl;exact absurd (h.1 rfl).1 h1]
   exact itr_n k hg hS hSb h1 w hL
set_option maxRecDepth 100000 in
set_option maxHeartbeats 6400000 in
theorem icr_is {S:List Int} (c:Cmd) (hS:S.length=32) (hSb:Byts S) (h:c.Ok) {b:Bool} (hb:b=true↔TruC S c) (w:World) (hL:Hid (LaidS w)):Calls Tryz.prog 19 #[(.agg (S.map (Value.int .u8)).toArray),(.agg (ccell c).toArray)] w fun e w'=>e=.returned (.bool b)∧Below w.heap.size w w':=by
 have A:=fun (W:World) (h1:Hid (LaidS W))=>sign_is c hS hSb (Or.inl ⟨rfl,h,rfl⟩) W h1
 have e:sameB (cmdTag S c) c.g=b:=bool_iff (by unfold sameB;exact decide_eq_true_iff) hb
 have SK:=Lib.hid (size_dig hS);have LK:=Lib.hid (len_dig hS);have OK:=Lib.hid (oneCell_ints (k:=.u8) S)
 have SD:=Lib.hid (size_dig (cmdTag_len S c));have LD:=Lib.hid (len_dig (cmdTag_len S c));have OD:=Lib.hid (oneCell_ints (k:=.u8) (cmdTag S c))
 have SG:=Lib.hid (size_dig c.hg);have LG:=Lib.hid (len_dig c.hg);have OG:=Lib.hid (oneCell_ints (k:=.u8) c.g)
 have SV:=Lib.hid (size_cmd c);have LV:=Lib.hid (len_cmd Cmd.zero c);have OV:=Lib.hid (one_cmd c)
 have SU:=Lib.hid (size_cmd (c.sgn S));have LU:=Lib.hid (len_cmd Cmd.zero (c.sgn S));have OU:=Lib.hid (one_cmd (c.sgn S))
 have DV:=Lib.hid (ccell_tail15 c);have DU:Hid ((ccell (c.sgn S)).drop 15=(cmdTag S c).map (Value.int .u8) ++ []):=Lib.hid (ccell_tail15 (c.sgn S))
 obtain ⟨E,hE⟩:∃ X,(cmdTag S c).map (Value.int .u8)=X:=⟨_,rfl⟩
 obtain ⟨G,hG⟩:∃ X,c.g.map (Value.int .u8)=X:=⟨_,rfl⟩
 have M:∀ W:World,Calls Tryz.prog 49 #[.agg E.toArray,.agg G.toArray] W fun e w'=>e=.returned (.bool b)∧Below W.heap.size W w':=by rw [← hE,← hG,← e];exact fun W=>mac_same W (cmdTag_len S c) c.hg
 rw [hE] at SD LD OD DU;rw [hG] at SG LG OG DV
 obtain ⟨U,hU⟩:∃ X,ccell (c.sgn S)=X:=⟨_,rfl⟩
 rw [hU] at A SU LU OU DU
 clear hU
 obtain ⟨V,hV⟩:∃ X,ccell c=X:=⟨_,rfl⟩
 rw [hV] at A SV LV OV DV ⊢
 clear hV
 obtain ⟨C,hC⟩:∃ X,S.map (Value.int .u8)=X:=⟨_,rfl⟩
 rw [hC] at SK A ⊢
 clear hC
 clear hS hSb h hE hG e hb LV OV LD OD LG OG
 go_enter Tryz.func19,Tryz.ntmps19
 go_upto_region 1 with fail
 refine F_gen (F:=fun W=>Code.wp _ _ _ _ W) (J:=fun W=>Box W (w.heap.size) (C)∧Box W (w.heap.size + 1) (V)∧Below w.heap.size w W) (And.intro (Box.alloc (Box.newc rfl rfl) _) (And.intro (Box.newc rfl (by simp)) (by go_grown))) ?_
 intro w0 ⟨e_k,e_c,hB0⟩
 have hs0:=hB0.size
 have x_k0:=e_k;clear e_k
 have x_c0:=e_c;clear e_c
 go_wp2_with (first
   | (refine wpList_load_box9 rfl _ _ rfl x_k0 rfl Tryz.underlying23 rfl SK.out ?_)
   | (refine wpList_load_box9 rfl _ _ rfl x_c0 rfl Tryz.underlying35 rfl SV.out ?_))
 refine (A _ (Lib.hid (hL.out.below hB0))).mono ?_
 rintro e w1 ⟨rfl,hb⟩
 have hB1:Below w.heap.size w w1:=below_thru hB0 hb
 have hs1:=hB1.size
 have x_k1:Box w1 (w.heap.size) (C):=Box.below x_k0 hb
 have x_c1:Box w1 (w.heap.size + 1) (V):=Box.below x_c0 hb
 clear hB0 hs0 x_k0 x_c0
 clear hb
 have d_s_k:=(x_k1).lt
 have d_s_c:=(x_c1).lt
 have d_s_0:=hs1
 go_upto_region 2 with (refine wpList_store_box (cs:=U) rfl _ _ _ rfl (Box.newc (l:=ccell Cmd.zero) rfl rfl) rfl rfl SU.out LU.out OU.out ?_;intro W1_0 hW1_0)
 have hN:Below w1.heap.size w1 W1_0:=(hW1_0.below _ _ (by omega) ((Below.refl _ w1).alloc (Nat.le_refl _) _))
 have x_s2:Box W1_0 (w1.heap.size) (U):=hW1_0.box
 have hB2:Below w.heap.size w W1_0:=below_thru hB1 hN
 have hs2:=hB2.size
 have x_k2:Box W1_0 (w.heap.size) (C):=Box.below x_k1 hN
 have x_c2:Box W1_0 (w.heap.size + 1) (V):=Box.below x_c1 hN
 clear hB1 hs1 x_k1 x_c1
 clear hN hW1_0
 go_wp2_with (first
   | (refine wpList_load_rangew rfl _ _ rfl (Box.rangeMid x_s2 15 (E) ([]) DU.out) rfl Tryz.underlying23 rfl SD.out ?_)
   | (refine wpList_load_rangew rfl _ _ rfl (Box.rangeMid x_c2 15 (G) ([]) DV.out) rfl Tryz.underlying23 rfl SG.out ?_))
 refine (M _).mono ?_
 rintro e w3 ⟨rfl,hb⟩
 have hB3:Below w.heap.size w w3:=below_thru hB2 hb
 have hs3:=hB3.size
 have x_k3:Box w3 (w.heap.size) (C):=Box.below x_k2 hb
 have x_c3:Box w3 (w.heap.size + 1) (V):=Box.below x_c2 hb
 have x_s3:Box w3 (w1.heap.size) (U):=Box.below x_s2 hb
 clear hB2 hs2 x_k2 x_c2 x_s2
 clear hb
 go_wp2_with fail
 go_returns
 exact ⟨rfl,hB3⟩
set_option maxRecDepth 100000 in
set_option maxHeartbeats 6400000 in
theorem right_f {S:List Int} (f:Frm) (hS:S.length=32) (h:¬ f.Ok) (w:World):Calls Tryz.prog 6 #[(.agg (S.map (Value.int .u8)).toArray),(.agg (mcell f).toArray)] w fun e w'=>e=.returned (.tuple #[.bool false,.int .i64 8])∧Below w.heap.size w w':=by
 have CK:=fun W=>chk_is f (q:=8) (Lib.hid (Or.inr ⟨rfl,h⟩)) W
 have SK:=Lib.hid (size_dig hS);have LK:=Lib.hid (len_dig hS);have OK:=Lib.hid (oneCell_ints (k:=.u8) S)
 have SV:=Lib.hid (size_frm f);have LV:=Lib.hid (len_frm Frm.zero f);have OV:=Lib.hid (one_frm f)
 obtain ⟨V,hV⟩:∃ X,mcell f=X:=⟨_,rfl⟩
 rw [hV] at SV LV OV CK ⊢
 clear hV
 obtain ⟨C,hC⟩:∃ X,S.map (Value.int .u8)=X:=⟨_,rfl⟩
 rw [hC] at SK ⊢
 clear hC
 clear hS h LV OV
 go_enter Tryz.func6,Tryz.ntmps6
 go_upto_region 1 with fail
 refine F_gen (F:=fun W=>Code.wp _ _ _ _ W) (J:=fun W=>Box W (w.heap.size) (C)∧Box W (w.heap.size + 1) (V)∧Below w.heap.size w W) (And.intro (Box.alloc (Box.newc rfl rfl) _) (And.intro (Box.newc rfl (by simp)) (by go_grown))) ?_
 intro w0 ⟨e_k,e_f,hB0⟩
 have hs0:=hB0.size
 have x_k0:=e_k;clear e_k
 have x_f0:=e_f;clear e_f
 go_wp2_with (refine wpList_load_box9 rfl _ _ rfl x_f0 rfl Tryz.underlying37 rfl SV.out ?_)
 refine (CK _).mono ?_
 rintro e w1 ⟨rfl,hb⟩
 have hB1:Below w.heap.size w w1:=below_thru hB0 hb
 have hs1:=hB1.size
 have x_k1:Box w1 (w.heap.size) (C):=Box.below x_k0 hb
 have x_f1:Box w1 (w.heap.size + 1) (V):=Box.below x_f0 hb
 clear hB0 hs0 x_k0 x_f0
 clear hb
 go_wp2_with fail
 go_returns
 exact ⟨rfl,hB1⟩
set_option maxRecDepth 100000 in
set_option maxHeartbeats 6400000 in
theorem right_1 {S:List Int} (f:Frm) (hS:S.length=32) (hSb:Byts S) (h:f.Ok) (h0:f.kd=1) {b:Bool} (hb:b=true↔TruT S f.r.k f.r.g) (w:World) (hL:Hid (LaidS w)):Calls Tryz.prog 6 #[(.agg (S.map (Value.int .u8)).toArray),(.agg (mcell f).toArray)] w fun e w'=>e=.returned (.tuple #[.bool b,.int .i64 0])∧Below w.heap.size w w':=by
 have CK:=fun W=>chk_is f (q:=0) (Lib.hid (Or.inl ⟨rfl,h⟩)) W
 have v0:(mcell f)[0]? = some (.int .u8 1):=by rw [← h0];rfl
 have A:=fun (W:World) (h1:Hid (LaidS W))=>itr_is f.r.k f.r.hg hS hSb hb W h1
 have DT:=Lib.hid (mcell_t f)
 have SP:=Lib.hid (size_tok f.r.k f.r.hg);have LP:Hid (zeroTk.length=(tcell f.r.k f.r.g).length):=Lib.hid (len_tok Nums.zero f.r.k zd32 f.r.hg);have OP:=Lib.hid (tcell_one f.r.k f.r.g)
 have SK:=Lib.hid (size_dig hS);have LK:=Lib.hid (len_dig hS);have OK:=Lib.hid (oneCell_ints (k:=.u8) S)
 have SV:=Lib.hid (size_frm f);have LV:=Lib.hid (len_frm Frm.zero f);have OV:=Lib.hid (one_frm f)
 obtain ⟨R,hR⟩:∃ X,(.int .u16 f.r.ep :: .int .u32 f.r.co :: ccell f.c)=X:=⟨_,rfl⟩
 rw [hR] at DT
 clear hR
 obtain ⟨P,hP⟩:∃ X,tcell f.r.k f.r.g=X:=⟨_,rfl⟩
 rw [hP] at A SP LP OP DT
 clear hP
 obtain ⟨V,hV⟩:∃ X,mcell f=X:=⟨_,rfl⟩
 rw [hV] at CK SV LV OV DT v0 ⊢
 clear hV
 obtain ⟨C,hC⟩:∃ X,S.map (Value.int .u8)=X:=⟨_,rfl⟩
 rw [hC] at SK A ⊢
 clear hC
 clear hS hSb h h0 hb LV OV LP OP
 go_enter Tryz.func6,Tryz.ntmps6
 go_upto_region 1 with fail
 refine F_gen (F:=fun W=>Code.wp _ _ _ _ W) (J:=fun W=>Box W (w.heap.size) (C)∧Box W (w.heap.size + 1) (V)∧Below w.heap.size w W) (And.intro (Box.alloc (Box.newc rfl rfl) _) (And.intro (Box.newc rfl (by simp)) (by go_grown))) ?_
 intro w0 ⟨e_k,e_f,hB0⟩
 have hs0:=hB0.size
 have x_k0:=e_k;clear e_k
 have x_f0:=e_f;clear e_f
 go_wp2_with (refine wpList_load_box9 rfl _ _ rfl x_f0 rfl Tryz.underlying37 rfl SV.out ?_)
 refine (CK _).mono ?_
 rintro e w1 ⟨rfl,hb⟩
 have hB1:Below w.heap.size w w1:=below_thru hB0 hb
 have hs1:=hB1.size
 have x_k1:Box w1 (w.heap.size) (C):=Box.below x_k0 hb
 have x_f1:Box w1 (w.heap.size + 1) (V):=Box.below x_f0 hb
 clear hB0 hs0 x_k0 x_f0
 clear hb
 have ca:=(x_f1).c 0 _ v0
 have za:=(x_f1).lt
 go_wp2_with (first
   | (refine wpList_load_box9 rfl _ _ rfl x_k1 rfl Tryz.underlying23 rfl SK.out ?_)
   | (refine wpList_load_rangew rfl _ _ rfl (Box.rangeMid x_f1 1 (P) (R) DT.out) rfl Tryz.underlying27 rfl SP.out ?_))
 refine (A _ (Lib.hid (hL.out.below hB1))).mono ?_
 rintro e w2 ⟨rfl,hb⟩
 clear ca za
 have hB2:Below w.heap.size w w2:=below_thru hB1 hb
 have hs2:=hB2.size
 have x_k2:Box w2 (w.heap.size) (C):=Box.below x_k1 hb
 have x_f2:Box w2 (w.heap.size + 1) (V):=Box.below x_f1 hb
 clear hB1 hs1 x_k1 x_f1
 clear hb
 go_wp2_with fail
 go_returns
 exact ⟨rfl,hB2⟩
set_option maxRecDepth 100000 in
set_option maxHeartbeats 6400000 in
theorem right_2 {S:List Int} (f:Frm) (hS:S.length=32) (hSb:Byts S) (h:f.Ok) (h0:f.kd=2) {b:Bool} (hb:b=true↔TruC S f.c) (w:World) (hL:Hid (LaidS w)):Calls Tryz.prog 6 #[(.agg (S.map (Value.int .u8)).toArray),(.agg (mcell f).toArray)] w fun e w'=>e=.returned (.tuple #[.bool b,.int .i64 0])∧Below w.heap.size w w':=by
 have CK:=fun W=>chk_is f (q:=0) (Lib.hid (Or.inl ⟨rfl,h⟩)) W
 have v0:(mcell f)[0]? = some (.int .u8 2):=by rw [← h0];rfl
 have hc:f.c.Ok:=by rcases h with ⟨g,_⟩ | ⟨_,_,g⟩;rw [h0] at g;exact absurd g (by decide);exact g
 have A:=fun (W:World) (h1:Hid (LaidS W))=>icr_is f.c hS hSb hc hb W h1
 have DT:=Lib.hid (mcell_c f)
 have SP:=Lib.hid (size_cmd f.c);have LP:=Lib.hid (len_cmd Cmd.zero f.c);have OP:=Lib.hid (one_cmd f.c)
 have SK:=Lib.hid (size_dig hS);have LK:=Lib.hid (len_dig hS);have OK:=Lib.hid (oneCell_ints (k:=.u8) S)
 have SV:=Lib.hid (size_frm f);have LV:=Lib.hid (len_frm Frm.zero f);have OV:=Lib.hid (one_frm f)
 obtain ⟨P,hP⟩:∃ X,ccell f.c=X:=⟨_,rfl⟩
 rw [hP] at A SP LP OP DT
 clear hP
 obtain ⟨V,hV⟩:∃ X,mcell f=X:=⟨_,rfl⟩
 rw [hV] at CK SV LV OV DT v0 ⊢
 clear hV
 obtain ⟨C,hC⟩:∃ X,S.map (Value.int .u8)=X:=⟨_,rfl⟩
 rw [hC] at SK A ⊢
 clear hC
 clear hS hSb h h0 hb LV OV LP OP hc
 go_enter Tryz.func6,Tryz.ntmps6
 go_upto_region 1 with fail
 refine F_gen (F:=fun W=>Code.wp _ _ _ _ W) (J:=fun W=>Box W (w.heap.size) (C)∧Box W (w.heap.size + 1) (V)∧Below w.heap.size w W) (And.intro (Box.alloc (Box.newc rfl rfl) _) (And.intro (Box.newc rfl (by simp)) (by go_grown))) ?_
 intro w0 ⟨e_k,e_f,hB0⟩
 have hs0:=hB0.size
 have x_k0:=e_k;clear e_k
 have x_f0:=e_f;clear e_f
 go_wp2_with (refine wpList_load_box9 rfl _ _ rfl x_f0 rfl Tryz.underlying37 rfl SV.out ?_)
 refine (CK _).mono ?_
 rintro e w1 ⟨rfl,hb⟩
 have hB1:Below w.heap.size w w1:=below_thru hB0 hb
 have hs1:=hB1.size
 have x_k1:Box w1 (w.heap.size) (C):=Box.below x_k0 hb
 have x_f1:Box w1 (w.heap.size + 1) (V):=Box.below x_f0 hb
 clear hB0 hs0 x_k0 x_f0
 clear hb
 have ca:=(x_f1).c 0 _ v0
 have za:=(x_f1).lt
 go_wp2_with (first
   | (refine wpList_load_box9 rfl _ _ rfl x_k1 rfl Tryz.underlying23 rfl SK.out ?_)
   | (refine wpList_load_rangew rfl _ _ rfl (Box.rangeMid x_f1 39 (P) ([]) DT.out) rfl Tryz.underlying35 rfl SP.out ?_))
 refine (A _ (Lib.hid (hL.out.below hB1))).mono ?_
 rintro e w2 ⟨rfl,hb⟩
 clear ca za
 have hB2:Below w.heap.size w w2:=below_thru hB1 hb
 have hs2:=hB2.size
 have x_k2:Box w2 (w.heap.size) (C):=Box.below x_k1 hb
 have x_f2:Box w2 (w.heap.size + 1) (V):=Box.below x_f1 hb
 clear hB1 hs1 x_k1 x_f1
 clear hb
 go_wp2_with fail
 go_returns
 exact ⟨rfl,hB2⟩
theorem right_is {S:List Int} (f:Frm) (hS:S.length=32) (hSb:Byts S) {b:Bool} {q:Int} (h:RigOf S f b q) (w:World) (hL:Hid (LaidS w)):Calls Tryz.prog 6 #[(.agg (S.map (Value.int .u8)).toArray),(.agg (mcell f).toArray)] w fun e w'=>e=.returned (.tuple #[.bool b,.int .i64 q])∧Below w.heap.size w w':=by
 rcases h with ⟨rfl,h,hb⟩ | ⟨rfl,h,rfl⟩
 · rcases id h with ⟨h0,_⟩ | ⟨h0,_⟩
   · exact right_1 f hS hSb h h0 (hb.trans (Tru.of1 (by rw [h0];decide))) w hL
   · exact right_2 f hS hSb h h0 (hb.trans (Tru.of2 h0)) w hL
 · exact right_f f hS h w
end Go.Proofs.YtnfejdfjlnpldaaGreatDoor
