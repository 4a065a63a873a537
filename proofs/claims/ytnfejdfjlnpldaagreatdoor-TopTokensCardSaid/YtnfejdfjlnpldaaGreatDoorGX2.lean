import Derived.Test.YtnfejdfjlnpldaaGreatDoorGX1
set_option maxHeartbeats 3200000
set_option maxRecDepth 100000
namespace Go.Proofs.YtnfejdfjlnpldaaGreatDoor
open Go.RowKit
set_option maxRecDepth 100000 in
set_option maxHeartbeats 3200000 in
theorem isc_a (c:Cmd) (d1:decide (16≤c.t)=true) (w:World):Calls Tryz.prog 47 #[.agg (ccell c).toArray] w fun e w'=>e=.returned (.bool false)∧Below w.heap.size w w':=by
 have SV:=Lib.hid (size_cmd c)
 have SA:=Lib.hid (size_arr c)
 have D3:=Lib.hid (ccell_drop3 c)
 obtain ⟨V,hV⟩:∃ V,ccell c=V:=⟨_,rfl⟩
 have v0:V[0]? = some (.int .u8 c.op):=by rw [← hV];rfl
 have v1:V[1]? = some (.int .u32 c.t):=by rw [← hV];rfl
 have v12:V[12]? = some (.int .u8 c.us):=by rw [← hV];rfl
 have v13:V[13]? = some (.int .u8 c.en):=by rw [← hV];rfl
 rw [hV] at SV D3 ⊢
 clear hV
 go_enter Tryz.func47,Tryz.ntmps47
 go_upto_region 1 with fail
 refine F_gen (F:=fun W=>Code.wp _ _ _ _ W) (J:=fun W=>Box W (w.heap.size) (V)∧Below w.heap.size w W) (And.intro (Box.newc rfl rfl) (by go_grown)) ?_
 intro w0 ⟨e_c,hB0⟩
 have hs0:=hB0.size
 have x_c0:=e_c;clear e_c
 refine wp_region_held_drew (S:=fun W=>Box W (w.heap.size) (V)) (by kernel_rfl) (x_c0).drew (fun _=>?_)
 refine F_drew (F:=fun W=>wpAnyH _ _ _ _ _ _ _ _ W) ?_
 intro Wm0 hbm0
 have hxm0:=(Box.below x_c0 hbm0)
 have hBm0:=below_thru hB0 hbm0
 clear x_c0 hB0 hs0 hbm0
 refine takeH 0 3 (v:=?vm0_1) rfl (by rfl) (by kernel_rfl) (by kernel_rfl) (by kernel_rfl) (fun _ _ _ h=>h) (Or.inl ⟨by rfl,?_⟩) (hxm0) ?_
 rotate_left
 · intro wq hSq
   go_simp
   exact rfl
 try simp only [Act.put,qzA,qz0,qzS]
 refine takeH 1 4 (v:=?vm1_2) rfl (by rfl) (by kernel_rfl) (by kernel_rfl) (by kernel_rfl) (fun _ _ _ h=>h) (Or.inl ⟨by rfl,?_⟩) (hxm0) ?_
 rotate_left
 · intro wq hSq
   have cq:=(hSq).c 1 _ v1
   have zq:=lt_of_cell cq
   go_simp
   exact rfl
 try simp only [Act.put,qzA,qz0,qzS]
 refine takeH 2 5 (v:=?vm2_3) rfl (by rfl) (by kernel_rfl) (by kernel_rfl) (by kernel_rfl) (fun _ _ _ h=>h) (Or.inl ⟨by rfl,?_⟩) (hxm0) ?_
 rotate_left
 · intro wq hSq
   go_simp
   exact rfl
 try simp only [Act.put,qzA,qz0,qzS]
 refine takeH 3 6 (v:=?vm3_4) rfl (by rfl) (by kernel_rfl) (by kernel_rfl) (by kernel_rfl) (fun _ _ _ h=>h) (Or.inl ⟨by rfl,?_⟩) (hxm0) ?_
 rotate_left
 · intro wq hSq
   go_simp
   exact rfl
 try simp only [Act.put,qzA,qz0,qzS]
 refine takeH 4 7 (v:=undef) rfl (by rfl) (by kernel_rfl) (by kernel_rfl) (by kernel_rfl) (fun _ _ _ h=>h) (Or.inr ⟨by rfl,rfl⟩) (hxm0) ?_
 try simp only [Act.put,qzA,qz0,qzS]
 refine takeH 5 8 (v:=undef) rfl (by rfl) (by kernel_rfl) (by kernel_rfl) (by kernel_rfl) (fun _ _ _ h=>h) (Or.inr ⟨by rfl,rfl⟩) (hxm0) ?_
 try simp only [Act.put,qzA,qz0,qzS]
 refine takeH 6 9 (v:=undef) rfl (by rfl) (by kernel_rfl) (by kernel_rfl) (by kernel_rfl) (fun _ _ _ h=>h) (Or.inr ⟨by rfl,rfl⟩) (hxm0) ?_
 try simp only [Act.put,qzA,qz0,qzS]
 refine takeH 7 10 (v:=undef) rfl (by rfl) (by kernel_rfl) (by kernel_rfl) (by kernel_rfl) (fun _ _ _ h=>h) (Or.inr ⟨by rfl,rfl⟩) (hxm0) ?_
 try simp only [Act.put,qzA,qz0,qzS]
 refine takeH 8 11 (v:=?vm8_5) rfl (by rfl) (by kernel_rfl) (by kernel_rfl) (by kernel_rfl) (fun _ _ _ h=>h) (Or.inl ⟨by rfl,?_⟩) (hxm0) ?_
 rotate_left
 · intro wq hSq
   go_simp
   exact rfl
 try simp only [Act.put,qzA,qz0,qzS]
 refine wpAnyH_done (by kernel_rfl) ?_ _
 have x_c1:Box Wm0 (w.heap.size) (V):=hxm0
 have hB1:=hBm0
 have hs1:=hB1.size
 clear hxm0
 go_wp2_with fail
 go_returns
 exact ⟨rfl,hB1⟩
set_option maxRecDepth 100000 in
set_option maxHeartbeats 3200000 in
theorem isc_b (c:Cmd) (d1:decide (16≤c.t)=false) (h2:c ≠ c.only) (w:World):Calls Tryz.prog 47 #[.agg (ccell c).toArray] w fun e w'=>e=.returned (.bool false)∧Below w.heap.size w w':=by
 have SV:=Lib.hid (size_cmd c)
 have SA:=Lib.hid (size_arr c)
 have D3:=Lib.hid (ccell_drop3 c)
 have ON:=fun W=>only_is c W
 have EQ:=fun W=>eqc_f h2 W
 obtain ⟨V,hV⟩:∃ V,ccell c=V:=⟨_,rfl⟩
 have v0:V[0]? = some (.int .u8 c.op):=by rw [← hV];rfl
 have v1:V[1]? = some (.int .u32 c.t):=by rw [← hV];rfl
 have v12:V[12]? = some (.int .u8 c.us):=by rw [← hV];rfl
 have v13:V[13]? = some (.int .u8 c.en):=by rw [← hV];rfl
 obtain ⟨U,hU⟩:∃ V,ccell c.only=V:=⟨_,rfl⟩
 rw [hV,hU] at EQ
 rw [hV,hU] at ON
 rw [hV] at SV D3 ⊢
 clear hV hU h2
 go_enter Tryz.func47,Tryz.ntmps47
 go_upto_region 1 with fail
 refine F_gen (F:=fun W=>Code.wp _ _ _ _ W) (J:=fun W=>Box W (w.heap.size) (V)∧Below w.heap.size w W) (And.intro (Box.newc rfl rfl) (by go_grown)) ?_
 intro w0 ⟨e_c,hB0⟩
 have hs0:=hB0.size
 have x_c0:=e_c;clear e_c
 refine wp_region_held_drew (S:=fun W=>Box W (w.heap.size) (V)) (by kernel_rfl) (x_c0).drew (fun _=>?_)
 refine F_drew (F:=fun W=>wpAnyH _ _ _ _ _ _ _ _ W) ?_
 intro Wm0 hbm0
 have hxm0:=(Box.below x_c0 hbm0)
 have hBm0:=below_thru hB0 hbm0
 clear x_c0 hB0 hs0 hbm0
 refine takeH 0 3 (v:=?vm0_1) rfl (by rfl) (by kernel_rfl) (by kernel_rfl) (by kernel_rfl) (fun _ _ _ h=>h) (Or.inl ⟨by rfl,?_⟩) (hxm0) ?_
 rotate_left
 · intro wq hSq
   go_simp
   exact rfl
 try simp only [Act.put,qzA,qz0,qzS]
 refine takeH 1 4 (v:=?vm1_2) rfl (by rfl) (by kernel_rfl) (by kernel_rfl) (by kernel_rfl) (fun _ _ _ h=>h) (Or.inl ⟨by rfl,?_⟩) (hxm0) ?_
 rotate_left
 · intro wq hSq
   have cq:=(hSq).c 1 _ v1
   have zq:=lt_of_cell cq
   go_simp
   exact rfl
 try simp only [Act.put,qzA,qz0,qzS]
 refine takeH 2 5 (v:=?vm2_3) rfl (by rfl) (by kernel_rfl) (by kernel_rfl) (by kernel_rfl) (fun _ _ _ h=>h) (Or.inl ⟨by rfl,?_⟩) (hxm0) ?_
 rotate_left
 · intro wq hSq
   go_simp
   exact rfl
 try simp only [Act.put,qzA,qz0,qzS]
 refine takeH 3 6 (v:=?vm3_4) rfl (by rfl) (by kernel_rfl) (by kernel_rfl) (by kernel_rfl) (fun _ _ _ h=>h) (Or.inl ⟨by rfl,?_⟩) (hxm0) ?_
 rotate_left
 · intro wq hSq
   go_simp
   exact rfl
 try simp only [Act.put,qzA,qz0,qzS]
 refine takeH 4 7 (v:=.agg (V).toArray) rfl (by rfl) (by kernel_rfl) (by kernel_rfl) (by kernel_rfl) (fun _ _ _ h=>h) (yieldsIf_load_mid (by rfl) _ _ rfl _ _ rfl (V) _ (fun wq hq=>Box.range (hq)) Tryz.underlying35 rfl SV.out) (hxm0) ?_
 try simp only [Act.put,qzA,qz0,qzS]
 refine takeH 5 8 (v:=.agg (V).toArray) rfl (by rfl) (by kernel_rfl) (by kernel_rfl) (by kernel_rfl) (fun _ _ _ h=>h) (yieldsIf_load_mid (by rfl) _ _ rfl _ _ rfl (V) _ (fun wq hq=>Box.range (hq)) Tryz.underlying35 rfl SV.out) (hxm0) ?_
 try simp only [Act.put,qzA,qz0,qzS]
 refine wpAnyH_ready (rs:=[6]) (by kernel_rfl) (by simp) (AllReadyH.cons rfl (fun K hK=>?_) AllReadyH.nil)
 go_simp
 refine (ON _).mono ?_
 rintro e Wm5 ⟨rfl,hbm5⟩
 have hxm5:=(Box.below hxm0 hbm5)
 have hBm5:=below_thru hBm0 hbm5
 clear hxm0 hBm0
 clear hbm5
 refine hK.out _ _ hxm5 (fun _=>?_);clear hK
 refine takeH 7 10 (v:=?vm7_6) rfl (by rfl) (by kernel_rfl) (by kernel_rfl) (by kernel_rfl) (fun _ _ _ h=>h) (Or.inl ⟨by rfl,?_⟩) (hxm5) ?_
 rotate_left
 · intro wq hSq
   go_simp
   exact rfl
 try simp only [Act.put,qzA,qz0,qzS]
 refine takeH 8 11 (v:=?vm8_7) rfl (by rfl) (by kernel_rfl) (by kernel_rfl) (by kernel_rfl) (fun _ _ _ h=>h) (Or.inl ⟨by rfl,?_⟩) (hxm5) ?_
 rotate_left
 · intro wq hSq
   go_simp
   exact rfl
 try simp only [Act.put,qzA,qz0,qzS]
 refine wpAnyH_done (by kernel_rfl) ?_ _
 have x_c1:Box Wm5 (w.heap.size) (V):=hxm5
 have hB1:=hBm5
 have hs1:=hB1.size
 clear hxm5
 go_wp2_with fail
 go_returns
 exact ⟨rfl,hB1⟩
set_option maxRecDepth 100000 in
set_option maxHeartbeats 3200000 in
theorem isc_1f (c:Cmd) (d1:decide (16≤c.t)=false) (h2:c=c.only) (h0:c.op=1) (hl:Hid (c.lims↔false=true)) (w:World):Calls Tryz.prog 47 #[.agg (ccell c).toArray] w fun e w'=>e=.returned (.bool false)∧Below w.heap.size w w':=by
 have SV:=Lib.hid (size_cmd c)
 have SA:=Lib.hid (size_arr c)
 have D3:=Lib.hid (ccell_drop3 c)
 have ON:=fun W=>only_is c W
 have EQ:=fun W=>eqc_t h2 W
 have CL:=fun W=>lims_is c hl W
 clear hl
 obtain ⟨V,hV⟩:∃ V,ccell c=V:=⟨_,rfl⟩
 have v0:V[0]? = some (.int .u8 1):=by rw [← hV];rw [← h0];rfl
 have v1:V[1]? = some (.int .u32 c.t):=by rw [← hV];rfl
 have v12:V[12]? = some (.int .u8 c.us):=by rw [← hV];rfl
 have v13:V[13]? = some (.int .u8 c.en):=by rw [← hV];rfl
 obtain ⟨U,hU⟩:∃ V,ccell c.only=V:=⟨_,rfl⟩
 rw [hV,hU] at EQ
 rw [hV,hU] at ON
 rw [hV] at SV D3 ⊢
 clear hV hU h2
 go_enter Tryz.func47,Tryz.ntmps47
 go_upto_region 1 with fail
 refine F_gen (F:=fun W=>Code.wp _ _ _ _ W) (J:=fun W=>Box W (w.heap.size) (V)∧Below w.heap.size w W) (And.intro (Box.newc rfl rfl) (by go_grown)) ?_
 intro w0 ⟨e_c,hB0⟩
 have hs0:=hB0.size
 have x_c0:=e_c;clear e_c
 refine wp_region_held_drew (S:=fun W=>Box W (w.heap.size) (V)) (by kernel_rfl) (x_c0).drew (fun _=>?_)
 refine F_drew (F:=fun W=>wpAnyH _ _ _ _ _ _ _ _ W) ?_
 intro Wm0 hbm0
 have hxm0:=(Box.below x_c0 hbm0)
 have hBm0:=below_thru hB0 hbm0
 clear x_c0 hB0 hs0 hbm0
 refine takeH 0 3 (v:=?vm0_1) rfl (by rfl) (by kernel_rfl) (by kernel_rfl) (by kernel_rfl) (fun _ _ _ h=>h) (Or.inl ⟨by rfl,?_⟩) (hxm0) ?_
 rotate_left
 · intro wq hSq
   go_simp
   exact rfl
 try simp only [Act.put,qzA,qz0,qzS]
 refine takeH 1 4 (v:=?vm1_2) rfl (by rfl) (by kernel_rfl) (by kernel_rfl) (by kernel_rfl) (fun _ _ _ h=>h) (Or.inl ⟨by rfl,?_⟩) (hxm0) ?_
 rotate_left
 · intro wq hSq
   have cq:=(hSq).c 1 _ v1
   have zq:=lt_of_cell cq
   go_simp
   exact rfl
 try simp only [Act.put,qzA,qz0,qzS]
 refine takeH 2 5 (v:=?vm2_3) rfl (by rfl) (by kernel_rfl) (by kernel_rfl) (by kernel_rfl) (fun _ _ _ h=>h) (Or.inl ⟨by rfl,?_⟩) (hxm0) ?_
 rotate_left
 · intro wq hSq
   go_simp
   exact rfl
 try simp only [Act.put,qzA,qz0,qzS]
 refine takeH 3 6 (v:=?vm3_4) rfl (by rfl) (by kernel_rfl) (by kernel_rfl) (by kernel_rfl) (fun _ _ _ h=>h) (Or.inl ⟨by rfl,?_⟩) (hxm0) ?_
 rotate_left
 · intro wq hSq
   go_simp
   exact rfl
 try simp only [Act.put,qzA,qz0,qzS]
 refine takeH 4 7 (v:=.agg (V).toArray) rfl (by rfl) (by kernel_rfl) (by kernel_rfl) (by kernel_rfl) (fun _ _ _ h=>h) (yieldsIf_load_mid (by rfl) _ _ rfl _ _ rfl (V) _ (fun wq hq=>Box.range (hq)) Tryz.underlying35 rfl SV.out) (hxm0) ?_
 try simp only [Act.put,qzA,qz0,qzS]
 refine takeH 5 8 (v:=.agg (V).toArray) rfl (by rfl) (by kernel_rfl) (by kernel_rfl) (by kernel_rfl) (fun _ _ _ h=>h) (yieldsIf_load_mid (by rfl) _ _ rfl _ _ rfl (V) _ (fun wq hq=>Box.range (hq)) Tryz.underlying35 rfl SV.out) (hxm0) ?_
 try simp only [Act.put,qzA,qz0,qzS]
 refine wpAnyH_ready (rs:=[6]) (by kernel_rfl) (by simp) (AllReadyH.cons rfl (fun K hK=>?_) AllReadyH.nil)
 go_simp
 refine (ON _).mono ?_
 rintro e Wm5 ⟨rfl,hbm5⟩
 have hxm5:=(Box.below hxm0 hbm5)
 have hBm5:=below_thru hBm0 hbm5
 clear hxm0 hBm0
 clear hbm5
 refine hK.out _ _ hxm5 (fun _=>?_);clear hK
 refine takeH 7 10 (v:=?vm7_6) rfl (by rfl) (by kernel_rfl) (by kernel_rfl) (by kernel_rfl) (fun _ _ _ h=>h) (Or.inl ⟨by rfl,?_⟩) (hxm5) ?_
 rotate_left
 · intro wq hSq
   go_simp
   exact rfl
 try simp only [Act.put,qzA,qz0,qzS]
 refine takeH 8 11 (v:=?vm8_7) rfl (by rfl) (by kernel_rfl) (by kernel_rfl) (by kernel_rfl) (fun _ _ _ h=>h) (Or.inl ⟨by rfl,?_⟩) (hxm5) ?_
 rotate_left
 · intro wq hSq
   go_simp
   exact rfl
 try simp only [Act.put,qzA,qz0,qzS]
 refine wpAnyH_done (by kernel_rfl) ?_ _
 have x_c1:Box Wm5 (w.heap.size) (V):=hxm5
 have hB1:=hBm5
 have hs1:=hB1.size
 clear hxm5
 have ca:=(x_c1).c 0 _ v0
 have za:=(x_c1).lt
 go_wp2_with (refine wpList_load_rangew rfl _ _ rfl (Box.rangeMid x_c1 3 (lcell c) (acell c) D3.out) rfl Tryz.underlying33 rfl SA.out ?_)
 refine (CL _).mono ?_
 rintro e w2 ⟨rfl,hb⟩
 clear ca za
 have hB2:Below w.heap.size w w2:=below_thru hB1 hb
 have hs2:=hB2.size
 have x_c2:Box w2 (w.heap.size) (V):=Box.below x_c1 hb
 clear hB1 hs1 x_c1
 clear hb
 go_wp2_with fail
 go_returns
 exact ⟨rfl,hB2⟩
set_option maxRecDepth 100000 in
set_option maxHeartbeats 3200000 in
theorem isc_1tf (c:Cmd) (d1:decide (16≤c.t)=false) (h2:c=c.only) (h0:c.op=1) (hl:Hid (c.lims↔true=true)) (hu:Hid (Cap c.us↔false=true)) (w:World):Calls Tryz.prog 47 #[.agg (ccell c).toArray] w fun e w'=>e=.returned (.bool false)∧Below w.heap.size w w':=by
 have SV:=Lib.hid (size_cmd c)
 have SA:=Lib.hid (size_arr c)
 have D3:=Lib.hid (ccell_drop3 c)
 have ON:=fun W=>only_is c W
 have EQ:=fun W=>eqc_t h2 W
 have CL:=fun W=>lims_is c hl W
 clear hl
 have CU:=fun W=>cap_is hu W
 clear hu
 obtain ⟨V,hV⟩:∃ V,ccell c=V:=⟨_,rfl⟩
 have v0:V[0]? = some (.int .u8 1):=by rw [← hV];rw [← h0];rfl
 have v1:V[1]? = some (.int .u32 c.t):=by rw [← hV];rfl
 have v12:V[12]? = some (.int .u8 c.us):=by rw [← hV];rfl
 have v13:V[13]? = some (.int .u8 c.en):=by rw [← hV];rfl
 obtain ⟨U,hU⟩:∃ V,ccell c.only=V:=⟨_,rfl⟩
 rw [hV,hU] at EQ
 rw [hV,hU] at ON
 rw [hV] at SV D3 ⊢
 clear hV hU h2
 go_enter Tryz.func47,Tryz.ntmps47
 go_upto_region 1 with fail
 refine F_gen (F:=fun W=>Code.wp _ _ _ _ W) (J:=fun W=>Box W (w.heap.size) (V)∧Below w.heap.size w W) (And.intro (Box.newc rfl rfl) (by go_grown)) ?_
 intro w0 ⟨e_c,hB0⟩
 have hs0:=hB0.size
 have x_c0:=e_c;clear e_c
 refine wp_region_held_drew (S:=fun W=>Box W (w.heap.size) (V)) (by kernel_rfl) (x_c0).drew (fun _=>?_)
 refine F_drew (F:=fun W=>wpAnyH _ _ _ _ _ _ _ _ W) ?_
 intro Wm0 hbm0
 have hxm0:=(Box.below x_c0 hbm0)
 have hBm0:=below_thru hB0 hbm0
 clear x_c0 hB0 hs0 hbm0
 refine takeH 0 3 (v:=?vm0_1) rfl (by rfl) (by kernel_rfl) (by kernel_rfl) (by kernel_rfl) (fun _ _ _ h=>h) (Or.inl ⟨by rfl,?_⟩) (hxm0) ?_
 rotate_left
 · intro wq hSq
   go_simp
   exact rfl
 try simp only [Act.put,qzA,qz0,qzS]
 refine takeH 1 4 (v:=?vm1_2) rfl (by rfl) (by kernel_rfl) (by kernel_rfl) (by kernel_rfl) (fun _ _ _ h=>h) (Or.inl ⟨by rfl,?_⟩) (hxm0) ?_
 rotate_left
 · intro wq hSq
   have cq:=(hSq).c 1 _ v1
   have zq:=lt_of_cell cq
   go_simp
   exact rfl
 try simp only [Act.put,qzA,qz0,qzS]
 refine takeH 2 5 (v:=?vm2_3) rfl (by rfl) (by kernel_rfl) (by kernel_rfl) (by kernel_rfl) (fun _ _ _ h=>h) (Or.inl ⟨by rfl,?_⟩) (hxm0) ?_
 rotate_left
 · intro wq hSq
   go_simp
   exact rfl
 try simp only [Act.put,qzA,qz0,qzS]
 refine takeH 3 6 (v:=?vm3_4) rfl (by rfl) (by kernel_rfl) (by kernel_rfl) (by kernel_rfl) (fun _ _ _ h=>h) (Or.inl ⟨by rfl,?_⟩) (hxm0) ?_
 rotate_left
 · intro wq hSq
   go_simp
   exact rfl
 try simp only [Act.put,qzA,qz0,qzS]
 refine takeH 4 7 (v:=.agg (V).toArray) rfl (by rfl) (by kernel_rfl) (by kernel_rfl) (by kernel_rfl) (fun _ _ _ h=>h) (yieldsIf_load_mid (by rfl) _ _ rfl _ _ rfl (V) _ (fun wq hq=>Box.range (hq)) Tryz.underlying35 rfl SV.out) (hxm0) ?_
 try simp only [Act.put,qzA,qz0,qzS]
 refine takeH 5 8 (v:=.agg (V).toArray) rfl (by rfl) (by kernel_rfl) (by kernel_rfl) (by kernel_rfl) (fun _ _ _ h=>h) (yieldsIf_load_mid (by rfl) _ _ rfl _ _ rfl (V) _ (fun wq hq=>Box.range (hq)) Tryz.underlying35 rfl SV.out) (hxm0) ?_
 try simp only [Act.put,qzA,qz0,qzS]
 refine wpAnyH_ready (rs:=[6]) (by kernel_rfl) (by simp) (AllReadyH.cons rfl (fun K hK=>?_) AllReadyH.nil)
 go_simp
 refine (ON _).mono ?_
 rintro e Wm5 ⟨rfl,hbm5⟩
 have hxm5:=(Box.below hxm0 hbm5)
 have hBm5:=below_thru hBm0 hbm5
 clear hxm0 hBm0
 clear hbm5
 refine hK.out _ _ hxm5 (fun _=>?_);clear hK
 refine takeH 7 10 (v:=?vm7_6) rfl (by rfl) (by kernel_rfl) (by kernel_rfl) (by kernel_rfl) (fun _ _ _ h=>h) (Or.inl ⟨by rfl,?_⟩) (hxm5) ?_
 rotate_left
 · intro wq hSq
   go_simp
   exact rfl
 try simp only [Act.put,qzA,qz0,qzS]
 refine takeH 8 11 (v:=?vm8_7) rfl (by rfl) (by kernel_rfl) (by kernel_rfl) (by kernel_rfl) (fun _ _ _ h=>h) (Or.inl ⟨by rfl,?_⟩) (hxm5) ?_
 rotate_left
 · intro wq hSq
   go_simp
   exact rfl
 try simp only [Act.put,qzA,qz0,qzS]
 refine wpAnyH_done (by kernel_rfl) ?_ _
 have x_c1:Box Wm5 (w.heap.size) (V):=hxm5
 have hB1:=hBm5
 have hs1:=hB1.size
 clear hxm5
 have ca:=(x_c1).c 0 _ v0
 have za:=(x_c1).lt
 go_wp2_with (refine wpList_load_rangew rfl _ _ rfl (Box.rangeMid x_c1 3 (lcell c) (acell c) D3.out) rfl Tryz.underlying33 rfl SA.out ?_)
 refine (CL _).mono ?_
 rintro e w2 ⟨rfl,hb⟩
 clear ca za
 have hB2:Below w.heap.size w w2:=below_thru hB1 hb
 have hs2:=hB2.size
 have x_c2:Box w2 (w.heap.size) (V):=Box.below x_c1 hb
 clear hB1 hs1 x_c1
 clear hb
 have cb:=(x_c2).c 12 _ v12
 have zb:=(x_c2).lt
 go_wp2_with fail
 refine (CU _).mono ?_
 rintro e w3 ⟨rfl,hb⟩
 clear cb zb
 have hB3:Below w.heap.size w w3:=below_thru hB2 hb
 have hs3:=hB3.size
 have x_c3:Box w3 (w.heap.size) (V):=Box.below x_c2 hb
 clear hB2 hs2 x_c2
 clear hb
 go_wp2_with fail
 go_returns
 exact ⟨rfl,hB3⟩
set_option maxRecDepth 100000 in
set_option maxHeartbeats 3200000 in
theorem isc_1tt (c:Cmd) (d1:decide (16≤c.t)=false) (h2:c=c.only) (h0:c.op=1) (hl:Hid (c.lims↔true=true)) (hu:Hid (Cap c.us↔true=true)) {q:Bool} (he:Hid (Cap c.en↔q=true)) (w:World):Calls Tryz.prog 47 #[.agg (ccell c).toArray] w fun e w'=>e=.returned (.bool q)∧Below w.heap.size w w':=by
 have SV:=Lib.hid (size_cmd c)
 have SA:=Lib.hid (size_arr c)
 have D3:=Lib.hid (ccell_drop3 c)
 have ON:=fun W=>only_is c W
 have EQ:=fun W=>eqc_t h2 W
 have CL:=fun W=>lims_is c hl W
 clear hl
 have CU:=fun W=>cap_is hu W
 clear hu
 have CE:=fun W=>cap_is he W
 clear he
 obtain ⟨V,hV⟩:∃ V,ccell c=V:=⟨_,rfl⟩
 have v0:V[0]? = some (.int .u8 1):=by rw [← hV];rw [← h0];rfl
 have v1:V[1]? = some (.int .u32 c.t):=by rw [← hV];rfl
 have v12:V[12]? = some (.int .u8 c.us):=by rw [← hV];rfl
 have v13:V[13]? = some (.int .u8 c.en):=by rw [← hV];rfl
 obtain ⟨U,hU⟩:∃ V,ccell c.only=V:=⟨_,rfl⟩
 rw [hV,hU] at EQ
 rw [hV,hU] at ON
 rw [hV] at SV D3 ⊢
 clear hV hU h2
 go_enter Tryz.func47,Tryz.ntmps47
 go_upto_region 1 with fail
 refine F_gen (F:=fun W=>Code.wp _ _ _ _ W) (J:=fun W=>Box W (w.heap.size) (V)∧Below w.heap.size w W) (And.intro (Box.newc rfl rfl) (by go_grown)) ?_
 intro w0 ⟨e_c,hB0⟩
 have hs0:=hB0.size
 have x_c0:=e_c;clear e_c
 refine wp_region_held_drew (S:=fun W=>Box W (w.heap.size) (V)) (by kernel_rfl) (x_c0).drew (fun _=>?_)
 refine F_drew (F:=fun W=>wpAnyH _ _ _ _ _ _ _ _ W) ?_
 intro Wm0 hbm0
 have hxm0:=(Box.below x_c0 hbm0)
 have hBm0:=below_thru hB0 hbm0
 clear x_c0 hB0 hs0 hbm0
 refine takeH 0 3 (v:=?vm0_1) rfl (by rfl) (by kernel_rfl) (by kernel_rfl) (by kernel_rfl) (fun _ _ _ h=>h) (Or.inl ⟨by rfl,?_⟩) (hxm0) ?_
 rotate_left
 · intro wq hSq
   go_simp
   exact rfl
 try simp only [Act.put,qzA,qz0,qzS]
 refine takeH 1 4 (v:=?vm1_2) rfl (by rfl) (by kernel_rfl) (by kernel_rfl) (by kernel_rfl) (fun _ _ _ h=>h) (Or.inl ⟨by rfl,?_⟩) (hxm0) ?_
 rotate_left
 · intro wq hSq
   have cq:=(hSq).c 1 _ v1
   have zq:=lt_of_cell cq
   go_simp
   exact rfl
 try simp only [Act.put,qzA,qz0,qzS]
 refine takeH 2 5 (v:=?vm2_3) rfl (by rfl) (by kernel_rfl) (by kernel_rfl) (by kernel_rfl) (fun _ _ _ h=>h) (Or.inl ⟨by rfl,?_⟩) (hxm0) ?_
 rotate_left
 · intro wq hSq
   go_simp
   exact rfl
 try simp only [Act.put,qzA,qz0,qzS]
 refine takeH 3 6 (v:=?vm3_4) rfl (by rfl) (by kernel_rfl) (by kernel_rfl) (by kernel_rfl) (fun _ _ _ h=>h) (Or.inl ⟨by rfl,?_⟩) (hxm0) ?_
 rotate_left
 · intro wq hSq
   go_simp
   exact rfl
 try simp only [Act.put,qzA,qz0,qzS]
 refine takeH 4 7 (v:=.agg (V).toArray) rfl (by rfl) (by kernel_rfl) (by kernel_rfl) (by kernel_rfl) (fun _ _ _ h=>h) (yieldsIf_load_mid (by rfl) _ _ rfl _ _ rfl (V) _ (fun wq hq=>Box.range (hq)) Tryz.underlying35 rfl SV.out) (hxm0) ?_
 try simp only [Act.put,qzA,qz0,qzS]
 refine takeH 5 8 (v:=.agg (V).toArray) rfl (by rfl) (by kernel_rfl) (by kernel_rfl) (by kernel_rfl) (fun _ _ _ h=>h) (yieldsIf_load_mid (by rfl) _ _ rfl _ _ rfl (V) _ (fun wq hq=>Box.range (hq)) Tryz.underlying35 rfl SV.out) (hxm0) ?_
 try simp only [Act.put,qzA,qz0,qzS]
 refine wpAnyH_ready (rs:=[6]) (by kernel_rfl) (by simp) (AllReadyH.cons rfl (fun K hK=>?_) AllReadyH.nil)
 go_simp
 refine (ON _).mono ?_
 rintro e Wm5 ⟨rfl,hbm5⟩
 have hxm5:=(Box.below hxm0 hbm5)
 have hBm5:=below_thru hBm0 hbm5
 clear hxm0 hBm0
 clear hbm5
 refine hK.out _ _ hxm5 (fun _=>?_);clear hK
 refine takeH 7 10 (v:=?vm7_6) rfl (by rfl) (by kernel_rfl) (by kernel_rfl) (by kernel_rfl) (fun _ _ _ h=>h) (Or.inl ⟨by rfl,?_⟩) (hxm5) ?_
 rotate_left
 · intro wq hSq
   go_simp
   exact rfl
 try simp only [Act.put,qzA,qz0,qzS]
 refine takeH 8 11 (v:=?vm8_7) rfl (by rfl) (by kernel_rfl) (by kernel_rfl) (by kernel_rfl) (fun _ _ _ h=>h) (Or.inl ⟨by rfl,?_⟩) (hxm5) ?_
 rotate_left
 · intro wq hSq
   go_simp
   exact rfl
 try simp only [Act.put,qzA,qz0,qzS]
 refine wpAnyH_done (by kernel_rfl) ?_ _
 have x_c1:Box Wm5 (w.heap.size) (V):=hxm5
 have hB1:=hBm5
 have hs1:=hB1.size
 clear hxm5
 have ca:=(x_c1).c 0 _ v0
 have za:=(x_c1).lt
 go_wp2_with (refine wpList_load_rangew rfl _ _ rfl (Box.rangeMid x_c1 3 (lcell c) (acell c) D3.out) rfl Tryz.underlying33 rfl SA.out ?_)
 refine (CL _).mono ?_
 rintro e w2 ⟨rfl,hb⟩
 clear ca za
 have hB2:Below w.heap.size w w2:=below_thru hB1 hb
 have hs2:=hB2.size
 have x_c2:Box w2 (w.heap.size) (V):=Box.below x_c1 hb
 clear hB1 hs1 x_c1
 clear hb
 have cb:=(x_c2).c 12 _ v12
 have zb:=(x_c2).lt
 go_wp2_with fail
 refine (CU _).mono ?_
 rintro e w3 ⟨rfl,hb⟩
 clear cb zb
 have hB3:Below w.heap.size w w3:=below_thru hB2 hb
 have hs3:=hB3.size
 have x_c3:Box w3 (w.heap.size) (V):=Box.below x_c2 hb
 clear hB2 hs2 x_c2
 clear hb
 have cb:=(x_c3).c 13 _ v13
 have zb:=(x_c3).lt
 go_wp2_with fail
 refine (CE _).mono ?_
 rintro e w4 ⟨rfl,hb⟩
 clear cb zb
 have hB4:Below w.heap.size w w4:=below_thru hB3 hb
 have hs4:=hB4.size
 have x_c4:Box w4 (w.heap.size) (V):=Box.below x_c3 hb
 clear hB3 hs3 x_c3
 clear hb
 go_wp2_with fail
 go_returns
 exact ⟨rfl,hB4⟩
set_option maxRecDepth 100000 in
set_option maxHeartbeats 3200000 in
theorem isc_3 (c:Cmd) (d1:decide (16≤c.t)=false) (h2:c=c.only) (h0:c.op=3) {q:Bool} (hl:Hid (c.lims↔q=true)) (w:World):Calls Tryz.prog 47 #[.agg (ccell c).toArray] w fun e w'=>e=.returned (.bool q)∧Below w.heap.size w w':=by
 have SV:=Lib.hid (size_cmd c)
 have SA:=Lib.hid (size_arr c)
 have D3:=Lib.hid (ccell_drop3 c)
 have ON:=fun W=>only_is c W
 have EQ:=fun W=>eqc_t h2 W
 have CL:=fun W=>lims_is c hl W
 clear hl
 obtain ⟨V,hV⟩:∃ V,ccell c=V:=⟨_,rfl⟩
 have v0:V[0]? = some (.int .u8 3):=by rw [← hV];rw [← h0];rfl
 have v1:V[1]? = some (.int .u32 c.t):=by rw [← hV];rfl
 have v12:V[12]? = some (.int .u8 c.us):=by rw [← hV];rfl
 have v13:V[13]? = some (.int .u8 c.en):=by rw [← hV];rfl
 obtain ⟨U,hU⟩:∃ V,ccell c.only=V:=⟨_,rfl⟩
 rw [hV,hU] at EQ
 rw [hV,hU] at ON
 rw [hV] at SV D3 ⊢
 clear hV hU h2
 go_enter Tryz.func47,Tryz.ntmps47
 go_upto_region 1 with fail
 refine F_gen (F:=fun W=>Code.wp _ _ _ _ W) (J:=fun W=>Box W (w.heap.size) (V)∧Below w.heap.size w W) (And.intro (Box.newc rfl rfl) (by go_grown)) ?_
 intro w0 ⟨e_c,hB0⟩
 have hs0:=hB0.size
 have x_c0:=e_c;clear e_c
 refine wp_region_held_drew (S:=fun W=>Box W (w.heap.size) (V)) (by kernel_rfl) (x_c0).drew (fun _=>?_)
 refine F_drew (F:=fun W=>wpAnyH _ _ _ _ _ _ _ _ W) ?_
 intro Wm0 hbm0
 have hxm0:=(Box.below x_c0 hbm0)
 have hBm0:=below_thru hB0 hbm0
 clear x_c0 hB0 hs0 hbm0
 refine takeH 0 3 (v:=?vm0_1) rfl (by rfl) (by kernel_rfl) (by kernel_rfl) (by kernel_rfl) (fun _ _ _ h=>h) (Or.inl ⟨by rfl,?_⟩) (hxm0) ?_
 rotate_left
 · intro wq hSq
   go_simp
   exact rfl
 try simp only [Act.put,qzA,qz0,qzS]
 refine takeH 1 4 (v:=?vm1_2) rfl (by rfl) (by kernel_rfl) (by kernel_rfl) (by kernel_rfl) (fun _ _ _ h=>h) (Or.inl ⟨by rfl,?_⟩) (hxm0) ?_
 rotate_left
 · intro wq hSq
   have cq:=(hSq).c 1 _ v1
   have zq:=lt_of_cell cq
   go_simp
   exact rfl
 try simp only [Act.put,qzA,qz0,qzS]
 refine takeH 2 5 (v:=?vm2_3) rfl (by rfl) (by kernel_rfl) (by kernel_rfl) (by kernel_rfl) (fun _ _ _ h=>h) (Or.inl ⟨by rfl,?_⟩) (hxm0) ?_
 rotate_left
 · intro wq hSq
   go_simp
   exact rfl
 try simp only [Act.put,qzA,qz0,qzS]
 refine takeH 3 6 (v:=?vm3_4) rfl (by rfl) (by kernel_rfl) (by kernel_rfl) (by kernel_rfl) (fun _ _ _ h=>h) (Or.inl ⟨by rfl,?_⟩) (hxm0) ?_
 rotate_left
 · intro wq hSq
   go_simp
   exact rfl
 try simp only [Act.put,qzA,qz0,qzS]
 refine takeH 4 7 (v:=.agg (V).toArray) rfl (by rfl) (by kernel_rfl) (by kernel_rfl) (by kernel_rfl) (fun _ _ _ h=>h) (yieldsIf_load_mid (by rfl) _ _ rfl _ _ rfl (V) _ (fun wq hq=>Box.range (hq)) Tryz.underlying35 rfl SV.out) (hxm0) ?_
 try simp only [Act.put,qzA,qz0,qzS]
 refine takeH 5 8 (v:=.agg (V).toArray) rfl (by rfl) (by kernel_rfl) (by kernel_rfl) (by kernel_rfl) (fun _ _ _ h=>h) (yieldsIf_load_mid (by rfl) _ _ rfl _ _ rfl (V) _ (fun wq hq=>Box.range (hq)) Tryz.underlying35 rfl SV.out) (hxm0) ?_
 try simp only [Act.put,qzA,qz0,qzS]
 refine wpAnyH_ready (rs:=[6]) (by kernel_rfl) (by simp) (AllReadyH.cons rfl (fun K hK=>?_) AllReadyH.nil)
 go_simp
 refine (ON _).mono ?_
 rintro e Wm5 ⟨rfl,hbm5⟩
 have hxm5:=(Box.below hxm0 hbm5)
 have hBm5:=below_thru hBm0 hbm5
 clear hxm0 hBm0
 clear hbm5
 refine hK.out _ _ hxm5 (fun _=>?_);clear hK
 refine takeH 7 10 (v:=?vm7_6) rfl (by rfl) (by kernel_rfl) (by kernel_rfl) (by kernel_rfl) (fun _ _ _ h=>h) (Or.inl ⟨by rfl,?_⟩) (hxm5) ?_
 rotate_left
 · intro wq hSq
   go_simp
   exact rfl
 try simp only [Act.put,qzA,qz0,qzS]
 refine takeH 8 11 (v:=?vm8_7) rfl (by rfl) (by kernel_rfl) (by kernel_rfl) (by kernel_rfl) (fun _ _ _ h=>h) (Or.inl ⟨by rfl,?_⟩) (hxm5) ?_
 rotate_left
 · intro wq hSq
   go_simp
   exact rfl
 try simp only [Act.put,qzA,qz0,qzS]
 refine wpAnyH_done (by kernel_rfl) ?_ _
 have x_c1:Box Wm5 (w.heap.size) (V):=hxm5
 have hB1:=hBm5
 have hs1:=hB1.size
 clear hxm5
 have ca:=(x_c1).c 0 _ v0
 have za:=(x_c1).lt
 go_wp2_with (refine wpList_load_rangew rfl _ _ rfl (Box.rangeMid x_c1 3 (lcell c) (acell c) D3.out) rfl Tryz.underlying33 rfl SA.out ?_)
 refine (CL _).mono ?_
 rintro e w2 ⟨rfl,hb⟩
 clear ca za
 have hB2:Below w.heap.size w w2:=below_thru hB1 hb
 have hs2:=hB2.size
 have x_c2:Box w2 (w.heap.size) (V):=Box.below x_c1 hb
 clear hB1 hs1 x_c1
 clear hb
 go_wp2_with fail
 go_returns
 exact ⟨rfl,hB2⟩
set_option maxRecDepth 100000 in
set_option maxHeartbeats 3200000 in
theorem isc_2 (c:Cmd) (d1:decide (16≤c.t)=false) (h2:c=c.only) (h0:c.op=2)  (w:World):Calls Tryz.prog 47 #[.agg (ccell c).toArray] w fun e w'=>e=.returned (.bool true)∧Below w.heap.size w w':=by
 have SV:=Lib.hid (size_cmd c)
 have SA:=Lib.hid (size_arr c)
 have D3:=Lib.hid (ccell_drop3 c)
 have ON:=fun W=>only_is c W
 have EQ:=fun W=>eqc_t h2 W
 obtain ⟨V,hV⟩:∃ V,ccell c=V:=⟨_,rfl⟩
 have v0:V[0]? = some (.int .u8 2):=by rw [← hV];rw [← h0];rfl
 have v1:V[1]? = some (.int .u32 c.t):=by rw [← hV];rfl
 have v12:V[12]? = some (.int .u8 c.us):=by rw [← hV];rfl
 have v13:V[13]? = some (.int .u8 c.en):=by rw [← hV];rfl
 obtain ⟨U,hU⟩:∃ V,ccell c.only=V:=⟨_,rfl⟩
 rw [hV,hU] at EQ
 rw [hV,hU] at ON
 rw [hV] at SV D3 ⊢
 clear hV hU h2
 go_enter Tryz.func47,Tryz.ntmps47
 go_upto_region 1 with fail
 refine F_gen (F:=fun W=>Code.wp _ _ _ _ W) (J:=fun W=>Box W (w.heap.size) (V)∧Below w.heap.size w W) (And.intro (Box.newc rfl rfl) (by go_grown)) ?_
 intro w0 ⟨e_c,hB0⟩
 have hs0:=hB0.size
 have x_c0:=e_c;clear e_c
 refine wp_region_held_drew (S:=fun W=>Box W (w.heap.size) (V)) (by kernel_rfl) (x_c0).drew (fun _=>?_)
 refine F_drew (F:=fun W=>wpAnyH _ _ _ _ _ _ _ _ W) ?_
 intro Wm0 hbm0
 have hxm0:=(Box.below x_c0 hbm0)
 have hBm0:=below_thru hB0 hbm0
 clear x_c0 hB0 hs0 hbm0
 refine takeH 0 3 (v:=?vm0_1) rfl (by rfl) (by kernel_rfl) (by kernel_rfl) (by kernel_rfl) (fun _ _ _ h=>h) (Or.inl ⟨by rfl,?_⟩) (hxm0) ?_
 rotate_left
 · intro wq hSq
   go_simp
   exact rfl
 try simp only [Act.put,qzA,qz0,qzS]
 refine takeH 1 4 (v:=?vm1_2) rfl (by rfl) (by kernel_rfl) (by kernel_rfl) (by kernel_rfl) (fun _ _ _ h=>h) (Or.inl ⟨by rfl,?_⟩) (hxm0) ?_
 rotate_left
 · intro wq hSq
   have cq:=(hSq).c 1 _ v1
   have zq:=lt_of_cell cq
   go_simp
   exact rfl
 try simp only [Act.put,qzA,qz0,qzS]
 refine takeH 2 5 (v:=?vm2_3) rfl (by rfl) (by kernel_rfl) (by kernel_rfl) (by kernel_rfl) (fun _ _ _ h=>h) (Or.inl ⟨by rfl,?_⟩) (hxm0) ?_
 rotate_left
 · intro wq hSq
   go_simp
   exact rfl
 try simp only [Act.put,qzA,qz0,qzS]
 refine takeH 3 6 (v:=?vm3_4) rfl (by rfl) (by kernel_rfl) (by kernel_rfl) (by kernel_rfl) (fun _ _ _ h=>h) (Or.inl ⟨by rfl,?_⟩) (hxm0) ?_
 rotate_left
 · intro wq hSq
   go_simp
   exact rfl
 try simp only [Act.put,qzA,qz0,qzS]
 refine takeH 4 7 (v:=.agg (V).toArray) rfl (by rfl) (by kernel_rfl) (by kernel_rfl) (by kernel_rfl) (fun _ _ _ h=>h) (yieldsIf_load_mid (by rfl) _ _ rfl _ _ rfl (V) _ (fun wq hq=>Box.range (hq)) Tryz.underlying35 rfl SV.out) (hxm0) ?_
 try simp only [Act.put,qzA,qz0,qzS]
 refine takeH 5 8 (v:=.agg (V).toArray) rfl (by rfl) (by kernel_rfl) (by kernel_rfl) (by kernel_rfl) (fun _ _ _ h=>h) (yieldsIf_load_mid (by rfl) _ _ rfl _ _ rfl (V) _ (fun wq hq=>Box.range (hq)) Tryz.underlying35 rfl SV.out) (hxm0) ?_
 try simp only [Act.put,qzA,qz0,qzS]
 refine wpAnyH_ready (rs:=[6]) (by kernel_rfl) (by simp) (AllReadyH.cons rfl (fun K hK=>?_) AllReadyH.nil)
 go_simp
 refine (ON _).mono ?_
 rintro e Wm5 ⟨rfl,hbm5⟩
 have hxm5:=(Box.below hxm0 hbm5)
 have hBm5:=below_thru hBm0 hbm5
 clear hxm0 hBm0
 clear hbm5
 refine hK.out _ _ hxm5 (fun _=>?_);clear hK
 refine takeH 7 10 (v:=?vm7_6) rfl (by rfl) (by kernel_rfl) (by kernel_rfl) (by kernel_rfl) (fun _ _ _ h=>h) (Or.inl ⟨by rfl,?_⟩) (hxm5) ?_
 rotate_left
 · intro wq hSq
   go_simp
   exact rfl
 try simp only [Act.put,qzA,qz0,qzS]
 refine takeH 8 11 (v:=?vm8_7) rfl (by rfl) (by kernel_rfl) (by kernel_rfl) (by kernel_rfl) (fun _ _ _ h=>h) (Or.inl ⟨by rfl,?_⟩) (hxm5) ?_
 rotate_left
 · intro wq hSq
   go_simp
   exact rfl
 try simp only [Act.put,qzA,qz0,qzS]
 refine wpAnyH_done (by kernel_rfl) ?_ _
 have x_c1:Box Wm5 (w.heap.size) (V):=hxm5
 have hB1:=hBm5
 have hs1:=hB1.size
 clear hxm5
 have ca:=(x_c1).c 0 _ v0
 have za:=(x_c1).lt
 go_wp2_with fail
 go_returns
 exact ⟨rfl,hB1⟩
set_option maxRecDepth 100000 in
set_option maxHeartbeats 3200000 in
theorem isc_4 (c:Cmd) (d1:decide (16≤c.t)=false) (h2:c=c.only) (h0:c.op=4)  (w:World):Calls Tryz.prog 47 #[.agg (ccell c).toArray] w fun e w'=>e=.returned (.bool true)∧Below w.heap.size w w':=by
 have SV:=Lib.hid (size_cmd c)
 have SA:=Lib.hid (size_arr c)
 have D3:=Lib.hid (ccell_drop3 c)
 have ON:=fun W=>only_is c W
 have EQ:=fun W=>eqc_t h2 W
 obtain ⟨V,hV⟩:∃ V,ccell c=V:=⟨_,rfl⟩
 have v0:V[0]? = some (.int .u8 4):=by rw [← hV];rw [← h0];rfl
 have v1:V[1]? = some (.int .u32 c.t):=by rw [← hV];rfl
 have v12:V[12]? = some (.int .u8 c.us):=by rw [← hV];rfl
 have v13:V[13]? = some (.int .u8 c.en):=by rw [← hV];rfl
 obtain ⟨U,hU⟩:∃ V,ccell c.only=V:=⟨_,rfl⟩
 rw [hV,hU] at EQ
 rw [hV,hU] at ON
 rw [hV] at SV D3 ⊢
 clear hV hU h2
 go_enter Tryz.func47,Tryz.ntmps47
 go_upto_region 1 with fail
 refine F_gen (F:=fun W=>Code.wp _ _ _ _ W) (J:=fun W=>Box W (w.heap.size) (V)∧Below w.heap.size w W) (And.intro (Box.newc rfl rfl) (by go_grown)) ?_
 intro w0 ⟨e_c,hB0⟩
 have hs0:=hB0.size
 have x_c0:=e_c;clear e_c
 refine wp_region_held_drew (S:=fun W=>Box W (w.heap.size) (V)) (by kernel_rfl) (x_c0).drew (fun _=>?_)
 refine F_drew (F:=fun W=>wpAnyH _ _ _ _ _ _ _ _ W) ?_
 intro Wm0 hbm0
 have hxm0:=(Box.below x_c0 hbm0)
 have hBm0:=below_thru hB0 hbm0
 clear x_c0 hB0 hs0 hbm0
 refine takeH 0 3 (v:=?vm0_1) rfl (by rfl) (by kernel_rfl) (by kernel_rfl) (by kernel_rfl) (fun _ _ _ h=>h) (Or.inl ⟨by rfl,?_⟩) (hxm0) ?_
 rotate_left
 · intro wq hSq
   go_simp
   exact rfl
 try simp only [Act.put,qzA,qz0,qzS]
 refine takeH 1 4 (v:=?vm1_2) rfl (by rfl) (by kernel_rfl) (by kernel_rfl) (by kernel_rfl) (fun _ _ _ h=>h) (Or.inl ⟨by rfl,?_⟩) (hxm0) ?_
 rotate_left
 · intro wq hSq
   have cq:=(hSq).c 1 _ v1
   have zq:=lt_of_cell cq
   go_simp
   exact rfl
 try simp only [Act.put,qzA,qz0,qzS]
 refine takeH 2 5 (v:=?vm2_3) rfl (by rfl) (by kernel_rfl) (by kernel_rfl) (by kernel_rfl) (fun _ _ _ h=>h) (Or.inl ⟨by rfl,?_⟩) (hxm0) ?_
 rotate_left
 · intro wq hSq
   go_simp
   exact rfl
 try simp only [Act.put,qzA,qz0,qzS]
 refine takeH 3 6 (v:=?vm3_4) rfl (by rfl) (by kernel_rfl) (by kernel_rfl) (by kernel_rfl) (fun _ _ _ h=>h) (Or.inl ⟨by rfl,?_⟩) (hxm0) ?_
 rotate_left
 · intro wq hSq
   go_simp
   exact rfl
 try simp only [Act.put,qzA,qz0,qzS]
 refine takeH 4 7 (v:=.agg (V).toArray) rfl (by rfl) (by kernel_rfl) (by kernel_rfl) (by kernel_rfl) (fun _ _ _ h=>h) (yieldsIf_load_mid (by rfl) _ _ rfl _ _ rfl (V) _ (fun wq hq=>Box.range (hq)) Tryz.underlying35 rfl SV.out) (hxm0) ?_
 try simp only [Act.put,qzA,qz0,qzS]
 refine takeH 5 8 (v:=.agg (V).toArray) rfl (by rfl) (by kernel_rfl) (by kernel_rfl) (by kernel_rfl) (fun _ _ _ h=>h) (yieldsIf_load_mid (by rfl) _ _ rfl _ _ rfl (V) _ (fun wq hq=>Box.range (hq)) Tryz.underlying35 rfl SV.out) (hxm0) ?_
 try simp only [Act.put,qzA,qz0,qzS]
 refine wpAnyH_ready (rs:=[6]) (by kernel_rfl) (by simp) (AllReadyH.cons rfl (fun K hK=>?_) AllReadyH.nil)
 go_simp
 refine (ON _).mono ?_
 rintro e Wm5 ⟨rfl,hbm5⟩
 have hxm5:=(Box.below hxm0 hbm5)
 have hBm5:=below_thru hBm0 hbm5
 clear hxm0 hBm0
 clear hbm5
 refine hK.out _ _ hxm5 (fun _=>?_);clear hK
 refine takeH 7 10 (v:=?vm7_6) rfl (by rfl) (by kernel_rfl) (by kernel_rfl) (by kernel_rfl) (fun _ _ _ h=>h) (Or.inl ⟨by rfl,?_⟩) (hxm5) ?_
 rotate_left
 · intro wq hSq
   go_simp
   exact rfl
 try simp only [Act.put,qzA,qz0,qzS]
 refine takeH 8 11 (v:=?vm8_7) rfl (by rfl) (by kernel_rfl) (by kernel_rfl) (by kernel_rfl) (fun _ _ _ h=>h) (Or.inl ⟨by rfl,?_⟩) (hxm5) ?_
 rotate_left
 · intro wq hSq
   go_simp
   exact rfl
 try simp only [Act.put,qzA,qz0,qzS]
 refine wpAnyH_done (by kernel_rfl) ?_ _
 have x_c1:Box Wm5 (w.heap.size) (V):=hxm5
 have hB1:=hBm5
 have hs1:=hB1.size
 clear hxm5
 have ca:=(x_c1).c 0 _ v0
 have za:=(x_c1).lt
 go_wp2_with fail
 go_returns
 exact ⟨rfl,hB1⟩
set_option maxRecDepth 100000 in
set_option maxHeartbeats 3200000 in
theorem isc_5 (c:Cmd) (d1:decide (16≤c.t)=false) (h2:c=c.only) (h0:c.op=5)  (w:World):Calls Tryz.prog 47 #[.agg (ccell c).toArray] w fun e w'=>e=.returned (.bool true)∧Below w.heap.size w w':=by
 have SV:=Lib.hid (size_cmd c)
 have SA:=Lib.hid (size_arr c)
 have D3:=Lib.hid (ccell_drop3 c)
 have ON:=fun W=>only_is c W
 have EQ:=fun W=>eqc_t h2 W
 obtain ⟨V,hV⟩:∃ V,ccell c=V:=⟨_,rfl⟩
 have v0:V[0]? = some (.int .u8 5):=by rw [← hV];rw [← h0];rfl
 have v1:V[1]? = some (.int .u32 c.t):=by rw [← hV];rfl
 have v12:V[12]? = some (.int .u8 c.us):=by rw [← hV];rfl
 have v13:V[13]? = some (.int .u8 c.en):=by rw [← hV];rfl
 obtain ⟨U,hU⟩:∃ V,ccell c.only=V:=⟨_,rfl⟩
 rw [hV,hU] at EQ
 rw [hV,hU] at ON
 rw [hV] at SV D3 ⊢
 clear hV hU h2
 go_enter Tryz.func47,Tryz.ntmps47
 go_upto_region 1 with fail
 refine F_gen (F:=fun W=>Code.wp _ _ _ _ W) (J:=fun W=>Box W (w.heap.size) (V)∧Below w.heap.size w W) (And.intro (Box.newc rfl rfl) (by go_grown)) ?_
 intro w0 ⟨e_c,hB0⟩
 have hs0:=hB0.size
 have x_c0:=e_c;clear e_c
 refine wp_region_held_drew (S:=fun W=>Box W (w.heap.size) (V)) (by kernel_rfl) (x_c0).drew (fun _=>?_)
 refine F_drew (F:=fun W=>wpAnyH _ _ _ _ _ _ _ _ W) ?_
 intro Wm0 hbm0
 have hxm0:=(Box.below x_c0 hbm0)
 have hBm0:=below_thru hB0 hbm0
 clear x_c0 hB0 hs0 hbm0
 refine takeH 0 3 (v:=?vm0_1) rfl (by rfl) (by kernel_rfl) (by kernel_rfl) (by kernel_rfl) (fun _ _ _ h=>h) (Or.inl ⟨by rfl,?_⟩) (hxm0) ?_
 rotate_left
 · intro wq hSq
   go_simp
   exact rfl
 try simp only [Act.put,qzA,qz0,qzS]
 refine takeH 1 4 (v:=?vm1_2) rfl (by rfl) (by kernel_rfl) (by kernel_rfl) (by kernel_rfl) (fun _ _ _ h=>h) (Or.inl ⟨by rfl,?_⟩) (hxm0) ?_
 rotate_left
 · intro wq hSq
   have cq:=(hSq).c 1 _ v1
   have zq:=lt_of_cell cq
   go_simp
   exact rfl
 try simp only [Act.put,qzA,qz0,qzS]
 refine takeH 2 5 (v:=?vm2_3) rfl (by rfl) (by kernel_rfl) (by kernel_rfl) (by kernel_rfl) (fun _ _ _ h=>h) (Or.inl ⟨by rfl,?_⟩) (hxm0) ?_
 rotate_left
 · intro wq hSq
   go_simp
   exact rfl
 try simp only [Act.put,qzA,qz0,qzS]
 refine takeH 3 6 (v:=?vm3_4) rfl (by rfl) (by kernel_rfl) (by kernel_rfl) (by kernel_rfl) (fun _ _ _ h=>h) (Or.inl ⟨by rfl,?_⟩) (hxm0) ?_
 rotate_left
 · intro wq hSq
   go_simp
   exact rfl
 try simp only [Act.put,qzA,qz0,qzS]
 refine takeH 4 7 (v:=.agg (V).toArray) rfl (by rfl) (by kernel_rfl) (by kernel_rfl) (by kernel_rfl) (fun _ _ _ h=>h) (yieldsIf_load_mid (by rfl) _ _ rfl _ _ rfl (V) _ (fun wq hq=>Box.range (hq)) Tryz.underlying35 rfl SV.out) (hxm0) ?_
 try simp only [Act.put,qzA,qz0,qzS]
 refine takeH 5 8 (v:=.agg (V).toArray) rfl (by rfl) (by kernel_rfl) (by kernel_rfl) (by kernel_rfl) (fun _ _ _ h=>h) (yieldsIf_load_mid (by rfl) _ _ rfl _ _ rfl (V) _ (fun wq hq=>Box.range (hq)) Tryz.underlying35 rfl SV.out) (hxm0) ?_
 try simp only [Act.put,qzA,qz0,qzS]
 refine wpAnyH_ready (rs:=[6]) (by kernel_rfl) (by simp) (AllReadyH.cons rfl (fun K hK=>?_) AllReadyH.nil)
 go_simp
 refine (ON _).mono ?_
 rintro e Wm5 ⟨rfl,hbm5⟩
 have hxm5:=(Box.below hxm0 hbm5)
 have hBm5:=below_thru hBm0 hbm5
 clear hxm0 hBm0
 clear hbm5
 refine hK.out _ _ hxm5 (fun _=>?_);clear hK
 refine takeH 7 10 (v:=?vm7_6) rfl (by rfl) (by kernel_rfl) (by kernel_rfl) (by kernel_rfl) (fun _ _ _ h=>h) (Or.inl ⟨by rfl,?_⟩) (hxm5) ?_
 rotate_left
 · intro wq hSq
   go_simp
   exact rfl
 try simp only [Act.put,qzA,qz0,qzS]
 refine takeH 8 11 (v:=?vm8_7) rfl (by rfl) (by kernel_rfl) (by kernel_rfl) (by kernel_rfl) (fun _ _ _ h=>h) (Or.inl ⟨by rfl,?_⟩) (hxm5) ?_
 rotate_left
 · intro wq hSq
   go_simp
   exact rfl
 try simp only [Act.put,qzA,qz0,qzS]
 refine wpAnyH_done (by kernel_rfl) ?_ _
 have x_c1:Box Wm5 (w.heap.size) (V):=hxm5
 have hB1:=hBm5
 have hs1:=hB1.size
 clear hxm5
 have ca:=(x_c1).c 0 _ v0
 have za:=(x_c1).lt
 go_wp2_with fail
 go_returns
 exact ⟨rfl,hB1⟩
set_option maxRecDepth 100000 in
set_option maxHeartbeats 3200000 in
theorem isc_n (c:Cmd) (d1:decide (16≤c.t)=false) (h2:c=c.only) (e1:(c.op == 1)=false) (e2:(c.op == 2)=false) (e3:(c.op == 3)=false) (e4:(c.op == 4)=false) (e5:(c.op == 5)=false) (w:World):Calls Tryz.prog 47 #[.agg (ccell c).toArray] w fun e w'=>e=.returned (.bool false)∧Below w.heap.size w w':=by
 have SV:=Lib.hid (size_cmd c)
 have SA:=Lib.hid (size_arr c)
 have D3:=Lib.hid (ccell_drop3 c)
 have ON:=fun W=>only_is c W
 have EQ:=fun W=>eqc_t h2 W
 obtain ⟨V,hV⟩:∃ V,ccell c=V:=⟨_,rfl⟩
 have v0:V[0]? = some (.int .u8 c.op):=by rw [← hV];rfl
 have v1:V[1]? = some (.int .u32 c.t):=by rw [← hV];rfl
 have v12:V[12]? = some (.int .u8 c.us):=by rw [← hV];rfl
 have v13:V[13]? = some (.int .u8 c.en):=by rw [← hV];rfl
 obtain ⟨U,hU⟩:∃ V,ccell c.only=V:=⟨_,rfl⟩
 rw [hV,hU] at EQ
 rw [hV,hU] at ON
 rw [hV] at SV D3 ⊢
 clear hV hU h2
 go_enter Tryz.func47,Tryz.ntmps47
 go_upto_region 1 with fail
 refine F_gen (F:=fun W=>Code.wp _ _ _ _ W) (J:=fun W=>Box W (w.heap.size) (V)∧Below w.heap.size w W) (And.intro (Box.newc rfl rfl) (by go_grown)) ?_
 intro w0 ⟨e_c,hB0⟩
 have hs0:=hB0.size
 have x_c0:=e_c;clear e_c
 refine wp_region_held_drew (S:=fun W=>Box W (w.heap.size) (V)) (by kernel_rfl) (x_c0).drew (fun _=>?_)
 refine F_drew (F:=fun W=>wpAnyH _ _ _ _ _ _ _ _ W) ?_
 intro Wm0 hbm0
 have hxm0:=(Box.below x_c0 hbm0)
 have hBm0:=below_thru hB0 hbm0
 clear x_c0 hB0 hs0 hbm0
 refine takeH 0 3 (v:=?vm0_1) rfl (by rfl) (by kernel_rfl) (by kernel_rfl) (by kernel_rfl) (fun _ _ _ h=>h) (Or.inl ⟨by rfl,?_⟩) (hxm0) ?_
 rotate_left
 · intro wq hSq
   go_simp
   exact rfl
 try simp only [Act.put,qzA,qz0,qzS]
 refine takeH 1 4 (v:=?vm1_2) rfl (by rfl) (by kernel_rfl) (by kernel_rfl) (by kernel_rfl) (fun _ _ _ h=>h) (Or.inl ⟨by rfl,?_⟩) (hxm0) ?_
 rotate_left
 · intro wq hSq
   have cq:=(hSq).c 1 _ v1
   have zq:=lt_of_cell cq
   go_simp
   exact rfl
 try simp only [Act.put,qzA,qz0,qzS]
 refine takeH 2 5 (v:=?vm2_3) rfl (by rfl) (by kernel_rfl) (by kernel_rfl) (by kernel_rfl) (fun _ _ _ h=>h) (Or.inl ⟨by rfl,?_⟩) (hxm0) ?_
 rotate_left
 · intro wq hSq
   go_simp
   exact rfl
 try simp only [Act.put,qzA,qz0,qzS]
 refine takeH 3 6 (v:=?vm3_4) rfl (by rfl) (by kernel_rfl) (by kernel_rfl) (by kernel_rfl) (fun _ _ _ h=>h) (Or.inl ⟨by rfl,?_⟩) (hxm0) ?_
 rotate_left
 · intro wq hSq
   go_simp
   exact rfl
 try simp only [Act.put,qzA,qz0,qzS]
 refine takeH 4 7 (v:=.agg (V).toArray) rfl (by rfl) (by kernel_rfl) (by kernel_rfl) (by kernel_rfl) (fun _ _ _ h=>h) (yieldsIf_load_mid (by rfl) _ _ rfl _ _ rfl (V) _ (fun wq hq=>Box.range (hq)) Tryz.underlying35 rfl SV.out) (hxm0) ?_
 try simp only [Act.put,qzA,qz0,qzS]
 refine takeH 5 8 (v:=.agg (V).toArray) rfl (by rfl) (by kernel_rfl) (by kernel_rfl) (by kernel_rfl) (fun _ _ _ h=>h) (yieldsIf_load_mid (by rfl) _ _ rfl _ _ rfl (V) _ (fun wq hq=>Box.range (hq)) Tryz.underlying35 rfl SV.out) (hxm0) ?_
 try simp only [Act.put,qzA,qz0,qzS]
 refine wpAnyH_ready (rs:=[6]) (by kernel_rfl) (by simp) (AllReadyH.cons rfl (fun K hK=>?_) AllReadyH.nil)
 go_simp
 refine (ON _).mono ?_
 rintro e Wm5 ⟨rfl,hbm5⟩
 have hxm5:=(Box.below hxm0 hbm5)
 have hBm5:=below_thru hBm0 hbm5
 clear hxm0 hBm0
 clear hbm5
 refine hK.out _ _ hxm5 (fun _=>?_);clear hK
 refine takeH 7 10 (v:=?vm7_6) rfl (by rfl) (by kernel_rfl) (by kernel_rfl) (by kernel_rfl) (fun _ _ _ h=>h) (Or.inl ⟨by rfl,?_⟩) (hxm5) ?_
 rotate_left
 · intro wq hSq
   go_simp
   exact rfl
 try simp only [Act.put,qzA,qz0,qzS]
 refine takeH 8 11 (v:=?vm8_7) rfl (by rfl) (by kernel_rfl) (by kernel_rfl) (by kernel_rfl) (fun _ _ _ h=>h) (Or.inl ⟨by rfl,?_⟩) (hxm5) ?_
 rotate_left
 · intro wq hSq
   go_simp
   exact rfl
 try simp only [Act.put,qzA,qz0,qzS]
 refine wpAnyH_done (by kernel_rfl) ?_ _
 have x_c1:Box Wm5 (w.heap.size) (V):=hxm5
 have hB1:=hBm5
 have hs1:=hB1.size
 clear hxm5
 have ca:=(x_c1).c 0 _ v0
 have za:=(x_c1).lt
 go_wp2_with fail
 go_returns
 exact ⟨rfl,hB1⟩
theorem isc_is (c:Cmd) {q:Bool} (hq:Hid (c.Ok↔q=true)) (w:World):Calls Tryz.prog 47 #[.agg (ccell c).toArray] w fun e w'=>e=.returned (.bool q)∧Below w.heap.size w w':=by
 have hf:¬ c.Ok→q=false:=fun h=>by
   cases q
   · rfl
   · exact absurd (hq.out.2 rfl) h
 have ht:c.Ok→q=true:=fun h=>hq.out.1 h
 by_cases h1:16≤c.t
 · rw [hf (fun h=>by have:=h.1;omega)]
   exact isc_a c (decide_eq_true h1) w
 have d1:decide (16≤c.t)=false:=decide_eq_false h1
 by_cases h2:c=c.only
 · have hi:=Cmd.ok_iff h2
   have hlt:c.t < 16:=by omega
   by_cases o1:c.op=1
   · by_cases hl:c.lims
     · by_cases hu:Cap c.us
       · refine isc_1tt c d1 h2 o1 (Lib.hid ⟨fun _=>rfl,fun _=>hl⟩) (Lib.hid ⟨fun _=>rfl,fun _=>hu⟩) (Lib.hid ⟨fun he=>ht (hi.2 ⟨hlt,Or.inl ⟨o1,hl,hu,he⟩⟩),fun h=>?_⟩) w
         rcases (hi.1 (hq.out.2 h)).2 with g | g | g | g | g <;> first | exact g.2.2.2 | omega
       · rw [hf (fun h=>by rcases (hi.1 h).2 with g | g | g | g | g <;> first | exact hu g.2.2.1 | omega)]
         exact isc_1tf c d1 h2 o1 (Lib.hid ⟨fun _=>rfl,fun _=>hl⟩) (Lib.hid ⟨fun h=>absurd h hu,fun h=>by cases h⟩) w
     · rw [hf (fun h=>by rcases (hi.1 h).2 with g | g | g | g | g <;> first | exact hl g.2.1 | omega)]
       exact isc_1f c d1 h2 o1 (Lib.hid ⟨fun h=>absurd h hl,fun h=>by cases h⟩) w
   by_cases o3:c.op=3
   · refine isc_3 c d1 h2 o3 (Lib.hid ⟨fun hl=>ht (hi.2 ⟨hlt,Or.inr (Or.inl ⟨o3,hl⟩)⟩),fun h=>?_⟩) w
     rcases (hi.1 (hq.out.2 h)).2 with g | g | g | g | g <;> first | exact g.2 | omega
   by_cases o2:c.op=2
   · rw [ht (hi.2 ⟨hlt,Or.inr (Or.inr (Or.inl o2))⟩)]
     exact isc_2 c d1 h2 o2 w
   by_cases o4:c.op=4
   · rw [ht (hi.2 ⟨hlt,Or.inr (Or.inr (Or.inr (Or.inl o4)))⟩)]
     exact isc_4 c d1 h2 o4 w
   by_cases o5:c.op=5
   · rw [ht (hi.2 ⟨hlt,Or.inr (Or.inr (Or.inr (Or.inr o5)))⟩)]
     exact isc_5 c d1 h2 o5 w
   rw [hf (fun h=>by rcases (hi.1 h).2 with g | g | g | g | g <;> omega)]
   exact isc_n c d1 h2 (by simpa using o1) (by simpa using o2) (by simpa using o3) (by simpa using o4) (by simpa using o5) w
 · rw [hf (fun h=>h2 (Cmd.only_of h))]
   exact isc_b c d1 h2 w
end Go.Proofs.YtnfejdfjlnpldaaGreatDoor
namespace Go.Proofs.YtnfejdfjlnpldaaGreatDoor
open Go.RowKit
set_option maxRecDepth 100000 in
theorem build_c0 (W:World):(Instr.build 35 #[]).run Tryz.prog W=.ok (.agg (ccell Cmd.zero).toArray) W:=by kernel_rfl
set_option maxRecDepth 100000 in
theorem build_r0 (W:World):(Instr.build 30 #[]).run Tryz.prog W=.ok (.agg (rcell Req.zero).toArray) W:=by kernel_rfl
set_option maxRecDepth 100000 in
theorem build_m0 (W:World):(Instr.build 37 #[]).run Tryz.prog W=.ok (.agg (mcell Frm.zero).toArray) W:=by kernel_rfl
theorem mcell_c (f:Frm):(mcell f).drop 39=ccell f.c ++ []:=by
 rw [List.append_nil]
 have h:(rcell f.r ++ ccell f.c).drop 38=ccell f.c:=by
   rw [← rcell_len f.r,List.drop_left]
 exact h
theorem mcell_r (f:Frm):(mcell f).drop 1=rcell f.r ++ ccell f.c:=rfl
theorem mcell_g (f:Frm):(mcell f).drop 54=f.c.g.map (Value.int .u8) ++ []:=by
 have h1:=mcell_c f
 have h2:=congrArg (List.drop 15) h1
 rw [List.drop_drop,List.append_nil] at h2
 rw [h2,ccell_drop15]
theorem mcell_t (f:Frm):(mcell f).drop 1=tcell f.r.k f.r.g ++ (.int .u16 f.r.ep :: .int .u32 f.r.co :: ccell f.c):=by
 rw [mcell_r]
 unfold rcell
 rw [List.append_assoc]
 rfl
theorem mcell_at {f:Frm} {cs rest:List Value} {k:Nat} (h:(mcell f).drop k=cs ++ rest) {i:Nat} {v:Value} (hi:cs[i]? = some v):(mcell f)[k + i]? = some v:=by
 have e:((mcell f).drop k)[i]? = some v:=by
   rw [h,List.getElem?_append_left (List.getElem?_eq_some_iff.1 hi).1]
   exact hi
 rwa [List.getElem?_drop] at e
theorem mcell_kt (f:Frm):(mcell f)[1]? = some (.int .u32 f.r.k.t):=rfl
theorem mcell_ct (f:Frm):(mcell f)[40]? = some (.int .u32 f.c.t):=mcell_at (k:=39) (mcell_c f) (i:=1) rfl
theorem mcell_ep (f:Frm):(mcell f)[37]? = some (.int .u16 f.r.ep):=by
 have h:=mcell_t f
 have e:((mcell f).drop 1)[36]? = some (.int .u16 f.r.ep):=by
   rw [h,List.getElem?_append_right (by rw [tcell_len f.r.k f.r.hg];decide),tcell_len f.r.k f.r.hg]
   rfl
 rwa [List.getElem?_drop] at e
theorem mcell_co (f:Frm):(mcell f)[38]? = some (.int .u32 f.r.co):=by
 have h:=mcell_t f
 have e:((mcell f).drop 1)[37]? = some (.int .u32 f.r.co):=by
   rw [h,List.getElem?_append_right (by rw [tcell_len f.r.k f.r.hg];decide),tcell_len f.r.k f.r.hg]
   rfl
 rwa [List.getElem?_drop] at e
set_option maxRecDepth 100000 in
set_option maxHeartbeats 3200000 in
theorem chk_1a (f:Frm) (h0:f.kd=1) (d1:decide (f.r.k.t < 16)=false) (w:World):Calls Tryz.prog 17 #[.agg (mcell f).toArray] w fun e w'=>e=.returned (.int .i64 8)∧Below w.heap.size w w':=by
 have SV:=Lib.hid (size_frm f)
 have SC:=Lib.hid (size_cmd f.c)
 have SR:=Lib.hid (size_req f.r)
 have DC:=Lib.hid (mcell_c f)
 have DR:=Lib.hid (mcell_r f)
 have BC:=fun W=>build_c0 W
 have BR:=fun W=>build_r0 W
 have v0:(mcell f)[0]? = some (.int .u8 1):=by rw [← h0];rfl
 have v1:=mcell_kt f
 obtain ⟨V,hV⟩:∃ V,mcell f=V:=⟨_,rfl⟩
 obtain ⟨C,hC⟩:∃ V,ccell f.c=V:=⟨_,rfl⟩
 obtain ⟨R,hR⟩:∃ V,rcell f.r=V:=⟨_,rfl⟩
 obtain ⟨Z,hZ⟩:∃ V,ccell Cmd.zero=V:=⟨_,rfl⟩
 obtain ⟨Y,hY⟩:∃ V,rcell Req.zero=V:=⟨_,rfl⟩
 rw [hV] at SV DC DR v0 v1 ⊢
 rw [hC] at SC DC DR
 rw [hR] at SR DR
 rw [hZ] at BC
 rw [hY] at BR
 clear hV hC hR hZ hY
 go_enter Tryz.func17,Tryz.ntmps17
 go_upto_region 1 with fail
 refine F_gen (F:=fun W=>Code.wp _ _ _ _ W) (J:=fun W=>Box W (w.heap.size) (V)∧Below w.heap.size w W) (And.intro (Box.newc rfl rfl) (by go_grown)) ?_
 intro w0 ⟨e_f,hB0⟩
 have hs0:=hB0.size
 have x_f0:=e_f;clear e_f
 have ca:=(x_f0).c 0 _ v0
 have za:=(x_f0).lt
 have cb:=(x_f0).c 1 _ v1
 have zb:=(x_f0).lt
 go_wp2_with (first
   | (refine wpList_load_rangew rfl _ _ rfl (Box.rangeMid x_f0 39 (C) ([]) DC.out) rfl Tryz.underlying35 rfl SC.out ?_)
   | (refine wpList_load_rangew rfl _ _ rfl (Box.rangeMid x_f0 1 (R) (C) DR.out) rfl Tryz.underlying30 rfl SR.out ?_)
   | (refine wpList_build9 rfl 35 _ rfl (us:=#[]) (by rfl) (BC _) ?_)
   | (refine wpList_build9 rfl 30 _ rfl (us:=#[]) (by rfl) (BR _) ?_))
 go_returns
 exact ⟨rfl,hB0⟩
set_option maxRecDepth 100000 in
set_option maxHeartbeats 3200000 in
theorem chk_1b (f:Frm) (h0:f.kd=1) (hc:f.c ≠ Cmd.zero) (d1:decide (f.r.k.t < 16)=true) (w:World):Calls Tryz.prog 17 #[.agg (mcell f).toArray] w fun e w'=>e=.returned (.int .i64 8)∧Below w.heap.size w w':=by
 have SV:=Lib.hid (size_frm f)
 have SC:=Lib.hid (size_cmd f.c)
 have SR:=Lib.hid (size_req f.r)
 have DC:=Lib.hid (mcell_c f)
 have DR:=Lib.hid (mcell_r f)
 have BC:=fun W=>build_c0 W
 have BR:=fun W=>build_r0 W
 have EC:=fun W=>eqc_f hc W
 have v0:(mcell f)[0]? = some (.int .u8 1):=by rw [← h0];rfl
 have v1:=mcell_kt f
 obtain ⟨V,hV⟩:∃ V,mcell f=V:=⟨_,rfl⟩
 obtain ⟨C,hC⟩:∃ V,ccell f.c=V:=⟨_,rfl⟩
 obtain ⟨R,hR⟩:∃ V,rcell f.r=V:=⟨_,rfl⟩
 obtain ⟨Z,hZ⟩:∃ V,ccell Cmd.zero=V:=⟨_,rfl⟩
 obtain ⟨Y,hY⟩:∃ V,rcell Req.zero=V:=⟨_,rfl⟩
 rw [hV] at SV DC DR v0 v1 ⊢
 rw [hC] at SC DC DR EC
 rw [hR] at SR DR
 rw [hZ] at BC EC
 rw [hY] at BR
 clear hV hC hR hZ hY hc
 go_enter Tryz.func17,Tryz.ntmps17
 go_upto_region 1 with fail
 refine F_gen (F:=fun W=>Code.wp _ _ _ _ W) (J:=fun W=>Box W (w.heap.size) (V)∧Below w.heap.size w W) (And.intro (Box.newc rfl rfl) (by go_grown)) ?_
 intro w0 ⟨e_f,hB0⟩
 have hs0:=hB0.size
 have x_f0:=e_f;clear e_f
 have ca:=(x_f0).c 0 _ v0
 have za:=(x_f0).lt
 have cb:=(x_f0).c 1 _ v1
 have zb:=(x_f0).lt
 go_wp2_with (first
   | (refine wpList_load_rangew rfl _ _ rfl (Box.rangeMid x_f0 39 (C) ([]) DC.out) rfl Tryz.underlying35 rfl SC.out ?_)
   | (refine wpList_load_rangew rfl _ _ rfl (Box.rangeMid x_f0 1 (R) (C) DR.out) rfl Tryz.underlying30 rfl SR.out ?_)
   | (refine wpList_build9 rfl 35 _ rfl (us:=#[]) (by rfl) (BC _) ?_)
   | (refine wpList_build9 rfl 30 _ rfl (us:=#[]) (by rfl) (BR _) ?_))
 go_returns
 exact ⟨rfl,hB0⟩
set_option maxRecDepth 100000 in
set_option maxHeartbeats 3200000 in
theorem chk_1c (f:Frm) (h0:f.kd=1) (d1:decide (f.r.k.t < 16)=true) (hc:f.c=Cmd.zero) (w:World):Calls Tryz.prog 17 #[.agg (mcell f).toArray] w fun e w'=>e=.returned (.int .i64 0)∧Below w.heap.size w w':=by
 have SV:=Lib.hid (size_frm f)
 have SC:=Lib.hid (size_cmd f.c)
 have SR:=Lib.hid (size_req f.r)
 have DC:=Lib.hid (mcell_c f)
 have DR:=Lib.hid (mcell_r f)
 have BC:=fun W=>build_c0 W
 have BR:=fun W=>build_r0 W
 have EC:=fun W=>eqc_t hc W
 have v0:(mcell f)[0]? = some (.int .u8 1):=by rw [← h0];rfl
 have v1:=mcell_kt f
 obtain ⟨V,hV⟩:∃ V,mcell f=V:=⟨_,rfl⟩
 obtain ⟨C,hC⟩:∃ V,ccell f.c=V:=⟨_,rfl⟩
 obtain ⟨R,hR⟩:∃ V,rcell f.r=V:=⟨_,rfl⟩
 obtain ⟨Z,hZ⟩:∃ V,ccell Cmd.zero=V:=⟨_,rfl⟩
 obtain ⟨Y,hY⟩:∃ V,rcell Req.zero=V:=⟨_,rfl⟩
 rw [hV] at SV DC DR v0 v1 ⊢
 rw [hC] at SC DC DR EC
 rw [hR] at SR DR
 rw [hZ] at BC EC
 rw [hY] at BR
 clear hV hC hR hZ hY hc
 go_enter Tryz.func17,Tryz.ntmps17
 go_upto_region 1 with fail
 refine F_gen (F:=fun W=>Code.wp _ _ _ _ W) (J:=fun W=>Box W (w.heap.size) (V)∧Below w.heap.size w W) (And.intro (Box.newc rfl rfl) (by go_grown)) ?_
 intro w0 ⟨e_f,hB0⟩
 have hs0:=hB0.size
 have x_f0:=e_f;clear e_f
 have ca:=(x_f0).c 0 _ v0
 have za:=(x_f0).lt
 have cb:=(x_f0).c 1 _ v1
 have zb:=(x_f0).lt
 go_wp2_with (first
   | (refine wpList_load_rangew rfl _ _ rfl (Box.rangeMid x_f0 39 (C) ([]) DC.out) rfl Tryz.underlying35 rfl SC.out ?_)
   | (refine wpList_load_rangew rfl _ _ rfl (Box.rangeMid x_f0 1 (R) (C) DR.out) rfl Tryz.underlying30 rfl SR.out ?_)
   | (refine wpList_build9 rfl 35 _ rfl (us:=#[]) (by rfl) (BC _) ?_)
   | (refine wpList_build9 rfl 30 _ rfl (us:=#[]) (by rfl) (BR _) ?_))
 go_returns
 exact ⟨rfl,hB0⟩
set_option maxRecDepth 100000 in
set_option maxHeartbeats 3200000 in
theorem chk_2a (f:Frm) (h0:f.kd=2) (hr:f.r ≠ Req.zero) (w:World):Calls Tryz.prog 17 #[.agg (mcell f).toArray] w fun e w'=>e=.returned (.int .i64 8)∧Below w.heap.size w w':=by
 have SV:=Lib.hid (size_frm f)
 have SC:=Lib.hid (size_cmd f.c)
 have SR:=Lib.hid (size_req f.r)
 have DC:=Lib.hid (mcell_c f)
 have DR:=Lib.hid (mcell_r f)
 have BC:=fun W=>build_c0 W
 have BR:=fun W=>build_r0 W
 have ER:=fun W=>eqr_f hr W
 have v0:(mcell f)[0]? = some (.int .u8 2):=by rw [← h0];rfl
 have v1:=mcell_kt f
 obtain ⟨V,hV⟩:∃ V,mcell f=V:=⟨_,rfl⟩
 obtain ⟨C,hC⟩:∃ V,ccell f.c=V:=⟨_,rfl⟩
 obtain ⟨R,hR⟩:∃ V,rcell f.r=V:=⟨_,rfl⟩
 obtain ⟨Z,hZ⟩:∃ V,ccell Cmd.zero=V:=⟨_,rfl⟩
 obtain ⟨Y,hY⟩:∃ V,rcell Req.zero=V:=⟨_,rfl⟩
 rw [hV] at SV DC DR v0 v1 ⊢
 rw [hC] at SC DC DR
 rw [hR] at SR DR ER
 rw [hZ] at BC
 rw [hY] at BR ER
 clear hV hC hR hZ hY hr
 go_enter Tryz.func17,Tryz.ntmps17
 go_upto_region 1 with fail
 refine F_gen (F:=fun W=>Code.wp _ _ _ _ W) (J:=fun W=>Box W (w.heap.size) (V)∧Below w.heap.size w W) (And.intro (Box.newc rfl rfl) (by go_grown)) ?_
 intro w0 ⟨e_f,hB0⟩
 have hs0:=hB0.size
 have x_f0:=e_f;clear e_f
 have ca:=(x_f0).c 0 _ v0
 have za:=(x_f0).lt
 have cb:=(x_f0).c 1 _ v1
 have zb:=(x_f0).lt
 go_wp2_with (first
   | (refine wpList_load_rangew rfl _ _ rfl (Box.rangeMid x_f0 39 (C) ([]) DC.out) rfl Tryz.underlying35 rfl SC.out ?_)
   | (refine wpList_load_rangew rfl _ _ rfl (Box.rangeMid x_f0 1 (R) (C) DR.out) rfl Tryz.underlying30 rfl SR.out ?_)
   | (refine wpList_build9 rfl 35 _ rfl (us:=#[]) (by rfl) (BC _) ?_)
   | (refine wpList_build9 rfl 30 _ rfl (us:=#[]) (by rfl) (BR _) ?_))
 go_returns
 exact ⟨rfl,hB0⟩
set_option maxRecDepth 100000 in
set_option maxHeartbeats 3200000 in
theorem chk_2b (f:Frm) (h0:f.kd=2) (hr:f.r=Req.zero) (hq:Hid (f.c.Ok↔false=true)) (w:World):Calls Tryz.prog 17 #[.agg (mcell f).toArray] w fun e w'=>e=.returned (.int .i64 8)∧Below w.heap.size w w':=by
 have SV:=Lib.hid (size_frm f)
 have SC:=Lib.hid (size_cmd f.c)
 have SR:=Lib.hid (size_req f.r)
 have DC:=Lib.hid (mcell_c f)
 have DR:=Lib.hid (mcell_r f)
 have BC:=fun W=>build_c0 W
 have BR:=fun W=>build_r0 W
 have ER:=fun W=>eqr_t hr W
 have IC:=fun W=>isc_is f.c hq W
 have v0:(mcell f)[0]? = some (.int .u8 2):=by rw [← h0];rfl
 have v1:=mcell_kt f
 obtain ⟨V,hV⟩:∃ V,mcell f=V:=⟨_,rfl⟩
 obtain ⟨C,hC⟩:∃ V,ccell f.c=V:=⟨_,rfl⟩
 obtain ⟨R,hR⟩:∃ V,rcell f.r=V:=⟨_,rfl⟩
 obtain ⟨Z,hZ⟩:∃ V,ccell Cmd.zero=V:=⟨_,rfl⟩
 obtain ⟨Y,hY⟩:∃ V,rcell Req.zero=V:=⟨_,rfl⟩
 rw [hV] at SV DC DR v0 v1 ⊢
 rw [hC] at SC DC DR IC
 rw [hR] at SR DR ER
 rw [hZ] at BC
 rw [hY] at BR ER
 clear hV hC hR hZ hY hr hq
 go_enter Tryz.func17,Tryz.ntmps17
 go_upto_region 1 with fail
 refine F_gen (F:=fun W=>Code.wp _ _ _ _ W) (J:=fun W=>Box W (w.heap.size) (V)∧Below w.heap.size w W) (And.intro (Box.newc rfl rfl) (by go_grown)) ?_
 intro w0 ⟨e_f,hB0⟩
 have hs0:=hB0.size
 have x_f0:=e_f;clear e_f
 have ca:=(x_f0).c 0 _ v0
 have za:=(x_f0).lt
 have cb:=(x_f0).c 1 _ v1
 have zb:=(x_f0).lt
 go_wp2_with (first
   | (refine wpList_load_rangew rfl _ _ rfl (Box.rangeMid x_f0 39 (C) ([]) DC.out) rfl Tryz.underlying35 rfl SC.out ?_)
   | (refine wpList_load_rangew rfl _ _ rfl (Box.rangeMid x_f0 1 (R) (C) DR.out) rfl Tryz.underlying30 rfl SR.out ?_)
   | (refine wpList_build9 rfl 35 _ rfl (us:=#[]) (by rfl) (BC _) ?_)
   | (refine wpList_build9 rfl 30 _ rfl (us:=#[]) (by rfl) (BR _) ?_))
 refine (IC _).mono ?_
 rintro e w1 ⟨rfl,hb⟩
 clear ca za cb zb
 have hB1:Below w.heap.size w w1:=below_thru hB0 hb
 have hs1:=hB1.size
 have x_f1:Box w1 (w.heap.size) (V):=Box.below x_f0 hb
 clear hB0 hs0 x_f0
 clear hb
 go_wp2_with fail
 go_returns
 exact ⟨rfl,hB1⟩
set_option maxRecDepth 100000 in
set_option maxHeartbeats 3200000 in
theorem chk_2c (f:Frm) (h0:f.kd=2) (hr:f.r=Req.zero) (hq:Hid (f.c.Ok↔true=true)) (w:World):Calls Tryz.prog 17 #[.agg (mcell f).toArray] w fun e w'=>e=.returned (.int .i64 0)∧Below w.heap.size w w':=by
 have SV:=Lib.hid (size_frm f)
 have SC:=Lib.hid (size_cmd f.c)
 have SR:=Lib.hid (size_req f.r)
 have DC:=Lib.hid (mcell_c f)
 have DR:=Lib.hid (mcell_r f)
 have BC:=fun W=>build_c0 W
 have BR:=fun W=>build_r0 W
 have ER:=fun W=>eqr_t hr W
 have IC:=fun W=>isc_is f.c hq W
 have v0:(mcell f)[0]? = some (.int .u8 2):=by rw [← h0];rfl
 have v1:=mcell_kt f
 obtain ⟨V,hV⟩:∃ V,mcell f=V:=⟨_,rfl⟩
 obtain ⟨C,hC⟩:∃ V,ccell f.c=V:=⟨_,rfl⟩
 obtain ⟨R,hR⟩:∃ V,rcell f.r=V:=⟨_,rfl⟩
 obtain ⟨Z,hZ⟩:∃ V,ccell Cmd.zero=V:=⟨_,rfl⟩
 obtain ⟨Y,hY⟩:∃ V,rcell Req.zero=V:=⟨_,rfl⟩
 rw [hV] at SV DC DR v0 v1 ⊢
 rw [hC] at SC DC DR IC
 rw [hR] at SR DR ER
 rw [hZ] at BC
 rw [hY] at BR ER
 clear hV hC hR hZ hY hr hq
 go_enter Tryz.func17,Tryz.ntmps17
 go_upto_region 1 with fail
 refine F_gen (F:=fun W=>Code.wp _ _ _ _ W) (J:=fun W=>Box W (w.heap.size) (V)∧Below w.heap.size w W) (And.intro (Box.newc rfl rfl) (by go_grown)) ?_
 intro w0 ⟨e_f,hB0⟩
 have hs0:=hB0.size
 have x_f0:=e_f;clear e_f
 have ca:=(x_f0).c 0 _ v0
 have za:=(x_f0).lt
 have cb:=(x_f0).c 1 _ v1
 have zb:=(x_f0).lt
 go_wp2_with (first
   | (refine wpList_load_rangew rfl _ _ rfl (Box.rangeMid x_f0 39 (C) ([]) DC.out) rfl Tryz.underlying35 rfl SC.out ?_)
   | (refine wpList_load_rangew rfl _ _ rfl (Box.rangeMid x_f0 1 (R) (C) DR.out) rfl Tryz.underlying30 rfl SR.out ?_)
   | (refine wpList_build9 rfl 35 _ rfl (us:=#[]) (by rfl) (BC _) ?_)
   | (refine wpList_build9 rfl 30 _ rfl (us:=#[]) (by rfl) (BR _) ?_))
 refine (IC _).mono ?_
 rintro e w1 ⟨rfl,hb⟩
 clear ca za cb zb
 have hB1:Below w.heap.size w w1:=below_thru hB0 hb
 have hs1:=hB1.size
 have x_f1:Box w1 (w.heap.size) (V):=Box.below x_f0 hb
 clear hB0 hs0 x_f0
 clear hb
 go_wp2_with fail
 go_returns
 exact ⟨rfl,hB1⟩
set_option maxRecDepth 100000 in
set_option maxHeartbeats 3200000 in
theorem chk_n (f:Frm) (e1:(f.kd == 1)=false) (e2:(f.kd == 2)=false) (w:World):Calls Tryz.prog 17 #[.agg (mcell f).toArray] w fun e w'=>e=.returned (.int .i64 8)∧Below w.heap.size w w':=by
 have SV:=Lib.hid (size_frm f)
 have SC:=Lib.hid (size_cmd f.c)
 have SR:=Lib.hid (size_req f.r)
 have DC:=Lib.hid (mcell_c f)
 have DR:=Lib.hid (mcell_r f)
 have BC:=fun W=>build_c0 W
 have BR:=fun W=>build_r0 W
 have v0:(mcell f)[0]? = some (.int .u8 f.kd):=by rfl
 have v1:=mcell_kt f
 obtain ⟨V,hV⟩:∃ V,mcell f=V:=⟨_,rfl⟩
 obtain ⟨C,hC⟩:∃ V,ccell f.c=V:=⟨_,rfl⟩
 obtain ⟨R,hR⟩:∃ V,rcell f.r=V:=⟨_,rfl⟩
 obtain ⟨Z,hZ⟩:∃ V,ccell Cmd.zero=V:=⟨_,rfl⟩
 obtain ⟨Y,hY⟩:∃ V,rcell Req.zero=V:=⟨_,rfl⟩
 rw [hV] at SV DC DR v0 v1 ⊢
 rw [hC] at SC DC DR
 rw [hR] at SR DR
 rw [hZ] at BC
 rw [hY] at BR
 clear hV hC hR hZ hY
 go_enter Tryz.func17,Tryz.ntmps17
 go_upto_region 1 with fail
 refine F_gen (F:=fun W=>Code.wp _ _ _ _ W) (J:=fun W=>Box W (w.heap.size) (V)∧Below w.heap.size w W) (And.intro (Box.newc rfl rfl) (by go_grown)) ?_
 intro w0 ⟨e_f,hB0⟩
 have hs0:=hB0.size
 have x_f0:=e_f;clear e_f
 have ca:=(x_f0).c 0 _ v0
 have za:=(x_f0).lt
 have cb:=(x_f0).c 1 _ v1
 have zb:=(x_f0).lt
 go_wp2_with (first
   | (refine wpList_load_rangew rfl _ _ rfl (Box.rangeMid x_f0 39 (C) ([]) DC.out) rfl Tryz.underlying35 rfl SC.out ?_)
   | (refine wpList_load_rangew rfl _ _ rfl (Box.rangeMid x_f0 1 (R) (C) DR.out) rfl Tryz.underlying30 rfl SR.out ?_)
   | (refine wpList_build9 rfl 35 _ rfl (us:=#[]) (by rfl) (BC _) ?_)
   | (refine wpList_build9 rfl 30 _ rfl (us:=#[]) (by rfl) (BR _) ?_))
 go_returns
 exact ⟨rfl,hB0⟩
theorem chk_is (f:Frm) {q:Int} (hq:Hid ((q=0∧f.Ok)∨(q=8∧¬ f.Ok))) (w:World):Calls Tryz.prog 17 #[.agg (mcell f).toArray] w fun e w'=>e=.returned (.int .i64 q)∧Below w.heap.size w w':=by
 have ht:f.Ok→q=0:=fun h=>by rcases hq.out with g | g;exact g.1;exact absurd h g.2
 have hf:¬ f.Ok→q=8:=fun h=>by rcases hq.out with g | g;exact absurd g.2 h;exact g.1
 by_cases h0:f.kd=1
 · by_cases h1:f.r.k.t < 16
   · by_cases hc:f.c=Cmd.zero
     · rw [ht (Or.inl ⟨h0,h1,hc⟩)]
       exact chk_1c f h0 (decide_eq_true h1) hc w
     · rw [hf (fun h=>by rcases h with g | g;exact hc g.2.2;omega)]
       exact chk_1b f h0 hc (decide_eq_true h1) w
   · rw [hf (fun h=>by rcases h with g | g;exact h1 g.2.1;omega)]
     exact chk_1a f h0 (decide_eq_false h1) w
 by_cases h2:f.kd=2
 · by_cases hr:f.r=Req.zero
   · by_cases hc:f.c.Ok
     · rw [ht (Or.inr ⟨h2,hr,hc⟩)]
       exact chk_2c f h2 hr (Lib.hid ⟨fun _=>rfl,fun _=>hc⟩) w
     · rw [hf (fun h=>by rcases h with g | g;omega;exact hc g.2.2)]
       exact chk_2b f h2 hr (Lib.hid ⟨fun h=>absurd h hc,fun h=>by cases h⟩) w
   · rw [hf (fun h=>by rcases h with g | g;omega;exact hr g.2.1)]
     exact chk_2a f h2 hr w
 rw [hf (fun h=>by rcases h with g | g;exact h0 g.1;exact h2 g.1)]
 exact chk_n f (by simpa using h0) (by simpa using h2) w
end Go.Proofs.YtnfejdfjlnpldaaGreatDoor
