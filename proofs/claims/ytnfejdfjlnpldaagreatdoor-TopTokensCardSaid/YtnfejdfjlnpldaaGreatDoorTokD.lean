import Derived.Test.YtnfejdfjlnpldaaGreatDoorGT2
set_option maxHeartbeats 3200000
set_option maxRecDepth 100000
namespace Go.Proofs.YtnfejdfjlnpldaaGreatDoor
open Go.RowKit
set_option maxRecDepth 100000 in
set_option maxHeartbeats 3200000 in
theorem twrite_is (k:Nums) {g:List Int} (hg:g.length=32) (w:World):Calls Tryz.prog 52 #[.agg (tcell k g).toArray] w (GivesOwn (k.msg ++ g) w):=by
 have B:=fun W=>bytes_is k (g:=g) W
 have hm:=k.msg_len
 obtain ⟨M,hM⟩:∃ M,k.msg=M:=⟨_,rfl⟩
 rw [hM] at B hm ⊢
 have HM:=Lib.hid hm
 have IM:=Lib.hid (size_msg hm)
 have LM:=Lib.hid (len_msg hm)
 have HG:=Lib.hid hg
 have HSZ:=Lib.hid (size_tok k hg)
 have HT:=Lib.hid (tcell_drop k g)
 obtain ⟨V,hV⟩:∃ V,tcell k g=V:=⟨_,rfl⟩
 rw [hV] at B HSZ HT ⊢
 clear hV hM hm hg
 have hx:Box (w.alloc (.cells V.toArray 27)) w.heap.size V:=Box.newc rfl rfl
 have hB:Below w.heap.size w (w.alloc (.cells V.toArray 27)):=by go_grown
 go_enter Tryz.func52,Tryz.ntmps52
 go_wp2_with (refine wpList_load_box rfl _ _ rfl hx rfl Tryz.underlying27 rfl HSZ.out ?_)
 refine (B _).mono ?_
 rintro e w1 ⟨rfl,hb1⟩
 have hx1:=hx.below hb1
 have hB1:=below_thru hB hb1
 have hs1:=hB1.size
 have hz1:=hx1.lt
 clear hx hB hb1
 go_upto_region 2 with (refine wpList_store_box (cs:=M.map (Value.int .u8)) rfl _ _ _ rfl (Box.newc (l:=zero20) rfl rfl) rfl rfl IM.out LM.out (oneCell_ints _) ?_;intro w2 hW2)
 have hB2:Below w.heap.size w w2:=hW2.below _ _ hs1 (hB1.alloc hs1 _)
 have hx2:Box w2 w.heap.size V:=hW2.past _ _ (by omega) (hx1.alloc _)
 have hm2:=hW2.box
 clear hx1 hB1 hW2
 obtain ⟨bm,hbm⟩:∃ b,w1.heap.size=b:=⟨_,rfl⟩
 rw [hbm] at hm2 ⊢
 clear hbm
 refine wp_region_held_drew (S:=fun _=>True) (by kernel_rfl) trivial (fun _=>?_)
 refine F_drew (F:=fun W=>wpAnyH _ _ _ _ _ _ _ _ W) ?_
 intro W0 hb0
 have hx0:=hx2.below hb0;have hm0:=hm2.below hb0;have hB0:=below_thru hB2 hb0
 clear hx2 hm2 hB2 hb0
 refine takeH 0 6 (v:=?vt0_1) rfl (by rfl) (by kernel_rfl) (by kernel_rfl) (by kernel_rfl) (fun _ _ _ h=>h) (Or.inl ⟨by rfl,?_⟩) (trivial) ?_
 rotate_left
 · intro wq hSq
   go_simp
   exact rfl
 try simp only [Act.put,qzA,qz0,qzS]
 refine takeH 1 7 (v:=?vt1_2) rfl (by rfl) (by kernel_rfl) (by kernel_rfl) (by kernel_rfl) (fun _ _ _ h=>h) (Or.inl ⟨by rfl,?_⟩) (trivial) ?_
 rotate_left
 · intro wq hSq
   go_simp
   exact rfl
 try simp only [Act.put,qzA,qz0,qzS]
 refine takeH 2 8 (v:=?vt2_3) rfl (by rfl) (by kernel_rfl) (by kernel_rfl) (by kernel_rfl) (fun _ _ _ h=>h) (Or.inl ⟨by rfl,?_⟩) (trivial) ?_
 rotate_left
 · intro wq hSq
   go_simp
   exact rfl
 try simp only [Act.put,qzA,qz0,qzS]
 refine wpAnyH_ready (rs:=[3]) (by kernel_rfl) (by simp) (AllReadyH.cons rfl (fun K hK=>?_) AllReadyH.nil)
 go_simp
 refine hK.out _ _ trivial (fun _=>?_);clear hK K
 refine F_both (F:=fun W=>wpAnyH _ _ _ _ _ _ _ _ W) (J:=fun W=>Box W W0.heap.size [.slice (some ⟨bm,0,none⟩) 20 20,.slice (some ⟨w.heap.size,4,none⟩) 32 32]) (J2:=fun W=>Below W0.heap.size W0 W) (Box.newc rfl rfl) ((Below.refl _ _).alloc (Nat.le_refl _) _) ?_
 intro W4 hv4 hb4
 have hx4:=hx0.below hb4;have hm4:=hm0.below hb4;have hB4:=below_thru hB0 hb4
 refine wpAnyH_ready (rs:=[4]) (by kernel_rfl) (by simp) (AllReadyH.cons rfl (fun K hK=>?_) AllReadyH.nil)
 go_simp
 have L1:=IsL.boxed 20 HM.out hm4 (by omega)
 have L2:=IsL.range 32 32 HG.out (Box.rangeFrom hx4 4 (g.map (Value.int .u8)) HT.out) (by omega) (by omega)
 have C:=concat_is (n:=2) (xss:=[M,g]) W4 hv4 (fun i v xs h1 h2=>by match i,h1,h2 with | 0,h1,h2=>(cases h1;cases h2;exact L1) | 1,h1,h2=>(cases h1;cases h2;exact L2)) rfl rfl (by decide) (by simp [HM.out,HG.out])
 rw [show [M,g].flatten=M ++ g by simp] at C
 refine C.mono ?_
 rintro e W5 ⟨vr,rfl,hor,hb5⟩
 have hB5:=below_thru hB4 hb5
 have hor:=ownR_base hor (hB4.size)
 refine hK.out _ _ trivial (fun _=>?_);clear hK K
 refine takeH 5 2 (v:=?vt5_6) rfl (by rfl) (by kernel_rfl) (by kernel_rfl) (by kernel_rfl) (fun _ _ _ h=>h) (Or.inl ⟨by rfl,?_⟩) (trivial) ?_
 rotate_left
 · intro wq hSq
   go_simp
   exact rfl
 try simp only [Act.put,qzA,qz0,qzS]
 refine wpAnyH_done (by kernel_rfl) ?_ _
 go_wp2_with fail
 go_returns
 exact ⟨_,rfl,hor,hB5⟩
end Go.Proofs.YtnfejdfjlnpldaaGreatDoor
