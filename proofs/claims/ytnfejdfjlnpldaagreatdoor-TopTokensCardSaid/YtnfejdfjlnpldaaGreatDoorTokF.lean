import Derived.Test.YtnfejdfjlnpldaaGreatDoorGT1
import Derived.Test.YtnfejdfjlnpldaaGreatDoorGB1
import Derived.Test.YtnfejdfjlnpldaaGreatDoorGM1
set_option maxHeartbeats 3200000
set_option maxRecDepth 100000
namespace Go.Proofs.YtnfejdfjlnpldaaGreatDoor
open Go.RowKit
theorem Byts.l {xs:List Int} (h:Byts xs):bytesL xs:=bytesL.of_all fun x hx=>by have:=h x hx;omega
theorem bytesL.b {xs:List Int} (h:bytesL xs):Byts xs:=fun x hx=>by
 obtain ⟨i,hi,rfl⟩:=List.mem_iff_getElem.1 hx
 have:=h i hi
 unfold nth at this
 rw [List.getD_eq_getElem?_getD,List.getElem?_eq_getElem hi,Option.getD_some] at this
 omega
theorem tagL_byts (K b:List Int):Byts (tagL K b):=bytesL.b (shaOf_bytes _)
def zeroTk:List Value:=tcell Nums.zero zeroD
theorem zd32:zeroD.length=32:=by decide
def verN (K:List Int) (k:Nums) (g:List Int):Int:=if tagL K k.msg=g then 0 else 22
section
variable {P:Program} {ops:Array Oper} {o:Oper} {a:Act} {w:World} {Q:Exit→Act→World→Prop} {rest:List Oper}
theorem wpList_build4 (hgd:o.guard=none) (t:TypeId) (xs:Array (Nat × Operand)) (ho:o.op=.build t xs) {v:Value} {us:Array (Nat × Value)} (hx:(xs.toList.map fun p=>(p.1,a.eval p.2))=us.toList) (hr:(Instr.build t us).run P w=.ok v w)
   (h:wpList P ops Q rest (a.put o.dst v) w):wpList P ops Q (o :: rest) a w:=by
 have hx':(xs.map fun (i,x)=>(i,a.eval x))=us:=by
   apply Array.ext'
   rw [Array.toList_map,← hx]
 subst hx'
 refine wpList_plain hgd fun _ hK=>?_
 unfold Oper.wp execOp
 simp only [ho,Sem.run_bind,hr,Result.andThen_ok,Sem.run_pure]
 exact hK _ _ h
end
theorem build_tok0' (t u e x:Int) (W:World):(Instr.build 27 #[(0,.int .u32 t),(1,.int .u32 u),(2,.int .u32 e),(3,.int .u64 x)]).run Tryz.prog W=.ok (.agg (.int .u32 t :: .int .u32 u :: .int .u32 e :: .int .u64 x :: zeroD.map (Value.int .u8)).toArray) W:=by kernel_rfl
set_option maxRecDepth 100000 in
set_option maxHeartbeats 3200000 in
theorem tagfor_is (k:Nums) {g K D:List Int} (hg:g.length=32) (hK:K.length=32) (hKb:Byts K) (hD:Hid (tagL K k.msg=D)) (w:World) (hL:Hid (LaidS w)):Calls Tryz.prog 68 #[.agg (K.map (Value.int .u8)).toArray,.agg (tcell k g).toArray] w fun e w'=>e=.returned (.agg (D.map (Value.int .u8)).toArray)∧Below w.heap.size w w':=by
 have B:=fun W=>bytes_is k (g:=g) W
 have hm:=k.msg_len
 have HMB:=Lib.hid k.msg_byts.l
 have hDl:D.length=32:=by rw [← hD.out];exact tagL_len _ _
 obtain ⟨M,hM⟩:∃ M,k.msg=M:=⟨_,rfl⟩
 rw [hM] at B hm HMB hD
 have HM:=Lib.hid hm
 have IM:=Lib.hid (size_msg hm)
 have LM:=Lib.hid (len_msg hm)
 have HK:=Lib.hid hK
 have HKB:=Lib.hid hKb.l
 have ID:=Lib.hid (size_dig hDl)
 have LD:=Lib.hid (len_dig hDl)
 have SV:=Lib.hid (size_tok k hg)
 obtain ⟨V,hV⟩:∃ V,tcell k g=V:=⟨_,rfl⟩
 rw [hV] at B SV ⊢
 clear hV hM hm hDl hK hKb hg
 have hx:Box (((w.alloc (.cells (K.map (Value.int .u8)).toArray 23)).alloc (.cells V.toArray 27)).alloc (.cells zero32.toArray 23)) w.heap.size (K.map (Value.int .u8)):=Box.alloc (Box.alloc (Box.newc rfl rfl) _) _
 have hv:Box (((w.alloc (.cells (K.map (Value.int .u8)).toArray 23)).alloc (.cells V.toArray 27)).alloc (.cells zero32.toArray 23)) (w.heap.size + 1) V:=Box.alloc (Box.newc rfl (by simp)) _
 have hr:Box (((w.alloc (.cells (K.map (Value.int .u8)).toArray 23)).alloc (.cells V.toArray 27)).alloc (.cells zero32.toArray 23)) (w.heap.size + 2) zero32:=Box.newc rfl (by simp)
 have hB:Below w.heap.size w (((w.alloc (.cells (K.map (Value.int .u8)).toArray 23)).alloc (.cells V.toArray 27)).alloc (.cells zero32.toArray 23)):=by go_grown
 go_enter Tryz.func68,Tryz.ntmps68
 go_wp2_with (refine wpList_load_box rfl _ _ rfl hv rfl Tryz.underlying27 rfl SV.out ?_)
 refine (B _).mono ?_
 rintro e w1 ⟨rfl,hb1⟩
 have hx1:=hx.below hb1
 have hr1:=hr.below hb1
 have hB1:=below_thru hB hb1
 have hs1:=hB1.size
 have hz1:=hr1.lt
 clear hx hv hr hB hb1
 go_upto_region 2 with (refine wpList_store_box (cs:=M.map (Value.int .u8)) rfl _ _ _ rfl (Box.newc (l:=zero20) rfl rfl) rfl rfl IM.out LM.out (oneCell_ints _) ?_;intro w2 hW2)
 have hB2:Below w.heap.size w w2:=hW2.below _ _ hs1 (hB1.alloc hs1 _)
 have hx2:Box w2 w.heap.size (K.map (Value.int .u8)):=hW2.past _ _ (by omega) (hx1.alloc _)
 have hr2:Box w2 (w.heap.size + 2) zero32:=hW2.past _ _ (by omega) (hr1.alloc _)
 have hm2:=hW2.box
 clear hx1 hr1 hB1 hW2
 obtain ⟨bm,hbm⟩:∃ b,w1.heap.size=b:=⟨_,rfl⟩
 rw [hbm] at hm2 ⊢
 clear hbm
 refine wp_region_held_drew (S:=fun _=>True) (by kernel_rfl) trivial (fun _=>?_)
 refine F_drew (F:=fun W=>wpAnyH _ _ _ _ _ _ _ _ W) ?_
 intro W0 hb0
 have hx0:=hx2.below hb0;have hm0:=hm2.below hb0;have hr0:=hr2.below hb0;have hB0:=below_thru hB2 hb0
 clear hx2 hm2 hr2 hB2 hb0
 refine takeH 0 11 (v:=?vt0_1) rfl (by rfl) (by kernel_rfl) (by kernel_rfl) (by kernel_rfl) (fun _ _ _ h=>h) (Or.inl ⟨by rfl,?_⟩) (trivial) ?_
 rotate_left
 · intro wq hSq
   go_simp
   exact rfl
 try simp only [Act.put,qzA,qz0,qzS]
 refine takeH 1 12 (v:=?vt1_2) rfl (by rfl) (by kernel_rfl) (by kernel_rfl) (by kernel_rfl) (fun _ _ _ h=>h) (Or.inl ⟨by rfl,?_⟩) (trivial) ?_
 rotate_left
 · intro wq hSq
   go_simp
   exact rfl
 try simp only [Act.put,qzA,qz0,qzS]
 refine wpAnyH_ready (rs:=[2,6]) (by kernel_rfl) (by simp) (AllReadyH.cons rfl (fun K hK=>?_) (AllReadyH.cons rfl (fun K hK=>?_) AllReadyH.nil))
 · skip
   go_simp
   refine (tag_ok _ (Lib.hid (IsL.boxed 32 HK.out hx0 (by omega))) (Lib.hid (IsL.boxed 20 HM.out hm0 (by omega))) (by have:=HK.out;omega) (by have:=HM.out;omega) HKB HMB hD (Lib.hid (hL.out.below hB0))).mono ?_
   rintro e W3 ⟨rfl,hb3⟩
   have hx3:=Box.below hx0 hb3
   have hm3:=Box.below hm0 hb3
   have hr3:=Box.below hr0 hb3
   have hB3:=below_thru hB0 hb3
   have sz3:=hr3.lt
   refine hK.out _ _ trivial (fun _=>?_);clear hK
   refine takeH 3 10 (v:=?vt3_4) rfl (by rfl) (by kernel_rfl) (by kernel_rfl) (by kernel_rfl) (fun _ _ _ h=>h) (Or.inl ⟨by rfl,?_⟩) (trivial) ?_
   rotate_left
   · intro wq hSq
     go_simp
     exact rfl
   try simp only [Act.put,qzA,qz0,qzS]
   refine takeH 4 14 (v:=?vt4_5) rfl (by rfl) (by kernel_rfl) (by kernel_rfl) (by kernel_rfl) (fun _ _ _ h=>h) (Or.inl ⟨by rfl,?_⟩) (trivial) ?_
   rotate_left
   · intro wq hSq
     go_simp
     exact rfl
   try simp only [Act.put,qzA,qz0,qzS]
   refine takeH 5 15 (v:=?vt5_6) rfl (by rfl) (by kernel_rfl) (by kernel_rfl) (by kernel_rfl) (fun _ _ _ h=>h) (Or.inl ⟨by rfl,?_⟩) (trivial) ?_
   rotate_left
   · intro wq hSq
     go_simp
     exact rfl
   try simp only [Act.put,qzA,qz0,qzS]
   refine wpAnyH_ready (rs:=[6]) (by kernel_rfl) (by simp) (AllReadyH.cons rfl (fun K hK=>?_) AllReadyH.nil)
   go_simp
   refine hK.out _ _ trivial (fun _=>?_);clear hK
   refine F_alloc (F:=fun W=>wpAnyH _ _ _ _ _ _ _ _ W) zero32 rfl ?_
   intro W7 ht7 hb7
   have hx7:=Box.below hx3 hb7
   have hm7:=Box.below hm3 hb7
   have hr7:=Box.below hr3 hb7
   have hB7:=below_thru hB3 hb7
   have sz7:=hr7.lt
   obtain ⟨bt,hbt⟩:∃ b,W3.heap.size=b:=⟨_,rfl⟩
   have zt:w.heap.size + 2 < bt:=by have:=Box.lt hr3;omega
   rw [hbt] at ht7 ⊢
   clear hbt
   refine wpAnyH_ready (rs:=[7]) (by kernel_rfl) (by simp) (AllReadyH.cons rfl (fun K hK=>?_) AllReadyH.nil)
   refine step_store_box0 rfl rfl _ _ _ rfl ht7 rfl rfl ID.out LD.out (oneCell_ints _) (fun W8 hW=>?_)
   have hR:=hW.past _ _ (by omega) hr7;have hBT:=hW.below _ _ (by omega) hB7;have hT:=hW.box
   refine hK.out _ _ trivial (fun _=>?_);clear hK
   refine takeH 8 7 (v:=?vt8_9) rfl (by rfl) (by kernel_rfl) (by kernel_rfl) (by kernel_rfl) (fun _ _ _ h=>h) (Or.inl ⟨by rfl,?_⟩) (trivial) ?_
   rotate_left
   · intro wq hSq
     go_simp
     exact rfl
   try simp only [Act.put,qzA,qz0,qzS]
   refine wpAnyH_done (by kernel_rfl) ?_ _
   go_wp2_with (first | (refine wpList_load_box rfl _ _ rfl hT rfl Tryz.underlying23 rfl ID.out ?_) | (refine wpList_store_box (cs:=D.map (Value.int .u8)) rfl _ _ _ rfl hR rfl rfl ID.out LD.out (oneCell_ints _) ?_;intro w9 hW9))
   exact bodyPost_ret (results_box Tryz.results68 hW9.box rfl Tryz.underlying23 rfl ID.out) rfl ⟨rfl,hW9.below _ _ (by omega) hBT⟩
 · skip
   go_simp
   refine hK.out _ _ trivial (fun _=>?_);clear hK
   refine F_alloc (F:=fun W=>wpAnyH _ _ _ _ _ _ _ _ W) zero32 rfl ?_
   intro W10 ht10 hb10
   have hx10:=Box.below hx0 hb10
   have hm10:=Box.below hm0 hb10
   have hr10:=Box.below hr0 hb10
   have hB10:=below_thru hB0 hb10
   have sz10:=hr10.lt
   obtain ⟨bt,hbt⟩:∃ b,W0.heap.size=b:=⟨_,rfl⟩
   have zt:w.heap.size + 2 < bt:=by have:=Box.lt hr0;omega
   rw [hbt] at ht10 ⊢
   clear hbt
   refine wpAnyH_ready (rs:=[2]) (by kernel_rfl) (by simp) (AllReadyH.cons rfl (fun K hK=>?_) AllReadyH.nil)
   go_simp
   refine (tag_ok _ (Lib.hid (IsL.boxed 32 HK.out hx10 (by omega))) (Lib.hid (IsL.boxed 20 HM.out hm10 (by omega))) (by have:=HK.out;omega) (by have:=HM.out;omega) HKB HMB hD (Lib.hid (hL.out.below hB10))).mono ?_
   rintro e W11 ⟨rfl,hb11⟩
   have hx11:=Box.below hx10 hb11
   have hm11:=Box.below hm10 hb11
   have hr11:=Box.below hr10 hb11
   have ht11:=Box.below ht10 hb11
   have hB11:=below_thru hB10 hb11
   have sz11:=hr11.lt
   refine hK.out _ _ trivial (fun _=>?_);clear hK
   refine takeH 3 10 (v:=?vt3_12) rfl (by rfl) (by kernel_rfl) (by kernel_rfl) (by kernel_rfl) (fun _ _ _ h=>h) (Or.inl ⟨by rfl,?_⟩) (trivial) ?_
   rotate_left
   · intro wq hSq
     go_simp
     exact rfl
   try simp only [Act.put,qzA,qz0,qzS]
   refine takeH 4 14 (v:=?vt4_13) rfl (by rfl) (by kernel_rfl) (by kernel_rfl) (by kernel_rfl) (fun _ _ _ h=>h) (Or.inl ⟨by rfl,?_⟩) (trivial) ?_
   rotate_left
   · intro wq hSq
     go_simp
     exact rfl
   try simp only [Act.put,qzA,qz0,qzS]
   refine takeH 5 15 (v:=?vt5_14) rfl (by rfl) (by kernel_rfl) (by kernel_rfl) (by kernel_rfl) (fun _ _ _ h=>h) (Or.inl ⟨by rfl,?_⟩) (trivial) ?_
   rotate_left
   · intro wq hSq
     go_simp
     exact rfl
   try simp only [Act.put,qzA,qz0,qzS]
   refine wpAnyH_ready (rs:=[7]) (by kernel_rfl) (by simp) (AllReadyH.cons rfl (fun K hK=>?_) AllReadyH.nil)
   refine step_store_box0 rfl rfl _ _ _ rfl ht11 rfl rfl ID.out LD.out (oneCell_ints _) (fun W15 hW=>?_)
   have hR:=hW.past _ _ (by omega) hr11;have hBT:=hW.below _ _ (by omega) hB11;have hT:=hW.box
   refine hK.out _ _ trivial (fun _=>?_);clear hK
   refine takeH 8 7 (v:=?vt8_16) rfl (by rfl) (by kernel_rfl) (by kernel_rfl) (by kernel_rfl) (fun _ _ _ h=>h) (Or.inl ⟨by rfl,?_⟩) (trivial) ?_
   rotate_left
   · intro wq hSq
     go_simp
     exact rfl
   try simp only [Act.put,qzA,qz0,qzS]
   refine wpAnyH_done (by kernel_rfl) ?_ _
   go_wp2_with (first | (refine wpList_load_box rfl _ _ rfl hT rfl Tryz.underlying23 rfl ID.out ?_) | (refine wpList_store_box (cs:=D.map (Value.int .u8)) rfl _ _ _ rfl hR rfl rfl ID.out LD.out (oneCell_ints _) ?_;intro w9 hW9))
   exact bodyPost_ret (results_box Tryz.results68 hW9.box rfl Tryz.underlying23 rfl ID.out) rfl ⟨rfl,hW9.below _ _ (by omega) hBT⟩
set_option maxRecDepth 100000 in
set_option maxHeartbeats 3200000 in
theorem mint_is (k:Nums) {K D:List Int} (hK:K.length=32) (hKb:Byts K) (hD:Hid (tagL K k.msg=D)) (w:World) (hL:Hid (LaidS w)):Calls Tryz.prog 40 #[.agg (K.map (Value.int .u8)).toArray,.int .u32 k.t,.int .u32 k.u,.int .u32 k.e,.int .u64 k.x] w fun e w'=>e=.returned (.agg (tcell k D).toArray)∧Below w.heap.size w w':=by
 have hDl:D.length=32:=by rw [← hD.out];exact tagL_len _ _
 have A:=fun (W:World) h=>tagfor_is k (g:=zeroD) zd32 hK hKb hD W h
 have S0:=Lib.hid (size_tok k zd32)
 have SV:=Lib.hid (size_tok k hDl)
 have SK:=Lib.hid (size_dig hK)
 have SD:=Lib.hid (size_dig hDl)
 have L0:=Lib.hid (len_tok Nums.zero k zd32 zd32)
 have LV:=Lib.hid (len_tok Nums.zero k zd32 hDl)
 have O0:=Lib.hid (tcell_one k zeroD)
 have OV:=Lib.hid (tcell_one k D)
 have P1:=Lib.hid (show 4 + (D.map (Value.int .u8)).length≤(tcell k zeroD).length by rw [List.length_map,hDl,tcell_len k zd32];omega)
 have P2:=Lib.hid (show tcell k D=(tcell k zeroD).take 4 ++ D.map (Value.int .u8) ++ (tcell k zeroD).drop (4 + (D.map (Value.int .u8)).length) by
   rw [List.drop_eq_nil_of_le (by rw [tcell_len k zd32,List.length_map,hDl];omega),List.append_nil]
   rfl)
 have hx:Box ((w.alloc (.cells (K.map (Value.int .u8)).toArray 23)).alloc (.cells zeroTk.toArray 27)) w.heap.size (K.map (Value.int .u8)):=Box.alloc (Box.newc rfl rfl) _
 have hr:Box ((w.alloc (.cells (K.map (Value.int .u8)).toArray 23)).alloc (.cells zeroTk.toArray 27)) (w.heap.size + 1) zeroTk:=Box.newc rfl (by simp)
 have hB:Below w.heap.size w ((w.alloc (.cells (K.map (Value.int .u8)).toArray 23)).alloc (.cells zeroTk.toArray 27)):=by go_grown
 have BT:=fun W=>build_tok0' k.t k.u k.e k.x W
 have HV:tcell k zeroD=.int .u32 k.t :: .int .u32 k.u :: .int .u32 k.e :: .int .u64 k.x :: zeroD.map (Value.int .u8):=rfl
 rw [← HV] at BT
 obtain ⟨V0,hV0⟩:∃ V,tcell k zeroD=V:=⟨_,rfl⟩
 obtain ⟨V,hV⟩:∃ V,tcell k D=V:=⟨_,rfl⟩
 rw [hV0] at BT S0 L0 O0 P1 P2 A
 rw [hV] at SV LV OV P2 ⊢
 clear hDl hK hKb hD HV hV hV0
 go_enter Tryz.func40,Tryz.ntmps40
 go_upto_region 2 with (first | (refine wpList_build4 rfl 27 _ rfl (us:=#[(0,.int .u32 k.t),(1,.int .u32 k.u),(2,.int .u32 k.e),(3,.int .u64 k.x)]) (by rfl) (BT _) ?_) | (refine wpList_store_box (cs:=V0) rfl _ _ _ rfl (Box.newc (l:=zeroTk) rfl (by simp)) rfl rfl S0.out L0.out O0.out ?_;intro w2 hW2))
 have hB2:Below w.heap.size w w2:=hW2.below _ _ (by first | omega | (simp;done) | (simp;omega)) (by go_grown)
 have hx2:Box w2 w.heap.size (K.map (Value.int .u8)):=hW2.past _ _ (by first | omega | (simp;done) | (simp;omega)) (hx.alloc _)
 have hr2:Box w2 (w.heap.size + 1) zeroTk:=hW2.past _ _ (by first | omega | (simp;done) | (simp;omega)) (hr.alloc _)
 have ht2:=hW2.box
 clear hW2 hx hr hB
 go_wp2_with (first | (refine wpList_load_box rfl _ _ rfl hx2 rfl Tryz.underlying23 rfl SK.out ?_) | (refine wpList_load_box rfl _ _ rfl ht2 rfl Tryz.underlying27 rfl S0.out ?_))
 refine (A _ (Lib.hid (hL.out.below hB2))).mono ?_
 rintro e w3 ⟨rfl,hb3⟩
 have hr3:=hr2.below hb3
 have ht3:=ht2.below hb3
 have hB3:=below_thru hB2 hb3
 have hz3:=ht3.lt
 clear hx2 hr2 ht2 hB2 hb3
 go_upto_region 3 with (refine wpList_store_part (cs:=D.map (Value.int .u8)) (ws:=V) rfl _ _ _ rfl ht3 rfl rfl SD.out P1.out P2.out (oneCell_ints _) ?_;intro w4 hW4)
 have hB4:Below w.heap.size w w4:=hW4.below _ _ (by first | omega | (simp;done) | (simp;omega)) hB3
 have hr4:Box w4 (w.heap.size + 1) zeroTk:=hW4.past _ _ (by first | omega | (simp;done) | (simp;omega)) hr3
 have ht4:=hW4.box
 clear hW4 hr3 ht3 hB3
 go_wp2_with (first | (refine wpList_load_box rfl _ _ rfl ht4 rfl Tryz.underlying27 rfl SV.out ?_) | (refine wpList_store_box (cs:=V) rfl _ _ _ rfl hr4 rfl rfl SV.out LV.out OV.out ?_;intro w9 hW9))
 exact bodyPost_ret (results_box Tryz.results40 hW9.box rfl Tryz.underlying27 rfl SV.out) rfl ⟨rfl,hW9.below _ _ (by omega) hB4⟩
set_option maxRecDepth 100000 in
set_option maxHeartbeats 3200000 in
theorem verify_is (k:Nums) {g K:List Int} {q:Int} (hg:g.length=32) (hK:K.length=32) (hKb:Byts K) (hq:Hid (verN K k g=q)) (w:World) (hL:Hid (LaidS w)):Calls Tryz.prog 36 #[.agg (K.map (Value.int .u8)).toArray,.agg (tcell k g).toArray] w fun e w'=>e=.returned (.int .i64 q)∧Below w.heap.size w w':=by
 have hDl:=tagL_len K k.msg
 obtain ⟨D,hD⟩:∃ D,tagL K k.msg=D:=⟨_,rfl⟩
 have A:=fun W h=>tagfor_is k hg hK hKb (Lib.hid hD) W h
 have hqq:(if D=g then 0 else 22)=q:=by rw [← hD];exact hq.out
 rw [hD] at hDl
 have S:=fun W=>mac_same W hDl hg
 have SV:=Lib.hid (size_tok k hg)
 have SK:=Lib.hid (size_dig hK)
 have SG:=Lib.hid (size_dig hg)
 have HT:=Lib.hid (tcell_drop k g)
 obtain ⟨V,hV⟩:∃ V,tcell k g=V:=⟨_,rfl⟩
 rw [hV] at A SV HT ⊢
 have hs:sameB D g=decide (D=g):=rfl
 obtain ⟨c,hc⟩:∃ c,sameB D g=c:=⟨_,rfl⟩
 rw [hc] at S hs
 have hx:Box ((w.alloc (.cells (K.map (Value.int .u8)).toArray 23)).alloc (.cells V.toArray 27)) w.heap.size (K.map (Value.int .u8)):=Box.alloc (Box.newc rfl rfl) _
 have hv:Box ((w.alloc (.cells (K.map (Value.int .u8)).toArray 23)).alloc (.cells V.toArray 27)) (w.heap.size + 1) V:=Box.newc rfl (by simp)
 have hB:Below w.heap.size w ((w.alloc (.cells (K.map (Value.int .u8)).toArray 23)).alloc (.cells V.toArray 27)):=by go_grown
 clear hV hD hg hK hKb hDl hc hq
 have h0:=And.intro hx hv
 clear hx hv
 cases c
 · rw [if_neg (of_decide_eq_false hs.symm)] at hqq
   subst hqq
   clear hs
   go_enter Tryz.func36,Tryz.ntmps36
   go_upto_region 1 with fail
   refine wp_region_held_drew (S:=fun W=>Box W w.heap.size (K.map (Value.int .u8))∧Box W (w.heap.size + 1) V) (by kernel_rfl) ⟨h0.1.drew,h0.2.drew⟩ (fun _=>?_)
   refine F_drew (F:=fun W=>wpAnyH _ _ _ _ _ _ _ _ W) ?_
   intro W0 hb0
   have hx0:=And.intro (h0.1.below hb0) (h0.2.below hb0);have hB0:=below_thru hB hb0
   clear h0 hB hb0
   refine takeH 3 8 (v:=?vv3_1) rfl (by rfl) (by kernel_rfl) (by kernel_rfl) (by kernel_rfl) (fun _ _ _ h=>h) (Or.inl ⟨by rfl,?_⟩) (hx0) ?_
   rotate_left
   · intro wq hSq
     go_simp
     exact rfl
   try simp only [Act.put,qzA,qz0,qzS]
   refine takeH 0 5 (v:=.agg (K.map (Value.int .u8)).toArray) rfl (by rfl) (by kernel_rfl) (by kernel_rfl) (by kernel_rfl) (fun _ _ _ h=>h) (yieldsIf_load_mid (by rfl) _ _ rfl _ _ rfl (K.map (Value.int .u8)) _ (fun wq hq=>hq.1.range) Tryz.underlying23 rfl SK.out) (hx0) ?_
   try simp only [Act.put,qzA,qz0,qzS]
   refine takeH 1 6 (v:=.agg V.toArray) rfl (by rfl) (by kernel_rfl) (by kernel_rfl) (by kernel_rfl) (fun _ _ _ h=>h) (yieldsIf_load_mid (by rfl) _ _ rfl _ _ rfl V _ (fun wq hq=>hq.2.range) Tryz.underlying27 rfl SV.out) (hx0) ?_
   try simp only [Act.put,qzA,qz0,qzS]
   refine takeH 4 9 (v:=.agg (g.map (Value.int .u8)).toArray) rfl (by rfl) (by kernel_rfl) (by kernel_rfl) (by kernel_rfl) (fun _ _ _ h=>h) (yieldsIf_load_mid (by rfl) _ _ rfl _ _ rfl (g.map (Value.int .u8)) _ (fun wq hq=>Box.rangeFrom hq.2 4 _ HT.out) Tryz.underlying23 rfl SG.out) (hx0) ?_
   try simp only [Act.put,qzA,qz0,qzS]
   refine wpAnyH_ready (rs:=[2]) (by kernel_rfl) (by simp) (AllReadyH.cons rfl (fun K hK=>?_) AllReadyH.nil)
   go_simp
   refine (A _ (Lib.hid (hL.out.below hB0))).mono ?_
   rintro e W2 ⟨rfl,hb2⟩
   have hx2:=And.intro (Box.below hx0.1 hb2) (Box.below hx0.2 hb2);have hB2:=below_thru hB0 hb2
   refine hK.out _ _ hx2 (fun _=>?_);clear hK
   refine wpAnyH_ready (rs:=[5]) (by kernel_rfl) (by simp) (AllReadyH.cons rfl (fun K hK=>?_) AllReadyH.nil)
   go_simp
   refine (S _).mono ?_
   rintro e W3 ⟨rfl,hb3⟩
   have hx3:=And.intro (Box.below hx2.1 hb3) (Box.below hx2.2 hb3);have hB3:=below_thru hB2 hb3
   refine hK.out _ _ hx3 (fun _=>?_);clear hK
   refine takeH 6 11 (v:=?vv6_4) rfl (by rfl) (by kernel_rfl) (by kernel_rfl) (by kernel_rfl) (fun _ _ _ h=>h) (Or.inl ⟨by rfl,?_⟩) (hx3) ?_
   rotate_left
   · intro wq hSq
     go_simp
     exact rfl
   try simp only [Act.put,qzA,qz0,qzS]
   refine wpAnyH_done (by kernel_rfl) ?_ _
   go_wp2_with fail
   go_returns
   exact ⟨rfl,hB3⟩
 · rw [if_pos (of_decide_eq_true hs.symm)] at hqq
   subst hqq
   clear hs
   go_enter Tryz.func36,Tryz.ntmps36
   go_upto_region 1 with fail
   refine wp_region_held_drew (S:=fun W=>Box W w.heap.size (K.map (Value.int .u8))∧Box W (w.heap.size + 1) V) (by kernel_rfl) ⟨h0.1.drew,h0.2.drew⟩ (fun _=>?_)
   refine F_drew (F:=fun W=>wpAnyH _ _ _ _ _ _ _ _ W) ?_
   intro W0 hb0
   have hx0:=And.intro (h0.1.below hb0) (h0.2.below hb0);have hB0:=below_thru hB hb0
   clear h0 hB hb0
   refine takeH 3 8 (v:=?vy3_1) rfl (by rfl) (by kernel_rfl) (by kernel_rfl) (by kernel_rfl) (fun _ _ _ h=>h) (Or.inl ⟨by rfl,?_⟩) (hx0) ?_
   rotate_left
   · intro wq hSq
     go_simp
     exact rfl
   try simp only [Act.put,qzA,qz0,qzS]
   refine takeH 0 5 (v:=.agg (K.map (Value.int .u8)).toArray) rfl (by rfl) (by kernel_rfl) (by kernel_rfl) (by kernel_rfl) (fun _ _ _ h=>h) (yieldsIf_load_mid (by rfl) _ _ rfl _ _ rfl (K.map (Value.int .u8)) _ (fun wq hq=>hq.1.range) Tryz.underlying23 rfl SK.out) (hx0) ?_
   try simp only [Act.put,qzA,qz0,qzS]
   refine takeH 1 6 (v:=.agg V.toArray) rfl (by rfl) (by kernel_rfl) (by kernel_rfl) (by kernel_rfl) (fun _ _ _ h=>h) (yieldsIf_load_mid (by rfl) _ _ rfl _ _ rfl V _ (fun wq hq=>hq.2.range) Tryz.underlying27 rfl SV.out) (hx0) ?_
   try simp only [Act.put,qzA,qz0,qzS]
   refine takeH 4 9 (v:=.agg (g.map (Value.int .u8)).toArray) rfl (by rfl) (by kernel_rfl) (by kernel_rfl) (by kernel_rfl) (fun _ _ _ h=>h) (yieldsIf_load_mid (by rfl) _ _ rfl _ _ rfl (g.map (Value.int .u8)) _ (fun wq hq=>Box.rangeFrom hq.2 4 _ HT.out) Tryz.underlying23 rfl SG.out) (hx0) ?_
   try simp only [Act.put,qzA,qz0,qzS]
   refine wpAnyH_ready (rs:=[2]) (by kernel_rfl) (by simp) (AllReadyH.cons rfl (fun K hK=>?_) AllReadyH.nil)
   go_simp
   refine (A _ (Lib.hid (hL.out.below hB0))).mono ?_
   rintro e W2 ⟨rfl,hb2⟩
   have hx2:=And.intro (Box.below hx0.1 hb2) (Box.below hx0.2 hb2);have hB2:=below_thru hB0 hb2
   refine hK.out _ _ hx2 (fun _=>?_);clear hK
   refine wpAnyH_ready (rs:=[5]) (by kernel_rfl) (by simp) (AllReadyH.cons rfl (fun K hK=>?_) AllReadyH.nil)
   go_simp
   refine (S _).mono ?_
   rintro e W3 ⟨rfl,hb3⟩
   have hx3:=And.intro (Box.below hx2.1 hb3) (Box.below hx2.2 hb3);have hB3:=below_thru hB2 hb3
   refine hK.out _ _ hx3 (fun _=>?_);clear hK
   refine takeH 6 11 (v:=?vy6_4) rfl (by rfl) (by kernel_rfl) (by kernel_rfl) (by kernel_rfl) (fun _ _ _ h=>h) (Or.inl ⟨by rfl,?_⟩) (hx3) ?_
   rotate_left
   · intro wq hSq
     go_simp
     exact rfl
   try simp only [Act.put,qzA,qz0,qzS]
   refine wpAnyH_done (by kernel_rfl) ?_ _
   go_wp2_with fail
   go_returns
   exact ⟨rfl,hB3⟩
end Go.Proofs.YtnfejdfjlnpldaaGreatDoor
