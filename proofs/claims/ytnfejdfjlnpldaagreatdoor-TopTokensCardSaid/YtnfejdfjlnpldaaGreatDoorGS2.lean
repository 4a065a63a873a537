import Derived.Test.YtnfejdfjlnpldaaGreatDoorGS1
import Derived.Test.YtnfejdfjlnpldaaGreatDoorGB1
import Derived.Deep.QuietTactic
import Derived.BigQuiet
import Derived.Lib.ConvBytes
set_option maxHeartbeats 3200000
set_option maxRecDepth 100000
namespace Go.Proofs.YtnfejdfjlnpldaaGreatDoor
open Go.RowKit
def zero10:List Value:=[.int .u32 0,.int .u32 0,.int .u32 0,.int .u32 0,.int .u32 0,.int .u32 0,.int .u32 0,.int .u32 0,.slice none 0 0,.int .i64 0]
def zero8:List Value:=[.int .u32 0,.int .u32 0,.int .u32 0,.int .u32 0,.int .u32 0,.int .u32 0,.int .u32 0,.int .u32 0]
theorem hash_one (h:W8) (at0:Option Addr) (len cap:Nat) (n:Int):(hashV h (.slice at0 len cap) n).toArray.all (·.oneCell')=true:=all_oneCell_toArray fun v hm=>by
 simp only [hashV,List.mem_cons,List.not_mem_nil,or_false] at hm
 rcases hm with rfl | rfl | rfl | rfl | rfl | rfl | rfl | rfl | rfl | rfl <;> rfl
theorem OwnL.range {w w1:World} {v:Value} {xs:List Int} (h:OwnL w w1 v xs):∀ g,v.ownBlock=some g→w.heap.size≤g∧g < w1.heap.size:=by
 intro g hg
 refine ⟨own_block h.1 g hg,?_⟩
 obtain ⟨_,⟨rfl,_⟩ | ⟨g',cap,cur,rfl,hg',hh,_⟩⟩:=h.1
 · cases hg
 · cases hg
   exact (Array.getElem?_eq_some_iff.1 hh).1
set_option maxRecDepth 100000 in
set_option maxHeartbeats 3200000 in
theorem write_ok (h:W8) (a1 a2:Option Addr) (c1 c2:Nat) (xs ys:List Int) (n:Int) (w:World) (h1:IsL w .u8 (.slice a1 xs.length c1) xs) (h2:IsL w .u8 (.slice a2 ys.length c2) ys) (hn:0≤n) (hn2:n≤128000) (hvd:Hid (vldH n xs.length=true)) (hm:¬ 128000 - n < (ys.length:Int))
   (hx:bytesL xs) (hy:bytesL ys) (hL:LaidS w) :
   Calls Tryz.prog 92 #[.agg #[.int .u32 (un h.a),.int .u32 (un h.b),.int .u32 (un h.c),.int .u32 (un h.d),.int .u32 (un h.e),.int .u32 (un h.f),.int .u32 (un h.g),.int .u32 (un h.z),.slice a1 xs.length c1,.int .i64 n],.slice a2 ys.length c2] w fun e w'=>∃ v,e=.returned (.tuple #[.agg (hashV (after h (xs ++ ys)) v (n + ys.length)).toArray,.int .i64 0])∧OwnL w w' v (restOf (xs ++ ys)):=by
 have hlen:(xs.length:Int)=n % 64:=by
   have:=hvd.out
   simp only [vldH,Bool.and_eq_true,decide_eq_true_eq] at this
   exact this.2
 have hsum:xs.length + ys.length≤1000000000:=by omega
 have hlx:xs.length≤9223372036854775807:=by omega
 have hbytes:=Lib.hid (hx.append hy)
 have HI1:=Lib.hid h1
 have HI2:=Lib.hid h2
 have HL1:=Lib.hid hL
 clear hx hy h1 h2 hL hlen
 go_enter Tryz.func92,Tryz.ntmps92
 go_wp2_with fail
 refine (valid_any h a1 xs.length c1 n true hvd _ (by omega) (by omega) hlx).mono ?_
 rintro e w1 ⟨rfl,hb⟩
 have hB1:Below w.heap.size w w1:=below_thru (by go_grown) hb
 have hxr:Box w1 (w.heap.size + 1) zero10:=Box.below (Box.newc rfl (by simp)) hb
 have hxh:Box w1 w.heap.size (hashV h (.slice a1 xs.length c1) n):=Box.below (Box.alloc (Box.newc rfl rfl) _) hb
 have HI1:=Lib.hid (IsL.below HI1.out hB1)
 have HI2:=Lib.hid (IsL.below HI2.out hB1)
 have HL1:=Lib.hid (LaidS.below HL1.out hB1)
 have hz1:=hxr.lt
 have c9:w1.cell? ⟨w.heap.size,9,none⟩=some (.int .i64 n):=hxh.c 9 _ rfl
 clear hb
 go_upto_region 5 with fail
 clear c9
 go_cut [6,7] (fun p q wx=>∃ (b:Nat),p=.pointer (some ⟨b,0,none⟩)∧w.heap.size + 1 < b∧Box wx b (hv (after h (xs ++ ys)))∧IsL wx .u8 q (restOf (xs ++ ys))∧Box wx w.heap.size (hashV h (.slice a1 xs.length c1) n)∧Box wx (w.heap.size + 1) zero10∧Below w.heap.size w wx)
 case first =>
   refine wp_region_held_drew (S:=fun w'=>Box w' w.heap.size (hashV h (.slice a1 xs.length c1) n)) (by kernel_rfl) (Box.drew hxh) (fun _=>?_)
   refine F_drew (F:=fun W=>wpAnyH _ _ _ _ _ _ _ _ W) ?_
   intro W0 hb0
   have sz1:=Below.size hb0
   have hx_2:Box W0 (w.heap.size) (hashV h (.slice a1 xs.length c1) n):=Box.below hxh hb0
   have hr_3:Box W0 (w.heap.size + 1) (zero10):=Box.below hxr hb0
   have i1_4:=Lib.hid (IsL.below (Hid.out HI1) hb0)
   have i2_5:=Lib.hid (IsL.below (Hid.out HI2) hb0)
   have laid_6:=Lib.hid (LaidS.below (Hid.out HL1) hb0)
   have B_7:Below w.heap.size w W0:=below_thru hB1 hb0
   clear hxh hxr HI1 HL1 hB1 hb0
   refine takeH 0 20 (v:=.pointer (some ⟨w.heap.size,0,none⟩)) rfl (by rfl) (by kernel_rfl) (by kernel_rfl) (by kernel_rfl) (fun _ _ _ h=>h) (Or.inl ⟨by rfl,?_⟩) (hx_2) ?_
   · intro wq hSq
     go_simp
   try simp only [Act.put,qzA,qz0,qzS]
   refine takeH 1 21 (v:=.agg (hv h).toArray) rfl (by rfl) (by kernel_rfl) (by kernel_rfl) (by kernel_rfl) (fun _ _ _ h=>h) (yieldsIf_load_mid (by rfl) _ _ rfl _ 0 rfl (hv h) _ (fun wq hq=>Box.left (l:=hv h) (r:=[.slice a1 xs.length c1,.int .i64 n]) hq) Tryz.underlying164 rfl size8) (hx_2) ?_
   try simp only [Act.put,qzA,qz0,qzS]
   refine takeH 2 22 (v:=.pointer (some ⟨w.heap.size,8,none⟩)) rfl (by rfl) (by kernel_rfl) (by kernel_rfl) (by kernel_rfl) (fun _ _ _ h=>h) (Or.inl ⟨by rfl,?_⟩) (hx_2) ?_
   · intro wq hSq
     go_simp
   try simp only [Act.put,qzA,qz0,qzS]
   refine takeH 3 23 (v:=.slice a1 xs.length c1) rfl (by rfl) (by kernel_rfl) (by kernel_rfl) (by kernel_rfl) (fun _ _ _ h=>h) (Or.inl ⟨by rfl,?_⟩) (hx_2) ?_
   · intro wq hSq
     have cq:=hSq.c 8 _ rfl
     go_simp
   try simp only [Act.put,qzA,qz0,qzS]
   refine takeH 4 24 (v:=.slice a2 ys.length c2) rfl (by rfl) (by kernel_rfl) (by kernel_rfl) (by kernel_rfl) (fun _ _ _ h=>h) (Or.inl ⟨by rfl,?_⟩) (hx_2) ?_
   · intro wq hSq
     go_simp
   try simp only [Act.put,qzA,qz0,qzS]
   refine wpAnyH_ready (rs:=[5,11]) (by kernel_rfl) (by simp) (AllReadyH.cons rfl (fun K hK=>?_) (AllReadyH.cons rfl (fun K hK=>?_) AllReadyH.nil))
   · skip
     go_simp
     refine hK.out _ _ (Box.alloc hx_2 _) (fun _=>?_);clear hK K
     refine F_alloc (F:=fun W=>wpAnyH _ _ _ _ _ _ _ _ W) ([.slice a1 xs.length c1,.slice a2 ys.length c2]) rfl ?_
     intro W8 hx8 hb8
     have sz9:=Below.size hb8
     have hx_10:Box W8 (w.heap.size) (hashV h (.slice a1 xs.length c1) n):=Box.below hx_2 hb8
     have hr_11:Box W8 (w.heap.size + 1) (zero10):=Box.below hr_3 hb8
     have i1_12:=Lib.hid (IsL.below (Hid.out i1_4) hb8)
     have i2_13:=Lib.hid (IsL.below (Hid.out i2_5) hb8)
     have laid_14:=Lib.hid (LaidS.below (Hid.out laid_6) hb8)
     have B_15:Below w.heap.size w W8:=below_thru B_7 hb8
     have lt8:=hx8.lt
     refine wpAnyH_ready (rs:=[6,11]) (by kernel_rfl) (by simp) (AllReadyH.cons rfl (fun K hK=>?_) (AllReadyH.cons rfl (fun K hK=>?_) AllReadyH.nil))
     · skip
       go_simp
       refine (concat_any _ _ _ xs ys _ (hx8.c 0 _ rfl) (hx8.c 1 _ rfl) (Hid.out i1_12) (Hid.out i2_13) hsum).mono ?_
       rintro e W16 ⟨v16,rfl,ho16⟩
       have rg16:=Lib.hid (OwnL.range ho16)
       have hq16:=Lib.hid (OwnL.is ho16)
       have hb16:=ho16.2
       clear ho16
       have sz17:=Below.size hb16
       have hx_18:Box W16 (w.heap.size) (hashV h (.slice a1 xs.length c1) n):=Box.below hx_10 hb16
       have hr_19:Box W16 (w.heap.size + 1) (zero10):=Box.below hr_11 hb16
       have i1_20:=Lib.hid (IsL.below (Hid.out i1_12) hb16)
       have i2_21:=Lib.hid (IsL.below (Hid.out i2_13) hb16)
       have laid_22:=Lib.hid (LaidS.below (Hid.out laid_14) hb16)
       have B_23:Below w.heap.size w W16:=below_thru B_15 hb16
       have sl_24:Box W16 (W0.heap.size) ([.slice a1 xs.length c1,.slice a2 ys.length c2]):=Box.below hx8 hb16
       refine hK.out _ _ (hx_18) (fun _=>?_);clear hK K
       refine wpAnyH_ready (rs:=[7,11]) (by kernel_rfl) (by simp) (AllReadyH.cons rfl (fun K hK=>?_) (AllReadyH.cons rfl (fun K hK=>?_) AllReadyH.nil))
       · skip
         go_simp
         refine (takeIn_any h _ (xs ++ ys) _ (Hid.out hq16) (Hid.out hbytes) (Hid.out laid_22)).mono ?_
         rintro e W25 ⟨v25,rfl,hl25,he25,hb25⟩
         have hq25:=Lib.hid hl25
         clear hl25
         have HE25:=Lib.hid he25
         clear he25
         have sz26:=Below.size hb25
         have hx_27:Box W25 (w.heap.size) (hashV h (.slice a1 xs.length c1) n):=Box.below hx_18 hb25
         have hr_28:Box W25 (w.heap.size + 1) (zero10):=Box.below hr_19 hb25
         have i1_29:=Lib.hid (IsL.below (Hid.out i1_20) hb25)
         have i2_30:=Lib.hid (IsL.below (Hid.out i2_21) hb25)
         have laid_31:=Lib.hid (LaidS.below (Hid.out laid_22) hb25)
         have B_32:Below w.heap.size w W25:=below_thru B_23 hb25
         have sl_33:Box W25 (W0.heap.size) ([.slice a1 xs.length c1,.slice a2 ys.length c2]):=Box.below sl_24 hb25
         have cat_34:=Lib.hid (IsL.below (Hid.out hq16) hb25)
         refine hK.out _ _ (hx_27) (fun _=>?_);clear hK K
         refine takeH 8 19 (v:=.tuple #[.agg (hv (after h (xs ++ ys))).toArray,v25]) rfl (by rfl) (by kernel_rfl) (by kernel_rfl) (by kernel_rfl) (fun _ _ _ h=>h) (Or.inl ⟨by rfl,?_⟩) (hx_27) ?_
         · intro wq hSq
           go_simp
         try simp only [Act.put,qzA,qz0,qzS]
         refine takeH 9 28 (v:=.agg (hv (after h (xs ++ ys))).toArray) rfl (by rfl) (by kernel_rfl) (by kernel_rfl) (by kernel_rfl) (fun _ _ _ h=>h) (Or.inl ⟨by rfl,?_⟩) (hx_27) ?_
         · intro wq hSq
           go_simp
         try simp only [Act.put,qzA,qz0,qzS]
         refine takeH 10 29 (v:=v25) rfl (by rfl) (by kernel_rfl) (by kernel_rfl) (by kernel_rfl) (fun _ _ _ h=>h) (Or.inl ⟨by rfl,?_⟩) (hx_27) ?_
         · intro wq hSq
           go_simp
         try simp only [Act.put,qzA,qz0,qzS]
         refine wpAnyH_ready (rs:=[11]) (by kernel_rfl) (by simp) (AllReadyH.cons rfl (fun K hK=>?_) AllReadyH.nil)
         go_simp
         refine hK.out _ _ (Box.alloc hx_27 _) (fun _=>?_);clear hK K
         refine F_alloc (F:=fun W=>wpAnyH _ _ _ _ _ _ _ _ W) (zero8) rfl ?_
         intro W35 hx35 hb35
         have sz36:=Below.size hb35
         have hx_37:Box W35 (w.heap.size) (hashV h (.slice a1 xs.length c1) n):=Box.below hx_27 hb35
         have hr_38:Box W35 (w.heap.size + 1) (zero10):=Box.below hr_28 hb35
         have i1_39:=Lib.hid (IsL.below (Hid.out i1_29) hb35)
         have i2_40:=Lib.hid (IsL.below (Hid.out i2_30) hb35)
         have laid_41:=Lib.hid (LaidS.below (Hid.out laid_31) hb35)
         have B_42:Below w.heap.size w W35:=below_thru B_32 hb35
         have sl_43:Box W35 (W0.heap.size) ([.slice a1 xs.length c1,.slice a2 ys.length c2]):=Box.below sl_33 hb35
         have cat_44:=Lib.hid (IsL.below (Hid.out cat_34) hb35)
         have out_45:=Lib.hid (IsL.below (Hid.out hq25) hb35)
         have lt35:=hx35.lt
         refine wpAnyH_ready (rs:=[12]) (by kernel_rfl) (by simp) (AllReadyH.cons rfl (fun K hK=>?_) AllReadyH.nil)
         refine step_store_box0 (cs:=hv (after h (xs ++ ys))) rfl rfl _ _ _ rfl hx35 rfl rfl size8 rfl (hv_one _) ?_
         intro W46 hW46
         have hx_47:Box W46 (w.heap.size) (hashV h (.slice a1 xs.length c1) n):=hW46.past _ _ (by omega) hx_37
         have hr_48:Box W46 (w.heap.size + 1) (zero10):=hW46.past _ _ (by omega) hr_38
         have B_52:Below w.heap.size w W46:=hW46.below _ _ (by omega) B_42
         have sl_53:Box W46 (W0.heap.size) ([.slice a1 xs.length c1,.slice a2 ys.length c2]):=hW46.past _ _ (by omega) sl_43
         have xw_58:=hW46.box
         have oo46:=Lib.hid (IsL.stored (Hid.out out_45) hW46 (fun g hg=>by have r:=(Hid.out rg16) g (by rw [← Hid.out HE25];exact hg);omega))
         refine hK.out _ _ (hx_47) (fun _=>?_);clear hK K
         refine takeH 13 7 (v:=v25) rfl (by rfl) (by kernel_rfl) (by kernel_rfl) (by kernel_rfl) (fun _ _ _ h=>h) (Or.inl ⟨by rfl,?_⟩) (hx_47) ?_
         · intro wq hSq
           go_simp
         try simp only [Act.put,qzA,qz0,qzS]
         refine wpAnyH_done (by kernel_rfl) ?_ _
         go_wp2_with fail
         go_meet
         exact ⟨_,rfl,by omega,xw_58,Hid.out oo46,hx_47,hr_48,B_52⟩
       · skip
         go_simp
         refine hK.out _ _ (Box.alloc hx_18 _) (fun _=>?_);clear hK K
         refine F_alloc (F:=fun W=>wpAnyH _ _ _ _ _ _ _ _ W) (zero8) rfl ?_
         intro W59 hx59 hb59
         have sz60:=Below.size hb59
         have hx_61:Box W59 (w.heap.size) (hashV h (.slice a1 xs.length c1) n):=Box.below hx_18 hb59
         have hr_62:Box W59 (w.heap.size + 1) (zero10):=Box.below hr_19 hb59
         have i1_63:=Lib.hid (IsL.below (Hid.out i1_20) hb59)
         have i2_64:=Lib.hid (IsL.below (Hid.out i2_21) hb59)
         have laid_65:=Lib.hid (LaidS.below (Hid.out laid_22) hb59)
         have B_66:Below w.heap.size w W59:=below_thru B_23 hb59
         have sl_67:Box W59 (W0.heap.size) ([.slice a1 xs.length c1,.slice a2 ys.length c2]):=Box.below sl_24 hb59
         have cat_68:=Lib.hid (IsL.below (Hid.out hq16) hb59)
         have lt59:=hx59.lt
         refine wpAnyH_ready (rs:=[7]) (by kernel_rfl) (by simp) (AllReadyH.cons rfl (fun K hK=>?_) AllReadyH.nil)
         go_simp
         refine (takeIn_any h _ (xs ++ ys) _ (Hid.out cat_68) (Hid.out hbytes) (Hid.out laid_65)).mono ?_
         rintro e W69 ⟨v69,rfl,hl69,he69,hb69⟩
         have hq69:=Lib.hid hl69
         clear hl69
         have HE69:=Lib.hid he69
         clear he69
         have sz70:=Below.size hb69
         have hx_71:Box W69 (w.heap.size) (hashV h (.slice a1 xs.length c1) n):=Box.below hx_61 hb69
         have hr_72:Box W69 (w.heap.size + 1) (zero10):=Box.below hr_62 hb69
         have i1_73:=Lib.hid (IsL.below (Hid.out i1_63) hb69)
         have i2_74:=Lib.hid (IsL.below (Hid.out i2_64) hb69)
         have laid_75:=Lib.hid (LaidS.below (Hid.out laid_65) hb69)
         have B_76:Below w.heap.size w W69:=below_thru B_66 hb69
         have sl_77:Box W69 (W0.heap.size) ([.slice a1 xs.length c1,.slice a2 ys.length c2]):=Box.below sl_67 hb69
         have cat_78:=Lib.hid (IsL.below (Hid.out cat_68) hb69)
         have xw_79:Box W69 (W16.heap.size) (zero8):=Box.below hx59 hb69
         refine hK.out _ _ (hx_71) (fun _=>?_);clear hK K
         refine takeH 8 19 (v:=.tuple #[.agg (hv (after h (xs ++ ys))).toArray,v69]) rfl (by rfl) (by kernel_rfl) (by kernel_rfl) (by kernel_rfl) (fun _ _ _ h=>h) (Or.inl ⟨by rfl,?_⟩) (hx_71) ?_
         · intro wq hSq
           go_simp
         try simp only [Act.put,qzA,qz0,qzS]
         refine takeH 9 28 (v:=.agg (hv (after h (xs ++ ys))).toArray) rfl (by rfl) (by kernel_rfl) (by kernel_rfl) (by kernel_rfl) (fun _ _ _ h=>h) (Or.inl ⟨by rfl,?_⟩) (hx_71) ?_
         · intro wq hSq
           go_simp
         try simp only [Act.put,qzA,qz0,qzS]
         refine takeH 10 29 (v:=v69) rfl (by rfl) (by kernel_rfl) (by kernel_rfl) (by kernel_rfl) (fun _ _ _ h=>h) (Or.inl ⟨by rfl,?_⟩) (hx_71) ?_
         · intro wq hSq
           go_simp
         try simp only [Act.put,qzA,qz0,qzS]
         refine wpAnyH_ready (rs:=[12]) (by kernel_rfl) (by simp) (AllReadyH.cons rfl (fun K hK=>?_) AllReadyH.nil)
         refine step_store_box0 (cs:=hv (after h (xs ++ ys))) rfl rfl _ _ _ rfl xw_79 rfl rfl size8 rfl (hv_one _) ?_
         intro W80 hW80
         have hx_81:Box W80 (w.heap.size) (hashV h (.slice a1 xs.length c1) n):=hW80.past _ _ (by omega) hx_71
         have hr_82:Box W80 (w.heap.size + 1) (zero10):=hW80.past _ _ (by omega) hr_72
         have B_86:Below w.heap.size w W80:=hW80.below _ _ (by omega) B_76
         have sl_87:Box W80 (W0.heap.size) ([.slice a1 xs.length c1,.slice a2 ys.length c2]):=hW80.past _ _ (by omega) sl_77
         have xw_90:=hW80.box
         have oo80:=Lib.hid (IsL.stored (Hid.out hq69) hW80 (fun g hg=>by have r:=(Hid.out rg16) g (by rw [← Hid.out HE69];exact hg);omega))
         refine hK.out _ _ (hx_81) (fun _=>?_);clear hK K
         refine takeH 13 7 (v:=v69) rfl (by rfl) (by kernel_rfl) (by kernel_rfl) (by kernel_rfl) (fun _ _ _ h=>h) (Or.inl ⟨by rfl,?_⟩) (hx_81) ?_
         · intro wq hSq
           go_simp
         try simp only [Act.put,qzA,qz0,qzS]
         refine wpAnyH_done (by kernel_rfl) ?_ _
         go_wp2_with fail
         go_meet
         exact ⟨_,rfl,by omega,xw_90,Hid.out oo80,hx_81,hr_82,B_86⟩
     · skip
       go_simp
       refine hK.out _ _ (Box.alloc hx_10 _) (fun _=>?_);clear hK K
       refine F_alloc (F:=fun W=>wpAnyH _ _ _ _ _ _ _ _ W) (zero8) rfl ?_
       intro W93 hx93 hb93
       have sz94:=Below.size hb93
       have hx_95:Box W93 (w.heap.size) (hashV h (.slice a1 xs.length c1) n):=Box.below hx_10 hb93
       have hr_96:Box W93 (w.heap.size + 1) (zero10):=Box.below hr_11 hb93
       have i1_97:=Lib.hid (IsL.below (Hid.out i1_12) hb93)
       have i2_98:=Lib.hid (IsL.below (Hid.out i2_13) hb93)
       have laid_99:=Lib.hid (LaidS.below (Hid.out laid_14) hb93)
       have B_100:Below w.heap.size w W93:=below_thru B_15 hb93
       have sl_101:Box W93 (W0.heap.size) ([.slice a1 xs.length c1,.slice a2 ys.length c2]):=Box.below hx8 hb93
       have lt93:=hx93.lt
       refine wpAnyH_ready (rs:=[6]) (by kernel_rfl) (by simp) (AllReadyH.cons rfl (fun K hK=>?_) AllReadyH.nil)
       go_simp
       refine (concat_any _ _ _ xs ys _ (sl_101.c 0 _ rfl) (sl_101.c 1 _ rfl) (Hid.out i1_97) (Hid.out i2_98) hsum).mono ?_
       rintro e W102 ⟨v102,rfl,ho102⟩
       have rg102:=Lib.hid (OwnL.range ho102)
       have hq102:=Lib.hid (OwnL.is ho102)
       have hb102:=ho102.2
       clear ho102
       have sz103:=Below.size hb102
       have hx_104:Box W102 (w.heap.size) (hashV h (.slice a1 xs.length c1) n):=Box.below hx_95 hb102
       have hr_105:Box W102 (w.heap.size + 1) (zero10):=Box.below hr_96 hb102
       have i1_106:=Lib.hid (IsL.below (Hid.out i1_97) hb102)
       have i2_107:=Lib.hid (IsL.below (Hid.out i2_98) hb102)
       have laid_108:=Lib.hid (LaidS.below (Hid.out laid_99) hb102)
       have B_109:Below w.heap.size w W102:=below_thru B_100 hb102
       have sl_110:Box W102 (W0.heap.size) ([.slice a1 xs.length c1,.slice a2 ys.length c2]):=Box.below sl_101 hb102
       have xw_111:Box W102 (W8.heap.size) (zero8):=Box.below hx93 hb102
       refine hK.out _ _ (hx_104) (fun _=>?_);clear hK K
       refine wpAnyH_ready (rs:=[7]) (by kernel_rfl) (by simp) (AllReadyH.cons rfl (fun K hK=>?_) AllReadyH.nil)
       go_simp
       refine (takeIn_any h _ (xs ++ ys) _ (Hid.out hq102) (Hid.out hbytes) (Hid.out laid_108)).mono ?_
       rintro e W112 ⟨v112,rfl,hl112,he112,hb112⟩
       have hq112:=Lib.hid hl112
       clear hl112
       have HE112:=Lib.hid he112
       clear he112
       have sz113:=Below.size hb112
       have hx_114:Box W112 (w.heap.size) (hashV h (.slice a1 xs.length c1) n):=Box.below hx_104 hb112
       have hr_115:Box W112 (w.heap.size + 1) (zero10):=Box.below hr_105 hb112
       have i1_116:=Lib.hid (IsL.below (Hid.out i1_106) hb112)
       have i2_117:=Lib.hid (IsL.below (Hid.out i2_107) hb112)
       have laid_118:=Lib.hid (LaidS.below (Hid.out laid_108) hb112)
       have B_119:Below w.heap.size w W112:=below_thru B_109 hb112
       have sl_120:Box W112 (W0.heap.size) ([.slice a1 xs.length c1,.slice a2 ys.length c2]):=Box.below sl_110 hb112
       have xw_121:Box W112 (W8.heap.size) (zero8):=Box.below xw_111 hb112
       have cat_122:=Lib.hid (IsL.below (Hid.out hq102) hb112)
       refine hK.out _ _ (hx_114) (fun _=>?_);clear hK K
       refine takeH 8 19 (v:=.tuple #[.agg (hv (after h (xs ++ ys))).toArray,v112]) rfl (by rfl) (by kernel_rfl) (by kernel_rfl) (by kernel_rfl) (fun _ _ _ h=>h) (Or.inl ⟨by rfl,?_⟩) (hx_114) ?_
       · intro wq hSq
         go_simp
       try simp only [Act.put,qzA,qz0,qzS]
       refine takeH 9 28 (v:=.agg (hv (after h (xs ++ ys))).toArray) rfl (by rfl) (by kernel_rfl) (by kernel_rfl) (by kernel_rfl) (fun _ _ _ h=>h) (Or.inl ⟨by rfl,?_⟩) (hx_114) ?_
       · intro wq hSq
         go_simp
       try simp only [Act.put,qzA,qz0,qzS]
       refine takeH 10 29 (v:=v112) rfl (by rfl) (by kernel_rfl) (by kernel_rfl) (by kernel_rfl) (fun _ _ _ h=>h) (Or.inl ⟨by rfl,?_⟩) (hx_114) ?_
       · intro wq hSq
         go_simp
       try simp only [Act.put,qzA,qz0,qzS]
       refine wpAnyH_ready (rs:=[12]) (by kernel_rfl) (by simp) (AllReadyH.cons rfl (fun K hK=>?_) AllReadyH.nil)
       refine step_store_box0 (cs:=hv (after h (xs ++ ys))) rfl rfl _ _ _ rfl xw_121 rfl rfl size8 rfl (hv_one _) ?_
       intro W123 hW123
       have hx_124:Box W123 (w.heap.size) (hashV h (.slice a1 xs.length c1) n):=hW123.past _ _ (by omega) hx_114
       have hr_125:Box W123 (w.heap.size + 1) (zero10):=hW123.past _ _ (by omega) hr_115
       have B_129:Below w.heap.size w W123:=hW123.below _ _ (by omega) B_119
       have sl_130:Box W123 (W0.heap.size) ([.slice a1 xs.length c1,.slice a2 ys.length c2]):=hW123.past _ _ (by omega) sl_120
       have xw_131:=hW123.box
       have oo123:=Lib.hid (IsL.stored (Hid.out hq112) hW123 (fun g hg=>by have r:=(Hid.out rg102) g (by rw [← Hid.out HE112];exact hg);omega))
       refine hK.out _ _ (hx_124) (fun _=>?_);clear hK K
       refine takeH 13 7 (v:=v112) rfl (by rfl) (by kernel_rfl) (by kernel_rfl) (by kernel_rfl) (fun _ _ _ h=>h) (Or.inl ⟨by rfl,?_⟩) (hx_124) ?_
       · intro wq hSq
         go_simp
       try simp only [Act.put,qzA,qz0,qzS]
       refine wpAnyH_done (by kernel_rfl) ?_ _
       go_wp2_with fail
       go_meet
       exact ⟨_,rfl,by omega,xw_131,Hid.out oo123,hx_124,hr_125,B_129⟩
   · skip
     go_simp
     refine hK.out _ _ (Box.alloc hx_2 _) (fun _=>?_);clear hK K
     refine F_alloc (F:=fun W=>wpAnyH _ _ _ _ _ _ _ _ W) (zero8) rfl ?_
     intro W136 hx136 hb136
     have sz137:=Below.size hb136
     have hx_138:Box W136 (w.heap.size) (hashV h (.slice a1 xs.length c1) n):=Box.below hx_2 hb136
     have hr_139:Box W136 (w.heap.size + 1) (zero10):=Box.below hr_3 hb136
     have i1_140:=Lib.hid (IsL.below (Hid.out i1_4) hb136)
     have i2_141:=Lib.hid (IsL.below (Hid.out i2_5) hb136)
     have laid_142:=Lib.hid (LaidS.below (Hid.out laid_6) hb136)
     have B_143:Below w.heap.size w W136:=below_thru B_7 hb136
     have lt136:=hx136.lt
     refine wpAnyH_ready (rs:=[5]) (by kernel_rfl) (by simp) (AllReadyH.cons rfl (fun K hK=>?_) AllReadyH.nil)
     go_simp
     refine hK.out _ _ (Box.alloc hx_138 _) (fun _=>?_);clear hK K
     refine F_alloc (F:=fun W=>wpAnyH _ _ _ _ _ _ _ _ W) ([.slice a1 xs.length c1,.slice a2 ys.length c2]) rfl ?_
     intro W144 hx144 hb144
     have sz145:=Below.size hb144
     have hx_146:Box W144 (w.heap.size) (hashV h (.slice a1 xs.length c1) n):=Box.below hx_138 hb144
     have hr_147:Box W144 (w.heap.size + 1) (zero10):=Box.below hr_139 hb144
     have i1_148:=Lib.hid (IsL.below (Hid.out i1_140) hb144)
     have i2_149:=Lib.hid (IsL.below (Hid.out i2_141) hb144)
     have laid_150:=Lib.hid (LaidS.below (Hid.out laid_142) hb144)
     have B_151:Below w.heap.size w W144:=below_thru B_143 hb144
     have xw_152:Box W144 (W0.heap.size) (zero8):=Box.below hx136 hb144
     have lt144:=hx144.lt
     refine wpAnyH_ready (rs:=[6]) (by kernel_rfl) (by simp) (AllReadyH.cons rfl (fun K hK=>?_) AllReadyH.nil)
     go_simp
     refine (concat_any _ _ _ xs ys _ (hx144.c 0 _ rfl) (hx144.c 1 _ rfl) (Hid.out i1_148) (Hid.out i2_149) hsum).mono ?_
     rintro e W153 ⟨v153,rfl,ho153⟩
     have rg153:=Lib.hid (OwnL.range ho153)
     have hq153:=Lib.hid (OwnL.is ho153)
     have hb153:=ho153.2
     clear ho153
     have sz154:=Below.size hb153
     have hx_155:Box W153 (w.heap.size) (hashV h (.slice a1 xs.length c1) n):=Box.below hx_146 hb153
     have hr_156:Box W153 (w.heap.size + 1) (zero10):=Box.below hr_147 hb153
     have i1_157:=Lib.hid (IsL.below (Hid.out i1_148) hb153)
     have i2_158:=Lib.hid (IsL.below (Hid.out i2_149) hb153)
     have laid_159:=Lib.hid (LaidS.below (Hid.out laid_150) hb153)
     have B_160:Below w.heap.size w W153:=below_thru B_151 hb153
     have xw_161:Box W153 (W0.heap.size) (zero8):=Box.below xw_152 hb153
     have sl_162:Box W153 (W136.heap.size) ([.slice a1 xs.length c1,.slice a2 ys.length c2]):=Box.below hx144 hb153
     refine hK.out _ _ (hx_155) (fun _=>?_);clear hK K
     refine wpAnyH_ready (rs:=[7]) (by kernel_rfl) (by simp) (AllReadyH.cons rfl (fun K hK=>?_) AllReadyH.nil)
     go_simp
     refine (takeIn_any h _ (xs ++ ys) _ (Hid.out hq153) (Hid.out hbytes) (Hid.out laid_159)).mono ?_
     rintro e W163 ⟨v163,rfl,hl163,he163,hb163⟩
     have hq163:=Lib.hid hl163
     clear hl163
     have HE163:=Lib.hid he163
     clear he163
     have sz164:=Below.size hb163
     have hx_165:Box W163 (w.heap.size) (hashV h (.slice a1 xs.length c1) n):=Box.below hx_155 hb163
     have hr_166:Box W163 (w.heap.size + 1) (zero10):=Box.below hr_156 hb163
     have i1_167:=Lib.hid (IsL.below (Hid.out i1_157) hb163)
     have i2_168:=Lib.hid (IsL.below (Hid.out i2_158) hb163)
     have laid_169:=Lib.hid (LaidS.below (Hid.out laid_159) hb163)
     have B_170:Below w.heap.size w W163:=below_thru B_160 hb163
     have xw_171:Box W163 (W0.heap.size) (zero8):=Box.below xw_161 hb163
     have sl_172:Box W163 (W136.heap.size) ([.slice a1 xs.length c1,.slice a2 ys.length c2]):=Box.below sl_162 hb163
     have cat_173:=Lib.hid (IsL.below (Hid.out hq153) hb163)
     refine hK.out _ _ (hx_165) (fun _=>?_);clear hK K
     refine takeH 8 19 (v:=.tuple #[.agg (hv (after h (xs ++ ys))).toArray,v163]) rfl (by rfl) (by kernel_rfl) (by kernel_rfl) (by kernel_rfl) (fun _ _ _ h=>h) (Or.inl ⟨by rfl,?_⟩) (hx_165) ?_
     · intro wq hSq
       go_simp
     try simp only [Act.put,qzA,qz0,qzS]
     refine takeH 9 28 (v:=.agg (hv (after h (xs ++ ys))).toArray) rfl (by rfl) (by kernel_rfl) (by kernel_rfl) (by kernel_rfl) (fun _ _ _ h=>h) (Or.inl ⟨by rfl,?_⟩) (hx_165) ?_
     · intro wq hSq
       go_simp
     try simp only [Act.put,qzA,qz0,qzS]
     refine takeH 10 29 (v:=v163) rfl (by rfl) (by kernel_rfl) (by kernel_rfl) (by kernel_rfl) (fun _ _ _ h=>h) (Or.inl ⟨by rfl,?_⟩) (hx_165) ?_
     · intro wq hSq
       go_simp
     try simp only [Act.put,qzA,qz0,qzS]
     refine wpAnyH_ready (rs:=[12]) (by kernel_rfl) (by simp) (AllReadyH.cons rfl (fun K hK=>?_) AllReadyH.nil)
     refine step_store_box0 (cs:=hv (after h (xs ++ ys))) rfl rfl _ _ _ rfl xw_171 rfl rfl size8 rfl (hv_one _) ?_
     intro W174 hW174
     have hx_175:Box W174 (w.heap.size) (hashV h (.slice a1 xs.length c1) n):=hW174.past _ _ (by omega) hx_165
     have hr_176:Box W174 (w.heap.size + 1) (zero10):=hW174.past _ _ (by omega) hr_166
     have B_180:Below w.heap.size w W174:=hW174.below _ _ (by omega) B_170
     have xw_181:=hW174.box
     have sl_182:Box W174 (W136.heap.size) ([.slice a1 xs.length c1,.slice a2 ys.length c2]):=hW174.past _ _ (by omega) sl_172
     have oo174:=Lib.hid (IsL.stored (Hid.out hq163) hW174 (fun g hg=>by have r:=(Hid.out rg153) g (by rw [← Hid.out HE163];exact hg);omega))
     refine hK.out _ _ (hx_175) (fun _=>?_);clear hK K
     refine takeH 13 7 (v:=v163) rfl (by rfl) (by kernel_rfl) (by kernel_rfl) (by kernel_rfl) (fun _ _ _ h=>h) (Or.inl ⟨by rfl,?_⟩) (hx_175) ?_
     · intro wq hSq
       go_simp
     try simp only [Act.put,qzA,qz0,qzS]
     refine wpAnyH_done (by kernel_rfl) ?_ _
     go_wp2_with fail
     go_meet
     exact ⟨_,rfl,by omega,xw_181,Hid.out oo174,hx_175,hr_176,B_180⟩
 case rest =>
   clear hxh hxr HI1 HL1 hB1
   obtain ⟨bw,rfl,hbw,hxw,hout,hxh,hxr,hB⟩:=hcut
   obtain ⟨vq,rfl⟩:∃ u:Value,u=u7:=⟨_,rfl⟩
   obtain ⟨w2,rfl⟩:∃ u:World,u=wc:=⟨_,rfl⟩
   have hsz:=hB.size
   have hz2:=hxr.lt
   have HO:=Lib.hid hout
   clear hout
   go_upto_region 6 with fail
   obtain ⟨T,hTe⟩:∃ T,T=after h (xs ++ ys):=⟨_,rfl⟩
   obtain ⟨rs,hre⟩:∃ rs,rs=restOf (xs ++ ys):=⟨_,rfl⟩
   rw [← hTe] at hxw
   rw [← hre] at HO
   have HTE:=Lib.hid hTe
   have HRE:=Lib.hid hre
   have hrl:=restOf_len (xs ++ ys)
   rw [← hre] at hrl
   have hrl2:rs.length≤1000000000:=by omega
   clear hTe hre hrl
   have E:IntKind.i64.wrap (n + (ys.length:Int))=n + (ys.length:Int):=IntWalk.i64_in _ (by omega)
   refine wp_region_held_drew (S:=fun w'=>Box w' w.heap.size (hashV h (.slice a1 xs.length c1) n)∧Box w' bw (hv T)) (by kernel_rfl) ⟨Box.drew hxh,Box.drew hxw⟩ (fun _=>?_)
   refine F_drew (F:=fun W=>wpAnyH _ _ _ _ _ _ _ _ W) ?_
   intro V0 hb0
   have sz1:=Below.size hb0
   have hx_2:Box V0 (w.heap.size) (hashV h (.slice a1 xs.length c1) n):=Box.below hxh hb0
   have hr_3:Box V0 (w.heap.size + 1) (zero10):=Box.below hxr hb0
   have xw_4:Box V0 (bw) (hv T):=Box.below hxw hb0
   have out_5:=Lib.hid (IsL.below (Hid.out HO) hb0)
   have B_6:Below w.heap.size w V0:=below_thru hB hb0
   clear hxh hxr HO hB hb0 hxw
   refine takeH 0 30 (v:=.agg #[.int .u32 (un T.a),.int .u32 (un T.b),.int .u32 (un T.c),.int .u32 (un T.d),.int .u32 (un T.e),.int .u32 (un T.f),.int .u32 (un T.g),.int .u32 (un T.z)]) rfl (by rfl) (by kernel_rfl) (by kernel_rfl) (by kernel_rfl) (fun _ _ _ h=>h) (yieldsIf_load_mid (by rfl) _ _ rfl _ 0 rfl (hv T) _ (fun wq hq=>Box.range hq.2) Tryz.underlying164 rfl size8) (⟨hx_2,xw_4⟩) ?_
   try simp only [Act.put,qzA,qz0,qzS]
   refine takeH 1 31 (v:=vq) rfl (by rfl) (by kernel_rfl) (by kernel_rfl) (by kernel_rfl) (fun _ _ _ h=>h) (Or.inl ⟨by rfl,?_⟩) (⟨hx_2,xw_4⟩) ?_
   · intro wq hSq
     go_simp
   try simp only [Act.put,qzA,qz0,qzS]
   refine takeH 3 33 (v:=.pointer (some ⟨w.heap.size,9,none⟩)) rfl (by rfl) (by kernel_rfl) (by kernel_rfl) (by kernel_rfl) (fun _ _ _ h=>h) (Or.inl ⟨by rfl,?_⟩) (⟨hx_2,xw_4⟩) ?_
   · intro wq hSq
     go_simp
   try simp only [Act.put,qzA,qz0,qzS]
   refine takeH 4 34 (v:=.int .i64 n) rfl (by rfl) (by kernel_rfl) (by kernel_rfl) (by kernel_rfl) (fun _ _ _ h=>h) (Or.inl ⟨by rfl,?_⟩) (⟨hx_2,xw_4⟩) ?_
   · intro wq hSq
     have cq:=hSq.1.c 9 _ rfl
     go_simp
   try simp only [Act.put,qzA,qz0,qzS]
   refine takeH 5 35 (v:=.slice a2 ys.length c2) rfl (by rfl) (by kernel_rfl) (by kernel_rfl) (by kernel_rfl) (fun _ _ _ h=>h) (Or.inl ⟨by rfl,?_⟩) (⟨hx_2,xw_4⟩) ?_
   · intro wq hSq
     go_simp
   try simp only [Act.put,qzA,qz0,qzS]
   refine takeH 6 36 (v:=.int .i64 ys.length) rfl (by rfl) (by kernel_rfl) (by kernel_rfl) (by kernel_rfl) (fun _ _ _ h=>h) (Or.inl ⟨by rfl,?_⟩) (⟨hx_2,xw_4⟩) ?_
   · intro wq hSq
     go_simp
   try simp only [Act.put,qzA,qz0,qzS]
   refine takeH 7 37 (v:=.int .i64 (n + ys.length)) rfl (by rfl) (by kernel_rfl) (by kernel_rfl) (by kernel_rfl) (fun _ _ _ h=>h) (Or.inl ⟨by rfl,?_⟩) (⟨hx_2,xw_4⟩) ?_
   · intro wq hSq
     go_simp
   try simp only [Act.put,qzA,qz0,qzS]
   refine wpAnyH_ready (rs:=[2]) (by kernel_rfl) (by simp) (AllReadyH.cons rfl (fun K hK=>?_) AllReadyH.nil)
   go_simp
   refine (clone_any _ rs _ (Hid.out out_5) hrl2).mono ?_
   rintro e W7 ⟨vc7,rfl,ho7⟩
   obtain ⟨ac7,cc7,ec7,_⟩:=OwnL.is ho7
   subst ec7
   have hw7:=Lib.hid ho7
   have hb7:=ho7.2
   clear ho7
   have sz8:=Below.size hb7
   have hx_9:Box W7 (w.heap.size) (hashV h (.slice a1 xs.length c1) n):=Box.below hx_2 hb7
   have hr_10:Box W7 (w.heap.size + 1) (zero10):=Box.below hr_3 hb7
   have xw_11:Box W7 (bw) (hv T):=Box.below xw_4 hb7
   have out_12:=Lib.hid (IsL.below (Hid.out out_5) hb7)
   have B_13:Below w.heap.size w W7:=below_thru B_6 hb7
   refine hK.out _ _ (⟨hx_9,xw_11⟩) (fun _=>?_);clear hK K
   refine takeH 8 38 (v:=.agg #[.int .u32 (un T.a),.int .u32 (un T.b),.int .u32 (un T.c),.int .u32 (un T.d),.int .u32 (un T.e),.int .u32 (un T.f),.int .u32 (un T.g),.int .u32 (un T.z),.slice ac7 rs.length cc7,.int .i64 (n + ys.length)]) rfl (by rfl) (by kernel_rfl) (by kernel_rfl) (by kernel_rfl) (fun _ _ _ h=>h) (Or.inl ⟨by rfl,?_⟩) (⟨hx_9,xw_11⟩) ?_
   · intro wq hSq
     go_simp
   try simp only [Act.put,qzA,qz0,qzS]
   refine wpAnyH_ready (rs:=[9]) (by kernel_rfl) (by simp) (AllReadyH.cons rfl (fun K hK=>?_) AllReadyH.nil)
   refine step_store_box0 (cs:=_) rfl rfl _ _ _ rfl hr_10 rfl rfl size10 rfl (hash_one _ _ _ _ _) ?_
   intro W14 hW14
   have hx_15:Box W14 (w.heap.size) (hashV h (.slice a1 xs.length c1) n):=hW14.past _ _ (by omega) hx_9
   have hr_16:=hW14.box
   have xw_17:Box W14 (bw) (hv T):=hW14.past _ _ (by omega) xw_11
   have B_19:Below w.heap.size w W14:=hW14.below _ _ (by omega) B_13
   refine hK.out _ _ (⟨hx_15,xw_17⟩) (fun _=>?_);clear hK K
   refine takeH 10 5 (v:=.int .i64 0) rfl (by rfl) (by kernel_rfl) (by kernel_rfl) (by kernel_rfl) (fun _ _ _ h=>h) (Or.inl ⟨by rfl,?_⟩) (⟨hx_15,xw_17⟩) ?_
   · intro wq hSq
     go_simp
   try simp only [Act.put,qzA,qz0,qzS]
   refine wpAnyH_done (by kernel_rfl) ?_ _
   go_wp2_with fail
   rw [← HTE.out,← HRE.out]
   exact bodyPost_ret (v:=.tuple #[.agg (hashV T (.slice ac7 rs.length cc7) (n + ys.length)).toArray,.int .i64 0]) (results_box2 Tryz.results92 hr_16 rfl rfl Tryz.underlying166 rfl size10) rfl ⟨_,rfl,owns_mono (OwnL.stored (Hid.out hw7) hW14 (by omega)) (by omega),B_19⟩
end Go.Proofs.YtnfejdfjlnpldaaGreatDoor
namespace Go.Proofs.YtnfejdfjlnpldaaGreatDoor
open Go.RowKit
def zero32:List Value:=(List.replicate 32 (0:Int)).map (Value.int .u8)
theorem digest_is {h:W8} {D:List Int} (w:World) (hD:Hid (dig h=D)):Calls Tryz.prog 105 #[.agg (hv h).toArray] w fun e w'=>e=.returned (dv D)∧Below w.heap.size w w':=by
 rw [← hD.out];exact digest_any h w
set_option maxRecDepth 100000 in
set_option maxHeartbeats 3200000 in
theorem finish_ok (h:W8) (a1:Option Addr) (c1:Nat) (xs:List Int) (N:Nat) (w:World) (h1:IsL w .u8 (.slice a1 xs.length c1) xs) (hN:N≤128000) (hvd:Hid (vldH (N:Int) xs.length=true))
   (hx:bytesL xs) (hL:LaidS w) :
   Calls Tryz.prog 94 #[.agg #[.int .u32 (un h.a),.int .u32 (un h.b),.int .u32 (un h.c),.int .u32 (un h.d),.int .u32 (un h.e),.int .u32 (un h.f),.int .u32 (un h.g),.int .u32 (un h.z),.slice a1 xs.length c1,.int .i64 (N:Int)]] w fun e w'=>e=.returned (.tuple #[dv (dig (after h (xs ++ padL N))),.int .i64 0])∧Below w.heap.size w w':=by
 have hlen:(xs.length:Int)=(N:Int) % 64:=by
   have:=hvd.out
   simp only [vldH,Bool.and_eq_true,decide_eq_true_eq] at this
   exact this.2
 have hsum:xs.length + (padL N).length≤1000000000:=by rw [padL_len];omega
 have hlx:xs.length≤9223372036854775807:=by omega
 have hbytes:=Lib.hid (hx.append (padL_bytes N))
 have HI1:=Lib.hid h1
 have HL1:=Lib.hid hL
 clear hx h1 hL hlen
 go_enter Tryz.func94,Tryz.ntmps94
 go_wp2_with fail
 refine (valid_any h a1 xs.length c1 (N:Int) true hvd _ (by omega) (by omega) hlx).mono ?_
 rintro e w1 ⟨rfl,hb⟩
 have hB1:Below w.heap.size w w1:=below_thru (by go_grown) hb
 have hxr:Box w1 (w.heap.size + 1) zero32:=Box.below (Box.newc rfl (by simp)) hb
 have hxh:Box w1 w.heap.size (hashV h (.slice a1 xs.length c1) (N:Int)):=Box.below (Box.alloc (Box.newc rfl rfl) _) hb
 have HI1:=Lib.hid (IsL.below HI1.out hB1)
 have HL1:=Lib.hid (LaidS.below HL1.out hB1)
 have hz1:=hxr.lt
 clear hb
 go_upto_region 3 with fail
 go_cut [4] (fun p wx=>∃ (b:Nat),p=.pointer (some ⟨b,0,none⟩)∧w.heap.size + 1 < b∧Box wx b (hv (after h (xs ++ padL N)))∧Box wx (w.heap.size + 1) zero32∧Below w.heap.size w wx)
 case first =>
   refine wp_region_held_drew (S:=fun w'=>Box w' w.heap.size (hashV h (.slice a1 xs.length c1) (N:Int))) (by kernel_rfl) (Box.drew hxh) (fun _=>?_)
   refine F_drew (F:=fun W=>wpAnyH _ _ _ _ _ _ _ _ W) ?_
   intro W0 hb0
   have sz1:=Below.size hb0
   have hx_2:Box W0 (w.heap.size) (hashV h (.slice a1 xs.length c1) (N:Int)):=Box.below hxh hb0
   have hr_3:Box W0 (w.heap.size + 1) (zero32):=Box.below hxr hb0
   have i1_4:=Lib.hid (IsL.below (Hid.out HI1) hb0)
   have laid_5:=Lib.hid (LaidS.below (Hid.out HL1) hb0)
   have B_6:Below w.heap.size w W0:=below_thru hB1 hb0
   clear hxh hxr HI1 HL1 hB1 hb0
   refine takeH 0 11 (v:=.pointer (some ⟨w.heap.size,0,none⟩)) rfl (by rfl) (by kernel_rfl) (by kernel_rfl) (by kernel_rfl) (fun _ _ _ h=>h) (Or.inl ⟨by rfl,?_⟩) (hx_2) ?_
   · intro wq hSq
     go_simp
   try simp only [Act.put,qzA,qz0,qzS]
   refine takeH 1 12 (v:=.agg (hv h).toArray) rfl (by rfl) (by kernel_rfl) (by kernel_rfl) (by kernel_rfl) (fun _ _ _ h=>h) (yieldsIf_load_mid (by rfl) _ _ rfl _ 0 rfl (hv h) _ (fun wq hq=>Box.left (l:=hv h) (r:=[.slice a1 xs.length c1,.int .i64 (N:Int)]) hq) Tryz.underlying164 rfl size8) (hx_2) ?_
   try simp only [Act.put,qzA,qz0,qzS]
   refine takeH 2 13 (v:=.pointer (some ⟨w.heap.size,8,none⟩)) rfl (by rfl) (by kernel_rfl) (by kernel_rfl) (by kernel_rfl) (fun _ _ _ h=>h) (Or.inl ⟨by rfl,?_⟩) (hx_2) ?_
   · intro wq hSq
     go_simp
   try simp only [Act.put,qzA,qz0,qzS]
   refine takeH 3 14 (v:=.slice a1 xs.length c1) rfl (by rfl) (by kernel_rfl) (by kernel_rfl) (by kernel_rfl) (fun _ _ _ h=>h) (Or.inl ⟨by rfl,?_⟩) (hx_2) ?_
   · intro wq hSq
     have cq:=hSq.c 8 _ rfl
     go_simp
   try simp only [Act.put,qzA,qz0,qzS]
   refine takeH 4 15 (v:=.pointer (some ⟨w.heap.size,9,none⟩)) rfl (by rfl) (by kernel_rfl) (by kernel_rfl) (by kernel_rfl) (fun _ _ _ h=>h) (Or.inl ⟨by rfl,?_⟩) (hx_2) ?_
   · intro wq hSq
     go_simp
   try simp only [Act.put,qzA,qz0,qzS]
   refine takeH 5 16 (v:=.int .i64 (N:Int)) rfl (by rfl) (by kernel_rfl) (by kernel_rfl) (by kernel_rfl) (fun _ _ _ h=>h) (Or.inl ⟨by rfl,?_⟩) (hx_2) ?_
   · intro wq hSq
     have cq:=hSq.c 9 _ rfl
     go_simp
   try simp only [Act.put,qzA,qz0,qzS]
   refine wpAnyH_ready (rs:=[6,13]) (by kernel_rfl) (by simp) (AllReadyH.cons rfl (fun K hK=>?_) (AllReadyH.cons rfl (fun K hK=>?_) AllReadyH.nil))
   · skip
     go_simp
     refine (padding_any N _ hN).mono ?_
     rintro e W7 ⟨vp7,rfl,hp7,hb7⟩
     obtain ⟨pa7,pc7,ep7,_⟩:=id hp7
     subst ep7
     have hi7:=Lib.hid hp7
     clear hp7
     have sz8:=Below.size hb7
     have hx_9:Box W7 (w.heap.size) (hashV h (.slice a1 xs.length c1) (N:Int)):=Box.below hx_2 hb7
     have hr_10:Box W7 (w.heap.size + 1) (zero32):=Box.below hr_3 hb7
     have i1_11:=Lib.hid (IsL.below (Hid.out i1_4) hb7)
     have laid_12:=Lib.hid (LaidS.below (Hid.out laid_5) hb7)
     have B_13:Below w.heap.size w W7:=below_thru B_6 hb7
     refine hK.out _ _ (hx_9) (fun _=>?_);clear hK K
     refine wpAnyH_ready (rs:=[7,13]) (by kernel_rfl) (by simp) (AllReadyH.cons rfl (fun K hK=>?_) (AllReadyH.cons rfl (fun K hK=>?_) AllReadyH.nil))
     · skip
       go_simp
       refine hK.out _ _ (Box.alloc hx_9 _) (fun _=>?_);clear hK K
       refine F_alloc (F:=fun W=>wpAnyH _ _ _ _ _ _ _ _ W) ([.slice a1 xs.length c1,.slice pa7 (padL N).length pc7]) rfl ?_
       intro W14 hx14 hb14
       have sz15:=Below.size hb14
       have hx_16:Box W14 (w.heap.size) (hashV h (.slice a1 xs.length c1) (N:Int)):=Box.below hx_9 hb14
       have hr_17:Box W14 (w.heap.size + 1) (zero32):=Box.below hr_10 hb14
       have i1_18:=Lib.hid (IsL.below (Hid.out i1_11) hb14)
       have laid_19:=Lib.hid (LaidS.below (Hid.out laid_12) hb14)
       have B_20:Below w.heap.size w W14:=below_thru B_13 hb14
       have i2_21:=Lib.hid (IsL.below (Hid.out hi7) hb14)
       have lt14:=hx14.lt
       refine wpAnyH_ready (rs:=[8,13]) (by kernel_rfl) (by simp) (AllReadyH.cons rfl (fun K hK=>?_) (AllReadyH.cons rfl (fun K hK=>?_) AllReadyH.nil))
       · skip
         go_simp
         refine (concat_any _ _ _ xs (padL N) _ (hx14.c 0 _ rfl) (hx14.c 1 _ rfl) (Hid.out i1_18) (Hid.out i2_21) hsum).mono ?_
         rintro e W22 ⟨v22,rfl,ho22⟩
         have rg22:=Lib.hid (OwnL.range ho22)
         have hq22:=Lib.hid (OwnL.is ho22)
         have hb22:=ho22.2
         clear ho22
         have sz23:=Below.size hb22
         have hx_24:Box W22 (w.heap.size) (hashV h (.slice a1 xs.length c1) (N:Int)):=Box.below hx_16 hb22
         have hr_25:Box W22 (w.heap.size + 1) (zero32):=Box.below hr_17 hb22
         have i1_26:=Lib.hid (IsL.below (Hid.out i1_18) hb22)
         have laid_27:=Lib.hid (LaidS.below (Hid.out laid_19) hb22)
         have B_28:Below w.heap.size w W22:=below_thru B_20 hb22
         have i2_29:=Lib.hid (IsL.below (Hid.out i2_21) hb22)
         have sl_30:Box W22 (W7.heap.size) ([.slice a1 xs.length c1,.slice pa7 (padL N).length pc7]):=Box.below hx14 hb22
         refine hK.out _ _ (hx_24) (fun _=>?_);clear hK K
         refine wpAnyH_ready (rs:=[9,13]) (by kernel_rfl) (by simp) (AllReadyH.cons rfl (fun K hK=>?_) (AllReadyH.cons rfl (fun K hK=>?_) AllReadyH.nil))
         · skip
           go_simp
           refine (takeIn_any h _ (xs ++ padL N) _ (Hid.out hq22) (Hid.out hbytes) (Hid.out laid_27)).mono ?_
           rintro e W31 ⟨v31,rfl,hl31,he31,hb31⟩
           have hq31:=Lib.hid hl31
           clear hl31
           have HE31:=Lib.hid he31
           clear he31
           have sz32:=Below.size hb31
           have hx_33:Box W31 (w.heap.size) (hashV h (.slice a1 xs.length c1) (N:Int)):=Box.below hx_24 hb31
           have hr_34:Box W31 (w.heap.size + 1) (zero32):=Box.below hr_25 hb31
           have i1_35:=Lib.hid (IsL.below (Hid.out i1_26) hb31)
           have laid_36:=Lib.hid (LaidS.below (Hid.out laid_27) hb31)
           have B_37:Below w.heap.size w W31:=below_thru B_28 hb31
           have i2_38:=Lib.hid (IsL.below (Hid.out i2_29) hb31)
           have sl_39:Box W31 (W7.heap.size) ([.slice a1 xs.length c1,.slice pa7 (padL N).length pc7]):=Box.below sl_30 hb31
           have cat_40:=Lib.hid (IsL.below (Hid.out hq22) hb31)
           refine hK.out _ _ (hx_33) (fun _=>?_);clear hK K
           refine takeH 10 10 (v:=.tuple #[.agg (hv (after h (xs ++ padL N))).toArray,v31]) rfl (by rfl) (by kernel_rfl) (by kernel_rfl) (by kernel_rfl) (fun _ _ _ h=>h) (Or.inl ⟨by rfl,?_⟩) (hx_33) ?_
           · intro wq hSq
             go_simp
           try simp only [Act.put,qzA,qz0,qzS]
           refine takeH 11 21 (v:=.agg (hv (after h (xs ++ padL N))).toArray) rfl (by rfl) (by kernel_rfl) (by kernel_rfl) (by kernel_rfl) (fun _ _ _ h=>h) (Or.inl ⟨by rfl,?_⟩) (hx_33) ?_
           · intro wq hSq
             go_simp
           try simp only [Act.put,qzA,qz0,qzS]
           refine takeH 12 22 (v:=v31) rfl (by rfl) (by kernel_rfl) (by kernel_rfl) (by kernel_rfl) (fun _ _ _ h=>h) (Or.inl ⟨by rfl,?_⟩) (hx_33) ?_
           · intro wq hSq
             go_simp
           try simp only [Act.put,qzA,qz0,qzS]
           refine wpAnyH_ready (rs:=[13]) (by kernel_rfl) (by simp) (AllReadyH.cons rfl (fun K hK=>?_) AllReadyH.nil)
           go_simp
           refine hK.out _ _ (Box.alloc hx_33 _) (fun _=>?_);clear hK K
           refine F_alloc (F:=fun W=>wpAnyH _ _ _ _ _ _ _ _ W) (zero8) rfl ?_
           intro W41 hx41 hb41
           have sz42:=Below.size hb41
           have hx_43:Box W41 (w.heap.size) (hashV h (.slice a1 xs.length c1) (N:Int)):=Box.below hx_33 hb41
           have hr_44:Box W41 (w.heap.size + 1) (zero32):=Box.below hr_34 hb41
           have i1_45:=Lib.hid (IsL.below (Hid.out i1_35) hb41)
           have laid_46:=Lib.hid (LaidS.below (Hid.out laid_36) hb41)
           have B_47:Below w.heap.size w W41:=below_thru B_37 hb41
           have i2_48:=Lib.hid (IsL.below (Hid.out i2_38) hb41)
           have sl_49:Box W41 (W7.heap.size) ([.slice a1 xs.length c1,.slice pa7 (padL N).length pc7]):=Box.below sl_39 hb41
           have cat_50:=Lib.hid (IsL.below (Hid.out cat_40) hb41)
           have out_51:=Lib.hid (IsL.below (Hid.out hq31) hb41)
           have lt41:=hx41.lt
           refine wpAnyH_ready (rs:=[14]) (by kernel_rfl) (by simp) (AllReadyH.cons rfl (fun K hK=>?_) AllReadyH.nil)
           refine step_store_box0 (cs:=hv (after h (xs ++ padL N))) rfl rfl _ _ _ rfl hx41 rfl rfl size8 rfl (hv_one _) ?_
           intro W52 hW52
           have hx_53:Box W52 (w.heap.size) (hashV h (.slice a1 xs.length c1) (N:Int)):=hW52.past _ _ (by omega) hx_43
           have hr_54:Box W52 (w.heap.size + 1) (zero32):=hW52.past _ _ (by omega) hr_44
           have B_57:Below w.heap.size w W52:=hW52.below _ _ (by omega) B_47
           have sl_60:Box W52 (W7.heap.size) ([.slice a1 xs.length c1,.slice pa7 (padL N).length pc7]):=hW52.past _ _ (by omega) sl_49
           have xw_65:=hW52.box
           have oo52:=Lib.hid (IsL.stored (Hid.out out_51) hW52 (fun g hg=>by have r:=(Hid.out rg22) g (by rw [← Hid.out HE31];exact hg);omega))
           refine hK.out _ _ (hx_53) (fun _=>?_);clear hK K
           refine takeH 15 5 (v:=v31) rfl (by rfl) (by kernel_rfl) (by kernel_rfl) (by kernel_rfl) (fun _ _ _ h=>h) (Or.inl ⟨by rfl,?_⟩) (hx_53) ?_
           · intro wq hSq
             go_simp
           try simp only [Act.put,qzA,qz0,qzS]
           refine wpAnyH_done (by kernel_rfl) ?_ _
           go_wp2_with fail
           go_meet
           exact ⟨_,rfl,by omega,xw_65,hr_54,B_57⟩
         · skip
           go_simp
           refine hK.out _ _ (Box.alloc hx_24 _) (fun _=>?_);clear hK K
           refine F_alloc (F:=fun W=>wpAnyH _ _ _ _ _ _ _ _ W) (zero8) rfl ?_
           intro W66 hx66 hb66
           have sz67:=Below.size hb66
           have hx_68:Box W66 (w.heap.size) (hashV h (.slice a1 xs.length c1) (N:Int)):=Box.below hx_24 hb66
           have hr_69:Box W66 (w.heap.size + 1) (zero32):=Box.below hr_25 hb66
           have i1_70:=Lib.hid (IsL.below (Hid.out i1_26) hb66)
           have laid_71:=Lib.hid (LaidS.below (Hid.out laid_27) hb66)
           have B_72:Below w.heap.size w W66:=below_thru B_28 hb66
           have i2_73:=Lib.hid (IsL.below (Hid.out i2_29) hb66)
           have sl_74:Box W66 (W7.heap.size) ([.slice a1 xs.length c1,.slice pa7 (padL N).length pc7]):=Box.below sl_30 hb66
           have cat_75:=Lib.hid (IsL.below (Hid.out hq22) hb66)
           have lt66:=hx66.lt
           refine wpAnyH_ready (rs:=[9]) (by kernel_rfl) (by simp) (AllReadyH.cons rfl (fun K hK=>?_) AllReadyH.nil)
           go_simp
           refine (takeIn_any h _ (xs ++ padL N) _ (Hid.out cat_75) (Hid.out hbytes) (Hid.out laid_71)).mono ?_
           rintro e W76 ⟨v76,rfl,hl76,he76,hb76⟩
           have hq76:=Lib.hid hl76
           clear hl76
           have HE76:=Lib.hid he76
           clear he76
           have sz77:=Below.size hb76
           have hx_78:Box W76 (w.heap.size) (hashV h (.slice a1 xs.length c1) (N:Int)):=Box.below hx_68 hb76
           have hr_79:Box W76 (w.heap.size + 1) (zero32):=Box.below hr_69 hb76
           have i1_80:=Lib.hid (IsL.below (Hid.out i1_70) hb76)
           have laid_81:=Lib.hid (LaidS.below (Hid.out laid_71) hb76)
           have B_82:Below w.heap.size w W76:=below_thru B_72 hb76
           have i2_83:=Lib.hid (IsL.below (Hid.out i2_73) hb76)
           have sl_84:Box W76 (W7.heap.size) ([.slice a1 xs.length c1,.slice pa7 (padL N).length pc7]):=Box.below sl_74 hb76
           have cat_85:=Lib.hid (IsL.below (Hid.out cat_75) hb76)
           have xw_86:Box W76 (W22.heap.size) (zero8):=Box.below hx66 hb76
           refine hK.out _ _ (hx_78) (fun _=>?_);clear hK K
           refine takeH 10 10 (v:=.tuple #[.agg (hv (after h (xs ++ padL N))).toArray,v76]) rfl (by rfl) (by kernel_rfl) (by kernel_rfl) (by kernel_rfl) (fun _ _ _ h=>h) (Or.inl ⟨by rfl,?_⟩) (hx_78) ?_
           · intro wq hSq
             go_simp
           try simp only [Act.put,qzA,qz0,qzS]
           refine takeH 11 21 (v:=.agg (hv (after h (xs ++ padL N))).toArray) rfl (by rfl) (by kernel_rfl) (by kernel_rfl) (by kernel_rfl) (fun _ _ _ h=>h) (Or.inl ⟨by rfl,?_⟩) (hx_78) ?_
           · intro wq hSq
             go_simp
           try simp only [Act.put,qzA,qz0,qzS]
           refine takeH 12 22 (v:=v76) rfl (by rfl) (by kernel_rfl) (by kernel_rfl) (by kernel_rfl) (fun _ _ _ h=>h) (Or.inl ⟨by rfl,?_⟩) (hx_78) ?_
           · intro wq hSq
             go_simp
           try simp only [Act.put,qzA,qz0,qzS]
           refine wpAnyH_ready (rs:=[14]) (by kernel_rfl) (by simp) (AllReadyH.cons rfl (fun K hK=>?_) AllReadyH.nil)
           refine step_store_box0 (cs:=hv (after h (xs ++ padL N))) rfl rfl _ _ _ rfl xw_86 rfl rfl size8 rfl (hv_one _) ?_
           intro W87 hW87
           have hx_88:Box W87 (w.heap.size) (hashV h (.slice a1 xs.length c1) (N:Int)):=hW87.past _ _ (by omega) hx_78
           have hr_89:Box W87 (w.heap.size + 1) (zero32):=hW87.past _ _ (by omega) hr_79
           have B_92:Below w.heap.size w W87:=hW87.below _ _ (by omega) B_82
           have sl_95:Box W87 (W7.heap.size) ([.slice a1 xs.length c1,.slice pa7 (padL N).length pc7]):=hW87.past _ _ (by omega) sl_84
           have xw_98:=hW87.box
           have oo87:=Lib.hid (IsL.stored (Hid.out hq76) hW87 (fun g hg=>by have r:=(Hid.out rg22) g (by rw [← Hid.out HE76];exact hg);omega))
           refine hK.out _ _ (hx_88) (fun _=>?_);clear hK K
           refine takeH 15 5 (v:=v76) rfl (by rfl) (by kernel_rfl) (by kernel_rfl) (by kernel_rfl) (fun _ _ _ h=>h) (Or.inl ⟨by rfl,?_⟩) (hx_88) ?_
           · intro wq hSq
             go_simp
           try simp only [Act.put,qzA,qz0,qzS]
           refine wpAnyH_done (by kernel_rfl) ?_ _
           go_wp2_with fail
           go_meet
           exact ⟨_,rfl,by omega,xw_98,hr_89,B_92⟩
       · skip
         go_simp
         refine hK.out _ _ (Box.alloc hx_16 _) (fun _=>?_);clear hK K
         refine F_alloc (F:=fun W=>wpAnyH _ _ _ _ _ _ _ _ W) (zero8) rfl ?_
         intro W101 hx101 hb101
         have sz102:=Below.size hb101
         have hx_103:Box W101 (w.heap.size) (hashV h (.slice a1 xs.length c1) (N:Int)):=Box.below hx_16 hb101
         have hr_104:Box W101 (w.heap.size + 1) (zero32):=Box.below hr_17 hb101
         have i1_105:=Lib.hid (IsL.below (Hid.out i1_18) hb101)
         have laid_106:=Lib.hid (LaidS.below (Hid.out laid_19) hb101)
         have B_107:Below w.heap.size w W101:=below_thru B_20 hb101
         have i2_108:=Lib.hid (IsL.below (Hid.out i2_21) hb101)
         have sl_109:Box W101 (W7.heap.size) ([.slice a1 xs.length c1,.slice pa7 (padL N).length pc7]):=Box.below hx14 hb101
         have lt101:=hx101.lt
         refine wpAnyH_ready (rs:=[8]) (by kernel_rfl) (by simp) (AllReadyH.cons rfl (fun K hK=>?_) AllReadyH.nil)
         go_simp
         refine (concat_any _ _ _ xs (padL N) _ (sl_109.c 0 _ rfl) (sl_109.c 1 _ rfl) (Hid.out i1_105) (Hid.out i2_108) hsum).mono ?_
         rintro e W110 ⟨v110,rfl,ho110⟩
         have rg110:=Lib.hid (OwnL.range ho110)
         have hq110:=Lib.hid (OwnL.is ho110)
         have hb110:=ho110.2
         clear ho110
         have sz111:=Below.size hb110
         have hx_112:Box W110 (w.heap.size) (hashV h (.slice a1 xs.length c1) (N:Int)):=Box.below hx_103 hb110
         have hr_113:Box W110 (w.heap.size + 1) (zero32):=Box.below hr_104 hb110
         have i1_114:=Lib.hid (IsL.below (Hid.out i1_105) hb110)
         have laid_115:=Lib.hid (LaidS.below (Hid.out laid_106) hb110)
         have B_116:Below w.heap.size w W110:=below_thru B_107 hb110
         have i2_117:=Lib.hid (IsL.below (Hid.out i2_108) hb110)
         have sl_118:Box W110 (W7.heap.size) ([.slice a1 xs.length c1,.slice pa7 (padL N).length pc7]):=Box.below sl_109 hb110
         have xw_119:Box W110 (W14.heap.size) (zero8):=Box.below hx101 hb110
         refine hK.out _ _ (hx_112) (fun _=>?_);clear hK K
         refine wpAnyH_ready (rs:=[9]) (by kernel_rfl) (by simp) (AllReadyH.cons rfl (fun K hK=>?_) AllReadyH.nil)
         go_simp
         refine (takeIn_any h _ (xs ++ padL N) _ (Hid.out hq110) (Hid.out hbytes) (Hid.out laid_115)).mono ?_
         rintro e W120 ⟨v120,rfl,hl120,he120,hb120⟩
         have hq120:=Lib.hid hl120
         clear hl120
         have HE120:=Lib.hid he120
         clear he120
         have sz121:=Below.size hb120
         have hx_122:Box W120 (w.heap.size) (hashV h (.slice a1 xs.length c1) (N:Int)):=Box.below hx_112 hb120
         have hr_123:Box W120 (w.heap.size + 1) (zero32):=Box.below hr_113 hb120
         have i1_124:=Lib.hid (IsL.below (Hid.out i1_114) hb120)
         have laid_125:=Lib.hid (LaidS.below (Hid.out laid_115) hb120)
         have B_126:Below w.heap.size w W120:=below_thru B_116 hb120
         have i2_127:=Lib.hid (IsL.below (Hid.out i2_117) hb120)
         have sl_128:Box W120 (W7.heap.size) ([.slice a1 xs.length c1,.slice pa7 (padL N).length pc7]):=Box.below sl_118 hb120
         have xw_129:Box W120 (W14.heap.size) (zero8):=Box.below xw_119 hb120
         have cat_130:=Lib.hid (IsL.below (Hid.out hq110) hb120)
         refine hK.out _ _ (hx_122) (fun _=>?_);clear hK K
         refine takeH 10 10 (v:=.tuple #[.agg (hv (after h (xs ++ padL N))).toArray,v120]) rfl (by rfl) (by kernel_rfl) (by kernel_rfl) (by kernel_rfl) (fun _ _ _ h=>h) (Or.inl ⟨by rfl,?_⟩) (hx_122) ?_
         · intro wq hSq
           go_simp
         try simp only [Act.put,qzA,qz0,qzS]
         refine takeH 11 21 (v:=.agg (hv (after h (xs ++ padL N))).toArray) rfl (by rfl) (by kernel_rfl) (by kernel_rfl) (by kernel_rfl) (fun _ _ _ h=>h) (Or.inl ⟨by rfl,?_⟩) (hx_122) ?_
         · intro wq hSq
           go_simp
         try simp only [Act.put,qzA,qz0,qzS]
         refine takeH 12 22 (v:=v120) rfl (by rfl) (by kernel_rfl) (by kernel_rfl) (by kernel_rfl) (fun _ _ _ h=>h) (Or.inl ⟨by rfl,?_⟩) (hx_122) ?_
         · intro wq hSq
           go_simp
         try simp only [Act.put,qzA,qz0,qzS]
         refine wpAnyH_ready (rs:=[14]) (by kernel_rfl) (by simp) (AllReadyH.cons rfl (fun K hK=>?_) AllReadyH.nil)
         refine step_store_box0 (cs:=hv (after h (xs ++ padL N))) rfl rfl _ _ _ rfl xw_129 rfl rfl size8 rfl (hv_one _) ?_
         intro W131 hW131
         have hx_132:Box W131 (w.heap.size) (hashV h (.slice a1 xs.length c1) (N:Int)):=hW131.past _ _ (by omega) hx_122
         have hr_133:Box W131 (w.heap.size + 1) (zero32):=hW131.past _ _ (by omega) hr_123
         have B_136:Below w.heap.size w W131:=hW131.below _ _ (by omega) B_126
         have sl_139:Box W131 (W7.heap.size) ([.slice a1 xs.length c1,.slice pa7 (padL N).length pc7]):=hW131.past _ _ (by omega) sl_128
         have xw_140:=hW131.box
         have oo131:=Lib.hid (IsL.stored (Hid.out hq120) hW131 (fun g hg=>by have r:=(Hid.out rg110) g (by rw [← Hid.out HE120];exact hg);omega))
         refine hK.out _ _ (hx_132) (fun _=>?_);clear hK K
         refine takeH 15 5 (v:=v120) rfl (by rfl) (by kernel_rfl) (by kernel_rfl) (by kernel_rfl) (fun _ _ _ h=>h) (Or.inl ⟨by rfl,?_⟩) (hx_132) ?_
         · intro wq hSq
           go_simp
         try simp only [Act.put,qzA,qz0,qzS]
         refine wpAnyH_done (by kernel_rfl) ?_ _
         go_wp2_with fail
         go_meet
         exact ⟨_,rfl,by omega,xw_140,hr_133,B_136⟩
     · skip
       go_simp
       refine hK.out _ _ (Box.alloc hx_9 _) (fun _=>?_);clear hK K
       refine F_alloc (F:=fun W=>wpAnyH _ _ _ _ _ _ _ _ W) (zero8) rfl ?_
       intro W145 hx145 hb145
       have sz146:=Below.size hb145
       have hx_147:Box W145 (w.heap.size) (hashV h (.slice a1 xs.length c1) (N:Int)):=Box.below hx_9 hb145
       have hr_148:Box W145 (w.heap.size + 1) (zero32):=Box.below hr_10 hb145
       have i1_149:=Lib.hid (IsL.below (Hid.out i1_11) hb145)
       have laid_150:=Lib.hid (LaidS.below (Hid.out laid_12) hb145)
       have B_151:Below w.heap.size w W145:=below_thru B_13 hb145
       have i2_152:=Lib.hid (IsL.below (Hid.out hi7) hb145)
       have lt145:=hx145.lt
       refine wpAnyH_ready (rs:=[7]) (by kernel_rfl) (by simp) (AllReadyH.cons rfl (fun K hK=>?_) AllReadyH.nil)
       go_simp
       refine hK.out _ _ (Box.alloc hx_147 _) (fun _=>?_);clear hK K
       refine F_alloc (F:=fun W=>wpAnyH _ _ _ _ _ _ _ _ W) ([.slice a1 xs.length c1,.slice pa7 (padL N).length pc7]) rfl ?_
       intro W153 hx153 hb153
       have sz154:=Below.size hb153
       have hx_155:Box W153 (w.heap.size) (hashV h (.slice a1 xs.length c1) (N:Int)):=Box.below hx_147 hb153
       have hr_156:Box W153 (w.heap.size + 1) (zero32):=Box.below hr_148 hb153
       have i1_157:=Lib.hid (IsL.below (Hid.out i1_149) hb153)
       have laid_158:=Lib.hid (LaidS.below (Hid.out laid_150) hb153)
       have B_159:Below w.heap.size w W153:=below_thru B_151 hb153
       have i2_160:=Lib.hid (IsL.below (Hid.out i2_152) hb153)
       have xw_161:Box W153 (W7.heap.size) (zero8):=Box.below hx145 hb153
       have lt153:=hx153.lt
       refine wpAnyH_ready (rs:=[8]) (by kernel_rfl) (by simp) (AllReadyH.cons rfl (fun K hK=>?_) AllReadyH.nil)
       go_simp
       refine (concat_any _ _ _ xs (padL N) _ (hx153.c 0 _ rfl) (hx153.c 1 _ rfl) (Hid.out i1_157) (Hid.out i2_160) hsum).mono ?_
       rintro e W162 ⟨v162,rfl,ho162⟩
       have rg162:=Lib.hid (OwnL.range ho162)
       have hq162:=Lib.hid (OwnL.is ho162)
       have hb162:=ho162.2
       clear ho162
       have sz163:=Below.size hb162
       have hx_164:Box W162 (w.heap.size) (hashV h (.slice a1 xs.length c1) (N:Int)):=Box.below hx_155 hb162
       have hr_165:Box W162 (w.heap.size + 1) (zero32):=Box.below hr_156 hb162
       have i1_166:=Lib.hid (IsL.below (Hid.out i1_157) hb162)
       have laid_167:=Lib.hid (LaidS.below (Hid.out laid_158) hb162)
       have B_168:Below w.heap.size w W162:=below_thru B_159 hb162
       have i2_169:=Lib.hid (IsL.below (Hid.out i2_160) hb162)
       have xw_170:Box W162 (W7.heap.size) (zero8):=Box.below xw_161 hb162
       have sl_171:Box W162 (W145.heap.size) ([.slice a1 xs.length c1,.slice pa7 (padL N).length pc7]):=Box.below hx153 hb162
       refine hK.out _ _ (hx_164) (fun _=>?_);clear hK K
       refine wpAnyH_ready (rs:=[9]) (by kernel_rfl) (by simp) (AllReadyH.cons rfl (fun K hK=>?_) AllReadyH.nil)
       go_simp
       refine (takeIn_any h _ (xs ++ padL N) _ (Hid.out hq162) (Hid.out hbytes) (Hid.out laid_167)).mono ?_
       rintro e W172 ⟨v172,rfl,hl172,he172,hb172⟩
       have hq172:=Lib.hid hl172
       clear hl172
       have HE172:=Lib.hid he172
       clear he172
       have sz173:=Below.size hb172
       have hx_174:Box W172 (w.heap.size) (hashV h (.slice a1 xs.length c1) (N:Int)):=Box.below hx_164 hb172
       have hr_175:Box W172 (w.heap.size + 1) (zero32):=Box.below hr_165 hb172
       have i1_176:=Lib.hid (IsL.below (Hid.out i1_166) hb172)
       have laid_177:=Lib.hid (LaidS.below (Hid.out laid_167) hb172)
       have B_178:Below w.heap.size w W172:=below_thru B_168 hb172
       have i2_179:=Lib.hid (IsL.below (Hid.out i2_169) hb172)
       have xw_180:Box W172 (W7.heap.size) (zero8):=Box.below xw_170 hb172
       have sl_181:Box W172 (W145.heap.size) ([.slice a1 xs.length c1,.slice pa7 (padL N).length pc7]):=Box.below sl_171 hb172
       have cat_182:=Lib.hid (IsL.below (Hid.out hq162) hb172)
       refine hK.out _ _ (hx_174) (fun _=>?_);clear hK K
       refine takeH 10 10 (v:=.tuple #[.agg (hv (after h (xs ++ padL N))).toArray,v172]) rfl (by rfl) (by kernel_rfl) (by kernel_rfl) (by kernel_rfl) (fun _ _ _ h=>h) (Or.inl ⟨by rfl,?_⟩) (hx_174) ?_
       · intro wq hSq
         go_simp
       try simp only [Act.put,qzA,qz0,qzS]
       refine takeH 11 21 (v:=.agg (hv (after h (xs ++ padL N))).toArray) rfl (by rfl) (by kernel_rfl) (by kernel_rfl) (by kernel_rfl) (fun _ _ _ h=>h) (Or.inl ⟨by rfl,?_⟩) (hx_174) ?_
       · intro wq hSq
         go_simp
       try simp only [Act.put,qzA,qz0,qzS]
       refine takeH 12 22 (v:=v172) rfl (by rfl) (by kernel_rfl) (by kernel_rfl) (by kernel_rfl) (fun _ _ _ h=>h) (Or.inl ⟨by rfl,?_⟩) (hx_174) ?_
       · intro wq hSq
         go_simp
       try simp only [Act.put,qzA,qz0,qzS]
       refine wpAnyH_ready (rs:=[14]) (by kernel_rfl) (by simp) (AllReadyH.cons rfl (fun K hK=>?_) AllReadyH.nil)
       refine step_store_box0 (cs:=hv (after h (xs ++ padL N))) rfl rfl _ _ _ rfl xw_180 rfl rfl size8 rfl (hv_one _) ?_
       intro W183 hW183
       have hx_184:Box W183 (w.heap.size) (hashV h (.slice a1 xs.length c1) (N:Int)):=hW183.past _ _ (by omega) hx_174
       have hr_185:Box W183 (w.heap.size + 1) (zero32):=hW183.past _ _ (by omega) hr_175
       have B_188:Below w.heap.size w W183:=hW183.below _ _ (by omega) B_178
       have xw_191:=hW183.box
       have sl_192:Box W183 (W145.heap.size) ([.slice a1 xs.length c1,.slice pa7 (padL N).length pc7]):=hW183.past _ _ (by omega) sl_181
       have oo183:=Lib.hid (IsL.stored (Hid.out hq172) hW183 (fun g hg=>by have r:=(Hid.out rg162) g (by rw [← Hid.out HE172];exact hg);omega))
       refine hK.out _ _ (hx_184) (fun _=>?_);clear hK K
       refine takeH 15 5 (v:=v172) rfl (by rfl) (by kernel_rfl) (by kernel_rfl) (by kernel_rfl) (fun _ _ _ h=>h) (Or.inl ⟨by rfl,?_⟩) (hx_184) ?_
       · intro wq hSq
         go_simp
       try simp only [Act.put,qzA,qz0,qzS]
       refine wpAnyH_done (by kernel_rfl) ?_ _
       go_wp2_with fail
       go_meet
       exact ⟨_,rfl,by omega,xw_191,hr_185,B_188⟩
   · skip
     go_simp
     refine hK.out _ _ (Box.alloc hx_2 _) (fun _=>?_);clear hK K
     refine F_alloc (F:=fun W=>wpAnyH _ _ _ _ _ _ _ _ W) (zero8) rfl ?_
     intro W197 hx197 hb197
     have sz198:=Below.size hb197
     have hx_199:Box W197 (w.heap.size) (hashV h (.slice a1 xs.length c1) (N:Int)):=Box.below hx_2 hb197
     have hr_200:Box W197 (w.heap.size + 1) (zero32):=Box.below hr_3 hb197
     have i1_201:=Lib.hid (IsL.below (Hid.out i1_4) hb197)
     have laid_202:=Lib.hid (LaidS.below (Hid.out laid_5) hb197)
     have B_203:Below w.heap.size w W197:=below_thru B_6 hb197
     have lt197:=hx197.lt
     refine wpAnyH_ready (rs:=[6]) (by kernel_rfl) (by simp) (AllReadyH.cons rfl (fun K hK=>?_) AllReadyH.nil)
     go_simp
     refine (padding_any N _ hN).mono ?_
     rintro e W204 ⟨vp204,rfl,hp204,hb204⟩
     obtain ⟨pa204,pc204,ep204,_⟩:=id hp204
     subst ep204
     have hi204:=Lib.hid hp204
     clear hp204
     have sz205:=Below.size hb204
     have hx_206:Box W204 (w.heap.size) (hashV h (.slice a1 xs.length c1) (N:Int)):=Box.below hx_199 hb204
     have hr_207:Box W204 (w.heap.size + 1) (zero32):=Box.below hr_200 hb204
     have i1_208:=Lib.hid (IsL.below (Hid.out i1_201) hb204)
     have laid_209:=Lib.hid (LaidS.below (Hid.out laid_202) hb204)
     have B_210:Below w.heap.size w W204:=below_thru B_203 hb204
     have xw_211:Box W204 (W0.heap.size) (zero8):=Box.below hx197 hb204
     refine hK.out _ _ (hx_206) (fun _=>?_);clear hK K
     refine wpAnyH_ready (rs:=[7]) (by kernel_rfl) (by simp) (AllReadyH.cons rfl (fun K hK=>?_) AllReadyH.nil)
     go_simp
     refine hK.out _ _ (Box.alloc hx_206 _) (fun _=>?_);clear hK K
     refine F_alloc (F:=fun W=>wpAnyH _ _ _ _ _ _ _ _ W) ([.slice a1 xs.length c1,.slice pa204 (padL N).length pc204]) rfl ?_
     intro W212 hx212 hb212
     have sz213:=Below.size hb212
     have hx_214:Box W212 (w.heap.size) (hashV h (.slice a1 xs.length c1) (N:Int)):=Box.below hx_206 hb212
     have hr_215:Box W212 (w.heap.size + 1) (zero32):=Box.below hr_207 hb212
     have i1_216:=Lib.hid (IsL.below (Hid.out i1_208) hb212)
     have laid_217:=Lib.hid (LaidS.below (Hid.out laid_209) hb212)
     have B_218:Below w.heap.size w W212:=below_thru B_210 hb212
     have xw_219:Box W212 (W0.heap.size) (zero8):=Box.below xw_211 hb212
     have i2_220:=Lib.hid (IsL.below (Hid.out hi204) hb212)
     have lt212:=hx212.lt
     refine wpAnyH_ready (rs:=[8]) (by kernel_rfl) (by simp) (AllReadyH.cons rfl (fun K hK=>?_) AllReadyH.nil)
     go_simp
     refine (concat_any _ _ _ xs (padL N) _ (hx212.c 0 _ rfl) (hx212.c 1 _ rfl) (Hid.out i1_216) (Hid.out i2_220) hsum).mono ?_
     rintro e W221 ⟨v221,rfl,ho221⟩
     have rg221:=Lib.hid (OwnL.range ho221)
     have hq221:=Lib.hid (OwnL.is ho221)
     have hb221:=ho221.2
     clear ho221
     have sz222:=Below.size hb221
     have hx_223:Box W221 (w.heap.size) (hashV h (.slice a1 xs.length c1) (N:Int)):=Box.below hx_214 hb221
     have hr_224:Box W221 (w.heap.size + 1) (zero32):=Box.below hr_215 hb221
     have i1_225:=Lib.hid (IsL.below (Hid.out i1_216) hb221)
     have laid_226:=Lib.hid (LaidS.below (Hid.out laid_217) hb221)
     have B_227:Below w.heap.size w W221:=below_thru B_218 hb221
     have xw_228:Box W221 (W0.heap.size) (zero8):=Box.below xw_219 hb221
     have i2_229:=Lib.hid (IsL.below (Hid.out i2_220) hb221)
     have sl_230:Box W221 (W204.heap.size) ([.slice a1 xs.length c1,.slice pa204 (padL N).length pc204]):=Box.below hx212 hb221
     refine hK.out _ _ (hx_223) (fun _=>?_);clear hK K
     refine wpAnyH_ready (rs:=[9]) (by kernel_rfl) (by simp) (AllReadyH.cons rfl (fun K hK=>?_) AllReadyH.nil)
     go_simp
     refine (takeIn_any h _ (xs ++ padL N) _ (Hid.out hq221) (Hid.out hbytes) (Hid.out laid_226)).mono ?_
     rintro e W231 ⟨v231,rfl,hl231,he231,hb231⟩
     have hq231:=Lib.hid hl231
     clear hl231
     have HE231:=Lib.hid he231
     clear he231
     have sz232:=Below.size hb231
     have hx_233:Box W231 (w.heap.size) (hashV h (.slice a1 xs.length c1) (N:Int)):=Box.below hx_223 hb231
     have hr_234:Box W231 (w.heap.size + 1) (zero32):=Box.below hr_224 hb231
     have i1_235:=Lib.hid (IsL.below (Hid.out i1_225) hb231)
     have laid_236:=Lib.hid (LaidS.below (Hid.out laid_226) hb231)
     have B_237:Below w.heap.size w W231:=below_thru B_227 hb231
     have xw_238:Box W231 (W0.heap.size) (zero8):=Box.below xw_228 hb231
     have i2_239:=Lib.hid (IsL.below (Hid.out i2_229) hb231)
     have sl_240:Box W231 (W204.heap.size) ([.slice a1 xs.length c1,.slice pa204 (padL N).length pc204]):=Box.below sl_230 hb231
     have cat_241:=Lib.hid (IsL.below (Hid.out hq221) hb231)
     refine hK.out _ _ (hx_233) (fun _=>?_);clear hK K
     refine takeH 10 10 (v:=.tuple #[.agg (hv (after h (xs ++ padL N))).toArray,v231]) rfl (by rfl) (by kernel_rfl) (by kernel_rfl) (by kernel_rfl) (fun _ _ _ h=>h) (Or.inl ⟨by rfl,?_⟩) (hx_233) ?_
     · intro wq hSq
       go_simp
     try simp only [Act.put,qzA,qz0,qzS]
     refine takeH 11 21 (v:=.agg (hv (after h (xs ++ padL N))).toArray) rfl (by rfl) (by kernel_rfl) (by kernel_rfl) (by kernel_rfl) (fun _ _ _ h=>h) (Or.inl ⟨by rfl,?_⟩) (hx_233) ?_
     · intro wq hSq
       go_simp
     try simp only [Act.put,qzA,qz0,qzS]
     refine takeH 12 22 (v:=v231) rfl (by rfl) (by kernel_rfl) (by kernel_rfl) (by kernel_rfl) (fun _ _ _ h=>h) (Or.inl ⟨by rfl,?_⟩) (hx_233) ?_
     · intro wq hSq
       go_simp
     try simp only [Act.put,qzA,qz0,qzS]
     refine wpAnyH_ready (rs:=[14]) (by kernel_rfl) (by simp) (AllReadyH.cons rfl (fun K hK=>?_) AllReadyH.nil)
     refine step_store_box0 (cs:=hv (after h (xs ++ padL N))) rfl rfl _ _ _ rfl xw_238 rfl rfl size8 rfl (hv_one _) ?_
     intro W242 hW242
     have hx_243:Box W242 (w.heap.size) (hashV h (.slice a1 xs.length c1) (N:Int)):=hW242.past _ _ (by omega) hx_233
     have hr_244:Box W242 (w.heap.size + 1) (zero32):=hW242.past _ _ (by omega) hr_234
     have B_247:Below w.heap.size w W242:=hW242.below _ _ (by omega) B_237
     have xw_248:=hW242.box
     have sl_251:Box W242 (W204.heap.size) ([.slice a1 xs.length c1,.slice pa204 (padL N).length pc204]):=hW242.past _ _ (by omega) sl_240
     have oo242:=Lib.hid (IsL.stored (Hid.out hq231) hW242 (fun g hg=>by have r:=(Hid.out rg221) g (by rw [← Hid.out HE231];exact hg);omega))
     refine hK.out _ _ (hx_243) (fun _=>?_);clear hK K
     refine takeH 15 5 (v:=v231) rfl (by rfl) (by kernel_rfl) (by kernel_rfl) (by kernel_rfl) (fun _ _ _ h=>h) (Or.inl ⟨by rfl,?_⟩) (hx_243) ?_
     · intro wq hSq
       go_simp
     try simp only [Act.put,qzA,qz0,qzS]
     refine wpAnyH_done (by kernel_rfl) ?_ _
     go_wp2_with fail
     go_meet
     exact ⟨_,rfl,by omega,xw_248,hr_244,B_247⟩
 case rest =>
   clear hxh hxr HI1 HL1 hB1
   obtain ⟨bw,rfl,hbw,hxw,hxr,hB⟩:=hcut
   obtain ⟨w2,rfl⟩:∃ u:World,u=wc:=⟨_,rfl⟩
   have hsz:=hB.size
   have hz2:=hxr.lt
   obtain ⟨T,hTe⟩:∃ T,T=after h (xs ++ padL N):=⟨_,rfl⟩
   rw [← hTe] at hxw
   obtain ⟨D,hD⟩:∃ D,dig T=D:=⟨_,rfl⟩
   have HDE:=Lib.hid (show dig (after h (xs ++ padL N))=D by rw [← hTe];exact hD)
   have HD:=Lib.hid hD
   have hDl:=Lib.hid (show (D.map (Value.int .u8)).length=32 by rw [← hD,List.length_map,dig_len])
   have I32:=Lib.hid (show (Tryz.prog.info? 23).map (·.size)=some (D.map (Value.int .u8)).length by rw [hDl.out];exact size32)
   have HLL:=Lib.hid (show zero32.length=(D.map (Value.int .u8)).length by rw [hDl.out];rfl)
   clear hTe hD
   go_wp2_with (refine wpList_load_box rfl _ _ rfl hxw rfl Tryz.underlying164 rfl size8 ?_)
   refine (digest_is _ HD).mono ?_
   rintro e w3 ⟨rfl,hb⟩
   have hB3:=below_thru hB hb
   have hxr3:=hxr.below hb
   clear hb hxr hxw hB
   go_wp2_with (refine wpList_store_box (cs:=D.map (Value.int .u8)) rfl _ _ _ rfl hxr3 rfl rfl I32.out HLL.out (oneCell_ints _) ?_;intro W3 hW3)
   rw [HDE.out]
   exact bodyPost_ret (v:=.tuple #[.agg (D.map (Value.int .u8)).toArray,.int .i64 0]) (results_box2 Tryz.results94 hW3.box rfl rfl Tryz.underlying23 rfl I32.out) rfl ⟨rfl,hW3.below _ _ (Nat.le_succ _) hB3⟩
end Go.Proofs.YtnfejdfjlnpldaaGreatDoor
namespace Go.Proofs.YtnfejdfjlnpldaaGreatDoor
end Go.Proofs.YtnfejdfjlnpldaaGreatDoor
namespace Go.Proofs.YtnfejdfjlnpldaaGreatDoor
open Go.RowKit
def HashIs (w:World) (v:Value) (T:W8) (rs:List Int) (n:Int):Prop:=∃ at0 cap,v=.agg (hashV T (.slice at0 rs.length cap) n).toArray∧IsL w .u8 (.slice at0 rs.length cap) rs
theorem HashIs.below {w w':World} {v:Value} {T:W8} {rs:List Int} {n:Int} (h:HashIs w v T rs n) (hb:Below w.heap.size w w'):HashIs w' v T rs n:=by
 obtain ⟨a,c,e,hi⟩:=h
 exact ⟨a,c,e,hi.below hb⟩
theorem HashIs.alloc {w:World} {v:Value} {T:W8} {rs:List Int} {n:Int} (h:HashIs w v T rs n) (o:Obj):HashIs (w.alloc o) v T rs n:=by
 obtain ⟨a,c,e,hi⟩:=h
 exact ⟨a,c,e,hi.alloc o⟩
theorem HashIs.drew {w:World} {v:Value} {T:W8} {rs:List Int} {n:Int} (h:HashIs w v T rs n):HashIs w.drew v T rs n:=by
 obtain ⟨a,c,e,hi⟩:=h
 exact ⟨a,c,e,hi.drew⟩
def Wrote (T:W8) (rs:List Int) (n c:Int) (w:World) (e:Ending) (w':World):Prop :=
 ∃ at0 cap,e=.returned (.tuple #[.agg (hashV T (.slice at0 rs.length cap) n).toArray,.int .i64 c])∧OwnL w w' (.slice at0 rs.length cap) rs
theorem write_is {v v2:Value} {h T:W8} {rs ys zs:List Int} {n m:Int} (w:World) (h1:HashIs w v h rs n) (h2:IsL w .u8 v2 ys) (hvd:Hid (vldH n rs.length=true)) (hm:n + ys.length≤128000) (hT:Hid (after h (rs ++ ys)=T)) (hz:Hid (restOf (rs ++ ys)=zs)) (hn:Hid (n + ys.length=m))
   (hx:Hid (bytesL rs)) (hy:Hid (bytesL ys)) (hL:LaidS w):Calls Tryz.prog 92 #[v,v2] w (Wrote T zs m 0 w):=by
 obtain ⟨a1,c1,rfl,i1⟩:=h1
 obtain ⟨a2,c2,rfl,i2,n2⟩:=h2
 have hc:0≤n∧n≤128000:=by
   have:=hvd.out
   simp only [vldH,cntB,Bool.and_eq_true,decide_eq_true_eq] at this
   exact this.1
 rw [← hT.out,← hz.out,← hn.out]
 refine (write_ok h a1 a2 c1 c2 rs ys n w i1 ⟨a2,c2,rfl,i2,n2⟩ hc.1 hc.2 hvd (by omega) hx.out hy.out hL).mono ?_
 rintro e w' ⟨v,rfl,ho⟩
 obtain ⟨a,c,rfl,_⟩:=ho.is
 exact ⟨a,c,rfl,ho⟩
theorem finish_is {v:Value} {h:W8} {D rs:List Int} (N:Nat) (w:World) (h1:HashIs w v h rs (N:Int)) (hvd:Hid (vldH (N:Int) rs.length=true)) (hD:Hid (dig (after h (rs ++ padL N))=D)) (hx:Hid (bytesL rs)) (hL:LaidS w) :
   Calls Tryz.prog 94 #[v] w fun e w'=>e=.returned (.tuple #[dv D,.int .i64 0])∧Below w.heap.size w w':=by
 obtain ⟨a1,c1,rfl,i1⟩:=h1
 have hc:N≤128000:=by
   have:=hvd.out
   simp only [vldH,cntB,Bool.and_eq_true,decide_eq_true_eq] at this
   omega
 rw [← hD.out]
 exact finish_ok h a1 c1 rs N w i1 hc hvd hx.out hL
theorem start_is (w:World) (hL:LaidS w):Calls Tryz.prog 93 #[] w fun e w'=>∃ v,e=.returned v∧HashIs w' v first [] 0∧Below w.heap.size w w' :=
 (start_any w hL).mono fun _ _ ⟨he,hb⟩=>⟨_,he,⟨none,0,rfl,IsL.none⟩,hb⟩
theorem vld0:vldH 0 ([]:List Int).length=true:=by decide
theorem vldN {n len:Nat} (hn:n≤128000) (hl:len=n % 64):vldH (n:Int) len=true:=by
 simp only [vldH,cntB,Bool.and_eq_true,decide_eq_true_eq]
 omega
set_option maxRecDepth 100000 in
set_option maxHeartbeats 1600000 in
theorem sum_ok {v:Value} {xs D:List Int} (w:World) (hi:Hid (IsL w .u8 v xs)) (hl:xs.length≤128000) (hx:Hid (bytesL xs)) (hD:Hid (shaOf xs=D)) (hL:Hid (LaidS w)) :
   Calls Tryz.prog 62 #[v] w fun e w'=>e=.returned (.tuple #[dv D,.int .i64 0])∧Below w.heap.size w w':=by
 obtain ⟨T,hT⟩:∃ T,after first ([] ++ xs)=T:=⟨_,rfl⟩
 obtain ⟨rs,hr⟩:∃ rs,restOf ([] ++ xs)=rs:=⟨_,rfl⟩
 have hrl:rs.length=xs.length % 64:=by rw [← hr,List.nil_append,restOf_len]
 have hrb:bytesL rs:=by rw [← hr];exact hx.out.drop _
 have hd:dig (after T (rs ++ padL xs.length))=D:=by
   rw [← hD.out,← hT,← hr]
   unfold shaOf
   rw [List.nil_append,← after_append]
 have HT:=Lib.hid hT
 have HR:=Lib.hid hr
 have HRB:=Lib.hid hrb
 have HDD:=Lib.hid hd
 have HV:=Lib.hid (vldN hl hrl)
 have hdl:=Lib.hid (show (D.map (Value.int .u8)).length=32 by rw [← hd,List.length_map,dig_len])
 have I32:=Lib.hid (show (Tryz.prog.info? 23).map (·.size)=some (D.map (Value.int .u8)).length by rw [hdl.out];exact size32)
 have HLL:=Lib.hid (show zero32.length=(D.map (Value.int .u8)).length by rw [hdl.out];rfl)
 clear hT hr hrl hrb hd
 go_enter Tryz.func62,Tryz.ntmps62
 go_wp2_with fail
 refine (start_is _ (hL.out.alloc _)).mono ?_
 rintro e w1 ⟨v1,rfl,hh,hb⟩
 have hB1:Below w.heap.size w w1:=below_thru (by go_grown) hb
 have hxr:Box w1 w.heap.size zero32:=Box.below (Box.newc rfl rfl) hb
 clear hb
 go_wp2_with fail
 refine (write_is _ hh (hi.out.below hB1) (Lib.hid vld0) (by omega) HT HR (Lib.hid (Int.zero_add _)) (Lib.hid bytesL.nil) hx (hL.out.below hB1)).mono ?_
 rintro e w2 ⟨a2,c2,rfl,ho⟩
 have hB2:Below w.heap.size w w2:=below_thru hB1 ho.2
 have hxr2:Box w2 w.heap.size zero32:=hxr.below ho.2
 have HI2:=Lib.hid ho.is
 have hs2:=hB2.size
 have hz2:=hxr2.lt
 clear ho hxr hB1 hh
 go_upto_region 2 with (refine wpList_store_box (cs:=hashV T (.slice a2 rs.length c2) (xs.length:Int)) rfl _ _ _ rfl (Box.newc (l:=zero10) rfl rfl) rfl rfl size10 rfl (hash_one _ _ _ _ _) ?_;intro W3 hW3)
 have hB3:Below w.heap.size w W3:=hW3.below _ _ hs2 (hB2.alloc hs2 _)
 have hxr3:Box W3 w.heap.size zero32:=hW3.past _ _ (by omega) (hxr2.alloc _)
 have hxh3:=hW3.box
 have HI3:=Lib.hid (IsL.below HI2.out (hW3.below _ _ (Nat.le_refl _) ((Below.refl _ w2).alloc (Nat.le_refl _) _)))
 clear hW3 hxr2 hB2 HI2
 go_wp2_with (refine wpList_load_box rfl _ _ rfl hxh3 rfl Tryz.underlying166 rfl size10 ?_)
 refine (finish_is xs.length _ ⟨a2,c2,rfl,HI3.out⟩ HV HDD HRB (hL.out.below hB3)).mono ?_
 rintro e w4 ⟨rfl,hb⟩
 have hB4:Below w.heap.size w w4:=below_thru hB3 hb
 have hxr4:=hxr3.below hb
 clear hb hxr3 hB3 hxh3
 go_wp2_with (refine wpList_store_box (cs:=D.map (Value.int .u8)) rfl _ _ _ rfl hxr4 rfl rfl I32.out HLL.out (oneCell_ints _) ?_;intro W5 hW5)
 exact bodyPost_ret (v:=.tuple #[.agg (D.map (Value.int .u8)).toArray,.int .i64 0]) (results_box2 Tryz.results62 hW5.box rfl rfl Tryz.underlying23 rfl I32.out) rfl ⟨rfl,hW5.below _ _ (Nat.le_refl _) hB4⟩
end Go.Proofs.YtnfejdfjlnpldaaGreatDoor
namespace Go.Proofs.YtnfejdfjlnpldaaGreatDoor
open Go.RowKit
def sameB (xs ys:List Int):Bool:=decide (xs=ys)
set_option maxHeartbeats 800000 in
theorem sameb_any (a1 a2:Option Addr) (c1 c2:Nat) (xs ys:List Int) (w:World) (h1:Ints w .u8 a1 c1 xs) (h2:Ints w .u8 a2 c2 ys) :
   Calls Tryz.prog 30 #[.slice a1 xs.length c1,.slice a2 ys.length c2] w fun e w'=>e=.returned (.bool (sameB xs ys))∧∃ n,w'=w.drewN n:=by
 have m1:=h1.most
 have r1:=h1.room
 have m2:=h2.most
 have r2:=h2.room
 have H1:=Lib.hid h1
 have H2:=Lib.hid h2
 clear h1 h2
 by_cases hl:xs.length=ys.length
 · have hd:((xs.length:Int) != (ys.length:Int))=false:=by rw [hl];simp
   have HL:=Lib.hid hl
   clear hl
   go_enter Tryz.func30,Tryz.ntmps30
   go_wp2
   go_loopw [5] (fun i wr=>∃ k n:Nat,k≤xs.length∧i=.int .i64 k∧wr=w.drewN n∧Hid (xs.take k=ys.take k)) (fun i _=>xs.length - (intOf i).toNat)
   case atStart=>exact ⟨0,0,Nat.zero_le _,rfl,rfl,rfl⟩
   case round =>
     obtain ⟨k,n,hk,rfl,rfl,he⟩:=hrel
     by_cases hlt:k < xs.length
     · have hlt2:k < ys.length:=by rw [← HL.out];exact hlt
       obtain ⟨b,off,rfl,hc⟩:=H1.out.at hlt
       obtain ⟨b',off',rfl,hc'⟩:=H2.out.at hlt2
       have S1:=Lib.hid (take_succ_nth hlt)
       have i0:(0:Int)≤(k:Int):=by omega
       have i1:(k:Int) < (xs.length:Int):=by omega
       have i2:(k:Int) < (ys.length:Int):=by omega
       have S2:=Lib.hid (take_succ_nth hlt2)
       by_cases h:nth xs k=nth ys k
       · have hd2:(nth xs k != nth ys k)=false:=by rw [h];simp
         have HE:=Lib.hid h
         clear h
         go_wp2
         go_quiet (fail)
         go_wp2
         go_roundw
         case rel=>exact ⟨k + 1,_,by omega,by go_num,rfl,Lib.hid (by rw [S1.out,S2.out,he.out,HE.out])⟩
         case measure=>simp [intOf];omega
       · have hd2:(nth xs k != nth ys k)=true:=by simpa using h
         have HE:=Lib.hid (show sameB xs ys=false from decide_eq_false (fun q=>h (by rw [q])))
         clear h
         go_wp2
         go_quiet (fail)
         go_wp2
         go_returns
         exact ⟨by rw [HE.out];rfl,_,World.drewN_drewN _ _ _⟩
     · go_wp2
       go_returns
       refine ⟨?_,_,rfl⟩
       have e:=he.out
       rw [List.take_of_length_le (by omega),List.take_of_length_le (by have:=HL.out;omega)] at e
       rw [show sameB xs ys=true from decide_eq_true e]
       rfl
 · have hd:((xs.length:Int) != (ys.length:Int))=true:=by rw [bne_iff_ne];omega
   have HE:=Lib.hid (show sameB xs ys=false from decide_eq_false (fun q=>hl (by rw [q])))
   clear hl
   go_enter Tryz.func30,Tryz.ntmps30
   go_wp2
   go_returns
   exact ⟨by rw [HE.out];rfl,0,rfl⟩
theorem sameb_tt {v1 v2:Value} {xs:List Int} (w:World) (h1:IsL w .u8 v1 xs) (h2:IsL w .u8 v2 xs):Calls Tryz.prog 30 #[v1,v2] w fun e w'=>e=.returned (.bool true)∧Below w.heap.size w w':=by
 obtain ⟨a1,c1,rfl,i1,_⟩:=h1
 obtain ⟨a2,c2,rfl,i2,_⟩:=h2
 refine (sameb_any a1 a2 c1 c2 xs xs w i1 i2).mono fun e w' ⟨he,n,hw⟩=>⟨by rw [he,show sameB xs xs=true from decide_eq_true rfl],?_⟩
 rw [hw];exact below_drewN (Below.refl _ _) n
end Go.Proofs.YtnfejdfjlnpldaaGreatDoor
namespace Go.Proofs.YtnfejdfjlnpldaaGreatDoor
open Go.RowKit
end Go.Proofs.YtnfejdfjlnpldaaGreatDoor
namespace Go.Proofs.YtnfejdfjlnpldaaGreatDoor
open Go.RowKit
section
variable {P:Program} {ops:Array Oper} {rest:List Oper} {o:Oper} {a:Act} {w:World} {K:Act→World→Prop} {Q:Exit→Act→World→Prop} {E:Prop}
theorem wpList_append_onto (hw:Region.wanted o (yielded ops a.tmps)=true) (s x:Operand) (t:TypeId)
   (ho:o.op=.call { callee:=.builtin .append,args:=#[s,x],argTypes:=#[t,t] })
   (base:Nat) (e:TypeId) (i:TypeInfo) (z:Value) (bytes:Nat) (k:IntKind) (ht:P.underlying t=some (.slice e)) (hi:P.info? e=some i) (hz:i.zero=some z)
   (hsize:i.size=1) (hby:i.bytes=bytes) (hzs:z.cells.size=1)
   (v:Value) (ys xs:List Int) (v2:Value) (hs:a.eval s=v) (hx:a.eval x=v2) (hown:w.ownsRow base e 1 v ys.length (ys.map (Value.int k))) (hin:IsL w k v2 xs)
   (h63:ys.length + xs.length≤maxLen) (hbytes:(ys.length + xs.length) * bytes≤140737488355328) (hbase:base≤w.heap.size)
   (h:∀ v' w',w'.ownsRow base e 1 v' (ys ++ xs).length ((ys ++ xs).map (Value.int k))→Below base w w'→wpList P ops Q rest (a.put o.dst v') w'):wpList P ops Q (o :: rest) a w:=by
 obtain ⟨a2,c2,rfl,hi2,h02⟩:=hin
 refine wpList_append_ints hw s x t ho base e i z bytes k ht hi hz hsize hby hzs v ys.length _ hs hown a2 c2 xs hx hi2 h02 h63 hbytes hbase (fun v' w' h1 h2=>h v' w' ?_ ?_)
 · rw [List.length_append,List.map_append]
   exact h1
 · exact (Below.refl _ w).grown h2 hbase (own_block hown)
end
set_option maxRecDepth 100000 in
theorem info8:∃ i,Tryz.prog.info? 5=some i∧i.zero=some (.int .u8 0)∧i.size=1∧i.bytes=1:=⟨_,rfl,by kernel_rfl,by kernel_rfl,by kernel_rfl⟩
end Go.Proofs.YtnfejdfjlnpldaaGreatDoor
namespace Go.Proofs.YtnfejdfjlnpldaaGreatDoor
open Go.RowKit
def plA (xs:List Int) (i:Nat):Int:=if i < xs.length then 1 else 0
def plB (xs:List Int) (i:Nat):Int:=if i < xs.length then nth xs i else 0
def cmpK (xs ys:List Int) (k:Nat):Bool:=decide (∀ i,i < k→plA xs i=plA ys i∧plB xs i=plB ys i)
theorem cmpK_zero (xs ys:List Int):cmpK xs ys 0=true:=decide_eq_true (fun i h=>by omega)
theorem cmpK_succ (xs ys:List Int) (k:Nat):cmpK xs ys (k + 1)=(decide ([plA xs k,plB xs k]=[plA ys k,plB ys k]) && cmpK xs ys k):=by
 unfold cmpK
 rw [← Bool.decide_and]
 congr 1
 simp only [List.cons.injEq,and_true,eq_iff_iff]
 constructor
 · intro h
   exact ⟨h k (by omega),fun i hi=>h i (by omega)⟩
 · intro ⟨h1,h2⟩ i hi
   rcases Nat.lt_or_ge i k with q | q
   · exact h2 i q
   · obtain rfl:i=k:=by omega
     exact h1
theorem cmpK_all (xs ys:List Int):cmpK xs ys (max xs.length ys.length)=sameB xs ys:=by
 unfold cmpK sameB
 congr 1
 simp only [eq_iff_iff]
 constructor
 · intro h
   have hl:xs.length=ys.length:=by
     rcases Nat.lt_trichotomy xs.length ys.length with q | q | q
     · have:=(h xs.length (by omega)).1
       unfold plA at this
       rw [if_neg (by omega),if_pos q] at this
       omega
     · exact q
     · have:=(h ys.length (by omega)).1
       unfold plA at this
       rw [if_pos q,if_neg (by omega)] at this
       omega
   refine List.ext_getElem hl fun i h1 h2=>?_
   have:=(h i (by omega)).2
   unfold plB nth at this
   rw [if_pos h1,if_pos h2,List.getD_eq_getElem?_getD,List.getD_eq_getElem?_getD,List.getElem?_eq_getElem h1,List.getElem?_eq_getElem h2] at this
   simpa using this
 · intro h i _
   rw [h]
   exact ⟨rfl,rfl⟩
set_option maxRecDepth 100000 in
set_option maxHeartbeats 1600000 in
theorem place_is {v:Value} {xs:List Int} (i:Nat) (w:World) (hi:IsL w .u8 v xs) (him:i≤9223372036854775807) :
   Calls Tryz.prog 97 #[v,.int .i64 (i:Int)] w fun e w'=>e=.returned (.agg #[.int .u8 (plA xs i),.int .u8 (plB xs i)])∧Below w.heap.size w w':=by
 obtain ⟨a0,c0,rfl,hin,h0⟩:=id hi
 have m1:=hin.room
 have m2:=hin.most
 clear hin h0
 have k0:(0:Int)≤(i:Int):=by omega
 by_cases h:i < xs.length
 · obtain ⟨b,off,rfl,hc⟩:=hi.get i h
   have hlt:(i:Int) < (xs.length:Int):=by omega
   have hd:decide ((i:Int) < (xs.length:Int))=true:=decide_eq_true hlt
   obtain ⟨A,hA⟩:∃ A,plA xs i=A:=⟨_,rfl⟩
   obtain rfl:A=1:=by rw [← hA];unfold plA;rw [if_pos h]
   have hB:plB xs i=nth xs i:=by unfold plB;rw [if_pos h]
   rw [hA,hB]
   have hc2:=cell_alloc (x:=.cells #[.int .u8 0,.int .u8 0] 173) hc
   clear hi hA hB
   go_enter Tryz.func97,Tryz.ntmps97
   go_wp2_with fail
   refine bodyPost_ret (v:=.agg #[.int .u8 1,.int .u8 (nth xs i)]) (by simp [results,Tryz.results97,go_sem]) rfl ⟨rfl,?_⟩
   go_grown
 · have hlt:¬ (i:Int) < (xs.length:Int):=by omega
   have hd:decide ((i:Int) < (xs.length:Int))=false:=decide_eq_false hlt
   have hA:plA xs i=0:=by unfold plA;rw [if_neg h]
   have hB:plB xs i=0:=by unfold plB;rw [if_neg h]
   rw [hA,hB]
   clear hi hA hB
   go_enter Tryz.func97,Tryz.ntmps97
   go_wp2_with fail
   refine bodyPost_ret (v:=.agg #[.int .u8 0,.int .u8 0]) (by simp [results,Tryz.results97,go_sem]) rfl ⟨rfl,?_⟩
   go_grown
theorem nth_at {xs:List Int} {k:IntKind} (i:Nat) (h:i < xs.length):(xs.map (Value.int k))[i]? = some (.int k (nth xs i)):=by
 unfold nth
 rw [List.getElem?_map,List.getElem?_eq_getElem h,List.getD_eq_getElem?_getD,List.getElem?_eq_getElem h]
 rfl
theorem IsL.box {w:World} {b:Nat} {k:IntKind} {xs:List Int} (n:Nat) (hn:xs.length=n) (h:Box w b (xs.map (Value.int k))) (hl:n≤1000000):IsL w k (.slice (some ⟨b,0,Option.none⟩) n n) xs:=by
 subst hn
 refine ⟨some ⟨b,0,Option.none⟩,xs.length,rfl,⟨Nat.le_refl _,by omega,fun _=>⟨b,0,rfl,fun i hi=>?_⟩⟩,fun h=>by cases h⟩
 rw [Nat.zero_add]
 exact h.c i _ (nth_at i hi)
end Go.Proofs.YtnfejdfjlnpldaaGreatDoor
namespace Go.Proofs.YtnfejdfjlnpldaaGreatDoor
open Go.RowKit
set_option maxRecDepth 100000 in
set_option maxHeartbeats 1600000 in
theorem compare_is {v1 v2:Value} {xs ys:List Int} (w:World) (h1:Hid (IsL w .u8 v1 xs)) (h2:Hid (IsL w .u8 v2 ys)) :
   Calls Tryz.prog 77 #[v1,v2] w fun e w'=>e=.returned (.tuple #[.bool (sameB xs ys),.int .i64 ((max xs.length ys.length:Nat):Int)])∧Below w.heap.size w w':=by
 obtain ⟨a1,c1,rfl,hin1,_⟩:=id h1.out
 obtain ⟨a2,c2,rfl,hin2,_⟩:=id h2.out
 have r1:=hin1.room
 have m1:=hin1.most
 have r2:=hin2.room
 have m2:=hin2.most
 clear hin1 hin2
 obtain ⟨M,hM⟩:∃ M,max xs.length ys.length=M:=⟨_,rfl⟩
 have hmax:max (xs.length:Int) (ys.length:Int)=(M:Int):=by omega
 have hMm:M≤9223372036854775807:=by omega
 have HS:=Lib.hid (show cmpK xs ys M=sameB xs ys by rw [← hM];exact cmpK_all xs ys)
 rw [hM]
 go_enter Tryz.func77,Tryz.ntmps77
 go_wp2_with fail
 clear hmax
 go_loopw [6,7,14] (fun s l i wr=>∃ k:Nat,k≤M∧s=.bool (cmpK xs ys k)∧l=.int .i64 k∧i=.int .i64 k∧Below w.heap.size w wr) (fun _ _ i _=>M - (intOf i).toNat)
 case atStart=>exact ⟨0,by omega,by rw [cmpK_zero],rfl,rfl,Below.refl _ _⟩
 case round =>
   obtain ⟨k,hk,rfl,rfl,rfl,hB⟩:=hrel
   by_cases hlt:k < M
   · have hlti:(k:Int) < (M:Int):=by omega
     go_wp2_with fail
     refine (place_is k _ (h1.out.below hB) (by omega)).mono ?_
     rintro e w1 ⟨rfl,hb⟩
     have hB1:=below_thru hB hb
     clear hb
     go_wp2_with fail
     refine (place_is k _ (h2.out.below hB1) (by omega)).mono ?_
     rintro e w2 ⟨rfl,hb⟩
     have hB2:=below_thru hB1 hb
     have hE:∀ W:World,(Op.equalIn 10000 173 (.agg #[.int .u8 (plA xs k),.int .u8 (plB xs k)]) (.agg #[.int .u8 (plA ys k),.int .u8 (plB ys k)])).run Tryz.prog W=.ok (decide ([plA xs k,plB xs k]=[plA ys k,plB ys k])) W:=fun W =>
       eq_ints W 9998 Tryz.underlying173 Tryz.underlying5 (by kernel_rfl) [plA xs k,plB xs k] [plA ys k,plB ys k] rfl rfl
     have hsu:=Lib.hid (cmpK_succ xs ys k)
     obtain ⟨q,hq⟩:∃ q,decide ([plA xs k,plB xs k]=[plA ys k,plB ys k])=q:=⟨_,rfl⟩
     rw [hq] at hE hsu
     obtain ⟨c,hc⟩:∃ c,cmpK xs ys k=c:=⟨_,rfl⟩
     rw [hc] at hsu ⊢
     generalize plA xs k=p1 at hE ⊢
     generalize plB xs k=p2 at hE ⊢
     generalize plA ys k=p3 at hE ⊢
     generalize plB ys k=p4 at hE ⊢
     clear hq hc hb hB1 hB
     cases q
     · go_wp2_with fail
       go_roundw
       case rel=>exact ⟨k + 1,by omega,by rw [hsu.out];rfl,by go_num,by go_num,hB2⟩
       case measure=>simp [intOf];omega
     · go_wp2_with fail
       go_roundw
       case rel=>exact ⟨k + 1,by omega,by rw [hsu.out];rfl,by go_num,by go_num,hB2⟩
       case measure=>simp [intOf];omega
   · obtain rfl:k=M:=by omega
     rw [HS.out]
     go_wp2_with fail
     go_returns
     exact ⟨rfl,hB⟩
set_option maxRecDepth 100000 in
set_option maxHeartbeats 1600000 in
theorem mac_same {D1 D2:List Int} (w:World) (l1:D1.length=32) (l2:D2.length=32) :
   Calls Tryz.prog 49 #[.agg (D1.map (Value.int .u8)).toArray,.agg (D2.map (Value.int .u8)).toArray] w fun e w'=>e=.returned (.bool (sameB D1 D2))∧Below w.heap.size w w':=by
 go_enter Tryz.func49,Tryz.ntmps49
 go_upto_region 1 with fail
 have hx1:Box ((w.alloc (.cells (D1.map (Value.int .u8)).toArray 23)).alloc (.cells (D2.map (Value.int .u8)).toArray 23)) w.heap.size (D1.map (Value.int .u8)):=Box.alloc (Box.newc rfl rfl) _
 have hx2:Box ((w.alloc (.cells (D1.map (Value.int .u8)).toArray 23)).alloc (.cells (D2.map (Value.int .u8)).toArray 23)) (w.heap.size + 1) (D2.map (Value.int .u8)):=Box.newc rfl (by simp)
 have J1:=Lib.hid (IsL.box 32 l1 hx1 (by omega))
 have J2:=Lib.hid (IsL.box 32 l2 hx2 (by omega))
 have L1:=Lib.hid l1
 have L2:=Lib.hid l2
 have hB:Below w.heap.size w ((w.alloc (.cells (D1.map (Value.int .u8)).toArray 23)).alloc (.cells (D2.map (Value.int .u8)).toArray 23)):=by go_grown
 clear hx1 hx2 l1 l2
 go_region_held3 (fun _=>True) (trivial) (first | (go_at_call 77;refine (compare_is _ (Lib.hid (IsL.drew J1.out)) (Lib.hid (IsL.drew J2.out))).mono ?_;rintro e w1 ⟨rfl,hb⟩;have hB1:Below w.heap.size w w1:=below_thru (by go_grown) hb;clear hb))
 all_goals
   go_wp2_with fail
   go_returns
   exact ⟨rfl,hB1⟩
end Go.Proofs.YtnfejdfjlnpldaaGreatDoor
