import Derived.Test.YtnfejdfjlnpldaaGreatDoorIdPkA
set_option maxHeartbeats 6400000
set_option maxRecDepth 100000
namespace Go.Proofs.YtnfejdfjlnpldaaGreatDoor
open Go.RowKit Go.Shelf
attribute [local go_sem] Oper.semAt_some
abbrev MF (ts:List Tk) (cs:List Cmd):={ f:Frm // f ∈ mnt ts cs }
def mfV {ts:List Tk} {cs:List Cmd} (x:MF ts cs):Array Value:=#[.agg (mcell x.1).toArray]
theorem grown_none {w w':World} (h:Below w.heap.size w w'):w.grownBy w' none:=⟨h.os,h.tape,h.output,h.size,fun k hk _=>h.block k hk⟩
theorem pre_len12 {ts:List Tk} {cs:List Cmd} {pre:List (MF ts cs)} {k:Nat} (h:pre.map (·.1)=(mnt ts cs).take k) (hk:k≤ts.length + cs.length):pre.length=k:=by
 have:=congrArg List.length h
 rw [List.length_map,List.length_take,mnt_len] at this
 omega
theorem pre_next12 {ts:List Tk} {cs:List Cmd} {pre:List (MF ts cs)} {k:Nat} {f:Frm} (h:pre.map (·.1)=(mnt ts cs).take k) (hf:(mnt ts cs)[k]? = some f):(pre ++ [(⟨f,List.mem_of_getElem? hf⟩:MF ts cs)]).map (·.1)=(mnt ts cs).take (k + 1):=by
 rw [List.map_append,h]
 exact take_snoc12 hf
theorem pre_pre12 {ts:List Tk} {cs:List Cmd} {pre:List (MF ts cs)} {k:Nat} (h:pre.map (·.1)=(mnt ts cs).take k):pre.map (·.1) <+: mnt ts cs:=by rw [h];exact List.take_prefix _ _
theorem pre_all12 {ts:List Tk} {cs:List Cmd} {pre:List (MF ts cs)} {k:Nat} (h:pre.map (·.1)=(mnt ts cs).take k) (hk:ts.length + cs.length≤k):pre.map (·.1)=mnt ts cs:=by rw [h,List.take_of_length_le (by rw [mnt_len];exact hk)]
set_option maxRecDepth 100000 in
set_option maxHeartbeats 6400000 in
theorem minted1_in (n:Nat) (l Bn:Nat) (w0:World) {a1 a2:Option Addr} {c1 c2:Nat} {ts:List Tk} {cs:List Cmd} (H1:Hid (IsR LT w0 (.slice a1 ts.length c1) ts)) (H2:Hid (IsR LC w0 (.slice a2 cs.length c2) cs)) (J Jx:List (MF ts cs)→World→Prop)
   (HY:Hid (∀ pre x W,J pre W→pre.length < (mnt ts cs).length→YieldAt Fence.wide (n - 1) Tryz.prog l (mfV x) W fun e W' =>
     (e=.returned (.bool true)∧J (pre ++ [x]) W'∧KpB w0.heap.size Bn W W')∨(e=.returned (.bool false)∧Jx (pre ++ [x]) W')))
   (HJ:Hid (∀ s A B,J s A→A.grownBy B none→J s B))
   (W:World) (hW:Below w0.heap.size w0 W) (hBx:Box W Bn [.slice a1 ts.length c1,.slice a2 cs.length c2]) (h0:J [] W) :
   CallsIn Fence.wide n Tryz.prog 73 #[.func (.yield l) #[] #[],.pointer (some ⟨Bn,0,none⟩)] W fun e W'=>(∃ v,e=.returned v) ∧
     ((∃ ys:List (MF ts cs),ys.map (·.1)=mnt ts cs∧J ys W')∨(∃ pre:List (MF ts cs),pre.map (·.1) <+: mnt ts cs∧Jx pre W')):=by
 obtain ⟨_,r1,m1,_⟩:=H1.out.room
 obtain ⟨_,r2,m2,_⟩:=H2.out.room
 have ca:=hBx.c 0 _ rfl;have za:=hBx.lt
 refine callsIn_of_wp Tryz.func73 rfl trivial ?_ rfl
 simp only [Tryz.ntmps73,List.size_toArray,List.length_cons,List.length_nil,Nat.reduceAdd,Nat.reduceSub,Array.replicate_succ,Array.replicate_zero,List.push_toArray,List.append_toArray,List.nil_append,List.cons_append]
 gi_wp2
 clear ca za
 gi_loopw [10] (fun i wr=>∃ (k:Nat) (pre:List (MF ts cs)),k≤ts.length∧i=.int .i64 k∧Hid (pre.map (·.1)=(mnt ts cs).take k)∧J pre wr∧Box wr Bn [.slice a1 ts.length c1,.slice a2 cs.length c2]∧Below w0.heap.size w0 wr) (fun i _=>ts.length - (intOf i).toNat)
 case atStart=>exact ⟨0,[],Nat.zero_le _,rfl,Lib.hid rfl,h0,hBx,hW⟩
 case round =>
   obtain ⟨k,pre,hk,rfl,HP,hJs,hBr,hBl⟩:=hrel
   by_cases hlt:k < ts.length
   · obtain ⟨b1,o1,rfl,hR1⟩:=H1.out.get 36 rfl (List.getElem?_eq_getElem hlt)
     have x1:=range_below hR1 hBl
     have hpl:=pre_len12 HP.out (by omega)
     have HN:=Lib.hid (pre_next12 HP.out (mnt_t cs hlt))
     have HL:=Lib.hid (show pre.length < (mnt ts cs).length by rw [hpl,mnt_len];omega)
     obtain ⟨f,hf⟩:∃ f,ts[k]=f:=⟨_,rfl⟩
     have SV:=Lib.hid (size_tk f);have LV:=Lib.hid (len_tok Nums.zero f.k zeroD_len f.hg);have OV:=Lib.hid (one_tk f);have FT:=fun W=>poftok_is f W
     have HX:Hid (∃ x:MF ts cs,x.1=f.fr∧(pre ++ [x]).map (·.1)=(mnt ts cs).take (k + 1)):=Lib.hid ⟨_,by rw [← hf],HN.out⟩
     rw [show LT.f ts[k]=f.v from by rw [hf];rfl] at x1
     clear hf hR1 HN hpl
     obtain ⟨V,hV⟩:∃ X,f.v=X:=⟨_,rfl⟩
     obtain ⟨F,hF⟩:∃ X,mcell f.fr=X:=⟨_,rfl⟩
     rw [hV] at x1 SV OV FT
     rw [show tcell f.k f.g=V from hV] at LV
     rw [hF] at FT
     have i0:(0:Int)≤(k:Int):=(by omega);have i1:(k:Int) < (ts.length:Int):=(by omega)
     clear hV
     gi_wp2_with (first | (refine in_load_range rfl _ _ rfl x1 rfl Tryz.underlying27 rfl SV.out ?_) | (refine in_store_box (cs:=V) rfl _ _ _ rfl (Box.newc (l:=tcell Nums.zero zeroD) rfl rfl) rfl rfl SV.out LV.out OV.out ?_;intro W1 hW1) | (refine in_load_box rfl _ _ rfl hW1.box rfl Tryz.underlying27 rfl SV.out ?_))
     refine ⟨trivial,fun h=>(by cases h),?_⟩
     refine (callsIn_wide.2 (FT _)).mono ?_
     rintro e w5 ⟨rfl,hb⟩
     have hN:Below wr.heap.size wr w5:=below_thru (hW1.below _ _ (Nat.le_refl _) ((Below.refl _ _).alloc (Nat.le_refl _) _)) hb
     have hJ5:=HJ.out _ _ _ hJs (grown_none hN)
     have hB5:=below_thru hBl hN
     have hx5:=hBr.below hN
     obtain ⟨x,hx,hpx⟩:=HX.out
     have HPX:=Lib.hid hpx
     obtain ⟨fn,tmps,assign,body,hy,hR⟩:=HY.out pre x w5 hJ5 HL.out
     unfold mfV at hy
     rw [hx,hF] at hy
     clear hpx hx hF hJs hBl hBr hN hb hW1 x1 HX HL hJ5
     gi_wp2
     refine ⟨fun h=>(by cases h),?_⟩
     refine hR.mono ?_
     rintro e W3 (⟨rfl,hJ3,hk3⟩ | ⟨rfl,hJx3⟩)
     · have hB3:=hB5.trans hk3.1;have hx3:=hx5.kp hk3
       clear hB5 hx5 hk3 hR hy
       gi_wp2
       go_roundw
       case rel=>exact ⟨k + 1,pre ++ [x],by omega,by go_num,HPX,hJ3,hx3,hB3⟩
       case measure=>simp [intOf];omega
     · clear hB5 hx5 hR hy
       gi_wp2
       refine bodyPost_ret (results_none rfl _ _ _) rfl ?_
       exact ⟨⟨_,rfl⟩,.inr ⟨pre ++ [x],pre_pre12 HPX.out,hJx3⟩⟩
   · have hke:k=ts.length:=by omega
     have HP2:=Lib.hid (show pre.map (·.1)=(mnt ts cs).take (ts.length + 0) by rw [Nat.add_zero,← hke];exact HP.out)
     have hn1:decide ((k:Int) < (ts.length:Int))=false:=decide_eq_false (by omega)
     have ca:=hBr.c 1 _ rfl;have za:=hBr.lt
     clear hke HP
     gi_wp2
     clear ca za hn1 hlt hk
     gi_loopw [23] (fun i wr=>∃ (k:Nat) (pre:List (MF ts cs)),k≤cs.length∧i=.int .i64 k∧Hid (pre.map (·.1)=(mnt ts cs).take (ts.length + k))∧J pre wr∧Box wr Bn [.slice a1 ts.length c1,.slice a2 cs.length c2]∧Below w0.heap.size w0 wr) (fun i _=>cs.length - (intOf i).toNat)
     case atStart=>exact ⟨0,pre,Nat.zero_le _,rfl,HP2,hJs,hBr,hBl⟩
     case round =>
       clear hJs hBr hBl HP2
       obtain ⟨k,pre,hk,rfl,HP,hJs,hBr,hBl⟩:=hrel
       by_cases hlt:k < cs.length
       · obtain ⟨b1,o1,rfl,hR1⟩:=H2.out.get 47 rfl (List.getElem?_eq_getElem hlt)
         have x1:=range_below hR1 hBl
         have hpl:=pre_len12 HP.out (by omega)
         have HN:=Lib.hid (pre_next12 HP.out (mnt_c ts hlt))
         have HL:=Lib.hid (show pre.length < (mnt ts cs).length by rw [hpl,mnt_len];omega)
         obtain ⟨f,hf⟩:∃ f,cs[k]=f:=⟨_,rfl⟩
         have SV:=Lib.hid (size_cmd f);have LV:=Lib.hid (len_cmd Cmd.zero f);have OV:=Lib.hid (one_cmd f);have FT:=fun W=>pofcmd_is f W
         have HX:Hid (∃ x:MF ts cs,x.1=(Frm.cmd f)∧(pre ++ [x]).map (·.1)=(mnt ts cs).take ((ts.length + k) + 1)):=Lib.hid ⟨_,by rw [← hf],HN.out⟩
         rw [show LC.f cs[k]=ccell f from by rw [hf];rfl] at x1
         clear hf hR1 HN hpl
         obtain ⟨V,hV⟩:∃ X,ccell f=X:=⟨_,rfl⟩
         obtain ⟨F,hF⟩:∃ X,mcell (Frm.cmd f)=X:=⟨_,rfl⟩
         rw [hV] at x1 SV OV FT LV
         rw [hF] at FT
         have i0:(0:Int)≤(k:Int):=(by omega);have i1:(k:Int) < (cs.length:Int):=(by omega)
         clear hV
         gi_wp2_with (first | (refine in_load_range rfl _ _ rfl x1 rfl Tryz.underlying35 rfl SV.out ?_) | (refine in_store_box (cs:=V) rfl _ _ _ rfl (Box.newc (l:=ccell Cmd.zero) rfl rfl) rfl rfl SV.out LV.out OV.out ?_;intro W1 hW1) | (refine in_load_box rfl _ _ rfl hW1.box rfl Tryz.underlying35 rfl SV.out ?_))
         refine ⟨trivial,fun h=>(by cases h),?_⟩
         refine (callsIn_wide.2 (FT _)).mono ?_
         rintro e w5 ⟨rfl,hb⟩
         have hN:Below wr.heap.size wr w5:=below_thru (hW1.below _ _ (Nat.le_refl _) ((Below.refl _ _).alloc (Nat.le_refl _) _)) hb
         have hJ5:=HJ.out _ _ _ hJs (grown_none hN)
         have hB5:=below_thru hBl hN
         have hx5:=hBr.below hN
         obtain ⟨x,hx,hpx⟩:=HX.out
         have HPX:=Lib.hid hpx
         obtain ⟨fn,tmps,assign,body,hy,hR⟩:=HY.out pre x w5 hJ5 HL.out
         unfold mfV at hy
         rw [hx,hF] at hy
         clear hpx hx hF hJs hBl hBr hN hb hW1 x1 HX HL hJ5
         gi_wp2
         refine ⟨fun h=>(by cases h),?_⟩
         refine hR.mono ?_
         rintro e W3 (⟨rfl,hJ3,hk3⟩ | ⟨rfl,hJx3⟩)
         · have hB3:=hB5.trans hk3.1;have hx3:=hx5.kp hk3
           clear hB5 hx5 hk3 hR hy
           gi_wp2
           go_roundw
           case rel=>exact ⟨k + 1,pre ++ [x],by omega,by go_num,HPX,hJ3,hx3,hB3⟩
           case measure=>simp [intOf];omega
         · clear hB5 hx5 hR hy
           gi_wp2
           refine bodyPost_ret (results_none rfl _ _ _) rfl ?_
           exact ⟨⟨_,rfl⟩,.inr ⟨pre ++ [x],pre_pre12 HPX.out,hJx3⟩⟩
       · have HP2:=Lib.hid (pre_all12 HP.out (by omega))
         have hn1:decide ((k:Int) < (cs.length:Int))=false:=decide_eq_false (by omega)
         clear HP
         gi_wp2
         go_end0
         exact ⟨⟨_,rfl⟩,.inl ⟨pre,HP2.out,hJs⟩⟩
theorem minted_stops (n:Nat) (Bn:Nat) (w0 w:World) {a1 a2:Option Addr} {c1 c2:Nat} {ts:List Tk} {cs:List Cmd} (H1:Hid (IsR LT w0 (.slice a1 ts.length c1) ts)) (H2:Hid (IsR LC w0 (.slice a2 cs.length c2) cs)) (hw:Below w0.heap.size w0 w) (hBx:Box w Bn [.slice a1 ts.length c1,.slice a2 cs.length c2]) :
   SeqStopsK Fence.wide n Tryz.prog 73 #[.pointer (some ⟨Bn,0,none⟩)] (mfV (ts:=ts) (cs:=cs)) (KpB w0.heap.size Bn) (fun ys=>ys.map (·.1)=mnt ts cs) (fun pre=>pre.map (·.1) <+: mnt ts cs) (mnt ts cs).length w:=fun l J Jx W hW hJ _ hY h0 =>
 minted1_in n l Bn w0 H1 H2 J Jx (Lib.hid hY) (Lib.hid (fun s A B h hg=>hJ s A B none h hg (fun r e=>by cases e))) W (below_thru hw hW) (hBx.below hW) h0
end Go.Proofs.YtnfejdfjlnpldaaGreatDoor
