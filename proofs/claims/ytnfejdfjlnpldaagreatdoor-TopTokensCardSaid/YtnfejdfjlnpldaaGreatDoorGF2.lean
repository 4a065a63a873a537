import Derived.Test.YtnfejdfjlnpldaaGreatDoorGF1
import Derived.Test.YtnfejdfjlnpldaaGreatDoorGB1
import Derived.Test.YtnfejdfjlnpldaaGreatDoorGS1
import Derived.OwnWalk
import Derived.Laws.Cover3
set_option maxHeartbeats 3200000
set_option maxRecDepth 100000
namespace Go.Proofs.YtnfejdfjlnpldaaGreatDoor
open Go.RowKit
def GivesLE (xs:List Int) (c:Int) (w:World) (e:Ending) (w':World):Prop:=∃ v,e=.returned (.tuple #[v,.int .i64 c])∧IsL w' .u8 v xs∧Below w.heap.size w w'
theorem info_u8':(Tryz.prog.info? 5).map (fun i=>(i.zero,i.size,i.bytes))=some (some (.int .u8 0),1,1):=info_u8
set_option maxRecDepth 100000 in
set_option maxHeartbeats 1600000 in
theorem fwrite_bad {v:Value} {fs:List Fd} (w:World) (h1:IsR LF w v fs) (he:rowE fs ≠ 0):Calls Tryz.prog 50 #[v] w (GivesLE (rowV fs) (rowE fs) w):=by
 have C:=size_is w h1
 rw [rowV_bad he] at C ⊢
 obtain ⟨c,hc⟩:∃ c,rowE fs=c:=⟨_,rfl⟩
 rw [hc] at C he ⊢
 have hn:(c != 0)=true:=by simpa using he
 clear hc he
 go_enter Tryz.func50,Tryz.ntmps50
 go_wp2_with fail
 refine C.mono ?_
 rintro e w1 ⟨rfl,hb⟩
 go_wp2_with fail
 go_returns
 exact ⟨_,rfl,IsL.none,hb⟩
set_option maxRecDepth 100000 in
set_option maxHeartbeats 1600000 in
theorem fwrite_ok {v:Value} {fs:List Fd} (w:World) (h1:IsR LF w v fs) (he:rowE fs=0):Calls Tryz.prog 50 #[v] w (GivesLE (rowV fs) (rowE fs) w):=by
 have C:=size_is w h1
 rw [rowV_ok he] at C ⊢
 rw [he] at C ⊢
 obtain ⟨a0,c0,rfl,hr⟩:=id h1
 have i1:=hr.room
 have i2:=hr.most
 have hl:=(rowE_zero he).1
 have hm:=rowB_le fs
 have HR:=Lib.hid h1
 obtain ⟨m,hmm⟩:∃ m,(rowB fs).length=m:=⟨_,rfl⟩
 rw [hmm] at C hm
 obtain ⟨ti,hin,hz0,hz1,hz2⟩:=info_parts info_u8'
 clear hr he h1 hmm
 go_enter Tryz.func50,Tryz.ntmps50
 go_wp2_with fail
 refine C.mono ?_
 rintro e w1 ⟨rfl,hb⟩
 have hs:=hb.size
 go_upto_region 5 with (refine wpList_make_own _ rfl _ _ _ rfl w.heap.size 5 ti _ 1 Tryz.underlying43 hin hz0 hz1 _ _ _ m rfl rfl rfl (by rw [hz2];omega) (by unfold maxLen;omega) hs ?_;intro w2 hown hgrow)
 have hB:=hb.grown hgrow hs (by intro k hk;cases hk)
 clear hgrow C
 go_wp2_with fail
 go_loopw [6,21] (fun s6 s21 wr=>∃ (k n:Nat),s21=.int .i64 k∧k≤fs.length∧Hid (wr.ownsRow w.heap.size 5 1 s6 n ((rowB (fs.take k)).map (Value.int .u8)))∧Hid (n=(rowB (fs.take k)).length)∧Below w.heap.size w wr) (fun _ s21 _=>fs.length - (intOf s21).toNat)
 case atStart=>exact ⟨0,0,rfl,by omega,Lib.hid (by simpa [rowB] using hown),Lib.hid rfl,hB⟩
 case round =>
   clear hB hown
   obtain ⟨k,n,rfl,hk,HO,HN,hB⟩:=hrel
   have hs2:=hB.size
   by_cases hlt:k < fs.length
   case neg =>
     have hkk:fs.take k=fs:=List.take_of_length_le (by omega)
     have HX:=Lib.hid hkk
     clear hkk
     go_wp2_with fail
     go_returns
     refine ⟨_,rfl,?_,hB⟩
     have:=IsL.own HO.out HN.out
     rwa [HX.out] at this
   case pos =>
     obtain ⟨b,off,rfl,hR⟩:=HR.out.get 34 rfl (List.getElem?_eq_getElem hlt)
     have hR1:=range_below hR hB
     obtain ⟨f,hf⟩:∃ f,fs[k]=f:=⟨_,rfl⟩
     rw [hf] at hR1
     have hS:=lenFld f
     have h1:=oneFld f
     have hz:Fd.zero.v.length=f.v.length:=by rw [f.v_len,Fd.v_len]
     have C:=bytesOf_is f
     have HT:=Lib.hid (rowB_take_succ hlt)
     rw [hf] at HT
     have hn2:n + f.bs.length≤1280:=by
       have h2:=rowB_le (fs.take (k + 1))
       rw [HT.out,List.length_append,← HN.out,List.length_take] at h2
       omega
     clear hR hf
     obtain ⟨V,hV⟩:∃ V,f.v=V:=⟨_,rfl⟩
     rw [hV] at hS h1 C hz
     rw [show LF.f f=V from hV] at hR1
     clear hV
     go_upto_region 8 with (first | refine wpList_load_range rfl _ _ rfl hR1 rfl Tryz.underlying88 rfl hS ?_ | (refine wpList_store_box (cs:=V) rfl _ _ _ rfl (Box.newc (l:=Fd.zero.v) rfl rfl) rfl rfl hS hz h1 ?_;intro W1 hW1))
     have hB1:Below w.heap.size w W1:=hW1.below _ _ hs2 (by go_grown)
     have hW:Below wr.heap.size wr W1:=hW1.below _ _ (Nat.le_refl _) (by go_grown)
     have hbx:=hW1.box
     have HO1:=Lib.hid (ownR_below HO.out hW)
     clear HO hW1 hW
     go_wp2_with (refine wpList_load_box rfl _ _ rfl hbx rfl Tryz.underlying88 rfl hS ?_)
     refine (C _).mono ?_
     rintro e w3 ⟨vb,rfl,hLb,hb3⟩
     have hB3:=below_thru hB1 hb3
     have HO3:=ownR_below HO1.out hb3
     have hs3:=hB3.size
     obtain ⟨a3,c3,rfl,hi3,h03⟩:=hLb
     clear HO1
     go_wp2_with (at_builtin;refine wpList_append_ints rfl _ _ 43 rfl w.heap.size 5 ti (.int .u8 0) 1 .u8 Tryz.underlying43 hin hz0 hz1 hz2 rfl _ n _ rfl HO3 a3 c3 f.bs rfl hi3 h03 (by unfold maxLen;omega) (by omega) hs3 ?_;intro v4 w4 hown4 hgrow4)
     have hB4:=hB3.grown hgrow4 hs3 (own_block HO3)
     have HO4:Hid (w4.ownsRow w.heap.size 5 1 v4 (n + f.bs.length) ((rowB (fs.take (k + 1))).map (Value.int .u8))):=Lib.hid (by rw [HT.out,List.map_append];exact hown4)
     have HN4:Hid (n + f.bs.length=(rowB (fs.take (k + 1))).length):=Lib.hid (by rw [HT.out,List.length_append,← HN.out])
     clear hown4 hgrow4 HO3 hi3 h03
     go_wp2_with fail
     go_roundw
     case rel=>exact ⟨k + 1,n + f.bs.length,by go_num,by omega,HO4,HN4,hB4⟩
     case measure=>simp [intOf];omega
theorem fwrite_is {v:Value} {fs:List Fd} (w:World) (h1:IsR LF w v fs):Calls Tryz.prog 50 #[v] w (GivesLE (rowV fs) (rowE fs) w):=by
 by_cases h:rowE fs=0
 · exact fwrite_ok w h1 h
 · exact fwrite_bad w h1 h
end Go.Proofs.YtnfejdfjlnpldaaGreatDoor
namespace Go.Proofs.YtnfejdfjlnpldaaGreatDoor
open Go.RowKit
theorem IsL.rangeOf {w:World} {k:IntKind} {a:Option Addr} {n c:Nat} {xs:List Int} (h:IsL w k (.slice a n c) xs) (h0:0 < xs.length):∃ b off,a=some ⟨b,off,Option.none⟩∧w.rangeAt b off (xs.map (Value.int k)):=by
 obtain ⟨b,off,e,_⟩:=h.get 0 h0
 refine ⟨b,off,e,fun j v hv=>?_⟩
 have hj:j < xs.length:=by
   rcases Nat.lt_or_ge j xs.length with q | q
   · exact q
   · rw [List.getElem?_eq_none (by simpa using q)] at hv;cases hv
 rw [nth_at' j hj] at hv
 cases hv
 obtain ⟨b',off',e',hc⟩:=h.get j hj
 rw [e] at e'
 cases e'
 exact hc
theorem pow_le7 {n:Nat} (h:n≤7):(256:Int) ^ n≤256 ^ 7:=by
 have:n=0∨n=1∨n=2∨n=3∨n=4∨n=5∨n=6∨n=7:=by omega
 rcases this with q | q | q | q | q | q | q | q <;> subst q <;> decide
theorem or_byte (N x:Int) (h0:0≤N) (h1:N < 72057594037927936) (h2:0≤x) (h3:x≤255):bits .or .u64 (N * 256) x=256 * N + x:=by
 obtain ⟨a,rfl⟩:∃ a:Nat,N=a:=⟨N.toNat,by omega⟩
 obtain ⟨c,rfl⟩:∃ c:Nat,x=c:=⟨x.toNat,by omega⟩
 have e:((a:Int) * 256)=((a * 256:Nat):Int):=by omega
 rw [e,u64_or_nat _ _ (by omega) (by omega)]
 have:=Nat.shiftLeft_add_eq_or_of_lt (i:=8) (b:=c) (by omega) a
 rw [Nat.shiftLeft_eq] at this
 have e2:a * 2 ^ 8=a * 256:=rfl
 rw [e2] at this
 rw [← this]
 omega
theorem num_snoc' {xs:List Int} {k:Nat} (h:k < xs.length):num (xs.take (k + 1))=256 * num (xs.take k) + nth xs k:=by
 rw [take_succ_nth h,num_snoc]
def fcell (k n:Int) (d:List Int):List Value:=.int .u8 k :: .int .u64 n :: d.map (Value.int .u8)
theorem fcell_len (k n:Int) (d:List Int) (hd:d.length=32):(fcell k n d).length=34:=by simp [fcell,hd]
theorem sizeC (k n:Int) (d:List Int) (hd:d.length=32):(Tryz.prog.info? 88).map (·.size)=some (fcell k n d).length:=by rw [sizeFld,fcell_len _ _ _ hd]
theorem oneC (k n:Int) (d:List Int):(fcell k n d).toArray.all (·.oneCell')=true:=all_oneCell_toArray (fun u hu=>by
 simp [fcell] at hu
 rcases hu with rfl | rfl | ⟨y,_,rfl⟩ <;> rfl)
theorem fld_v {k:Int} {bs:List Int} (hk:0≤k∧k≤255) (hl:bs.length=wid k) (hb:Byts bs):(fld k bs).v=fcell k (fldN k bs) (fldD k bs):=by
 obtain ⟨h1,h2,h3⟩:=fld_ok hk hl hb
 unfold Fd.v fcell
 rw [h1,h2,h3]
set_option maxRecDepth 100000 in
set_option maxHeartbeats 1600000 in
theorem fieldOf_dig {v:Value} {bs:List Int} (w:World) (h1:IsL w .u8 v bs) (hl:bs.length=32):Calls Tryz.prog 85 #[.int .u8 6,v] w fun e w'=>e=.returned (.agg (fcell 6 0 bs).toArray)∧Below w.heap.size w w':=by
 obtain ⟨a0,c0,rfl,hr,_⟩:=id h1
 have i1:=hr.room
 have i2:=hr.most
 obtain ⟨b,off,rfl,hR⟩:=h1.rangeOf (by omega)
 have hS:(Tryz.prog.info? 23).map (·.size)=some (bs.map (Value.int .u8)).length:=by rw [sizeDig,List.length_map,hl]
 clear h1 hr
 rw [hl] at i1 ⊢
 go_enter Tryz.func85,Tryz.ntmps85
 go_upto_region 2 with (refine wpList_store_box (cs:=fcell 6 0 zeroD) rfl _ _ _ rfl (Box.newc (l:=Fd.zero.v) rfl (by simp)) rfl rfl (sizeC _ _ _ rfl) rfl (oneC _ _ _) ?_;intro w1 hW1)
 have hB1:Below w.heap.size w w1:=hW1.below _ _ (by omega) (by go_grown)
 have hX1:=hW1.box
 have hY1:Box w1 w.heap.size Fd.zero.v:=hW1.past _ _ (by omega) (Box.alloc (Box.newc rfl rfl) _)
 have hs1:=hB1.size
 have hR1:=range_below hR hB1
 have z1:=hX1.lt
 have z2:=hY1.lt
 have hA:∀ W,(Instr.arrayAt 23 (.slice (some ⟨b,off,none⟩) 32 c0)).run Tryz.prog W=.ok (.pointer (some ⟨b,off,none⟩)) W:=fun W=>run_arrayAt W 23 _ 32 _ 32 c0 Tryz.underlying23 (Nat.le_refl _)
 clear hW1 hR
 go_upto_region 4 with (first | refine wpList_load_range rfl _ _ rfl hR1 rfl Tryz.underlying23 rfl hS ?_ | (refine wpList_store_part (cs:=bs.map (Value.int .u8)) (ws:=fcell 6 0 bs) rfl _ _ _ rfl hX1 rfl rfl hS (by simp [fcell,zeroD,hl]) (by simp [fcell,zeroD,hl]) (oneCell_ints _) ?_;intro w2 hW2))
 have hB2:Below w.heap.size w w2:=hW2.below _ _ (by omega) hB1
 have hX2:=hW2.box
 have hY2:Box w2 w.heap.size Fd.zero.v:=hW2.past _ _ (by omega) hY1
 clear hW2 hX1 hY1 hR1 hB1
 go_wp2_with (first | refine wpList_load_box rfl _ _ rfl hX2 rfl Tryz.underlying88 rfl (sizeC _ _ _ hl) ?_ | (refine wpList_store_box (cs:=fcell 6 0 bs) rfl _ _ _ rfl hY2 rfl rfl (sizeC _ _ _ hl) (by rw [fcell_len _ _ _ hl];rfl) (oneC _ _ _) ?_;intro w3 hW3))
 refine bodyPost_ret (results_box (b:=w.heap.size) (cs:=fcell 6 0 bs) Tryz.results85 hW3.box rfl Tryz.underlying88 rfl (sizeC _ _ _ hl)) rfl ⟨rfl,hW3.below _ _ (by omega) hB2⟩
set_option maxRecDepth 100000 in
set_option maxHeartbeats 1600000 in
theorem fieldOf_num {v:Value} {k:Int} {bs:List Int} (w:World) (h1:IsL w .u8 v bs) (h6:k ≠ 6) (hl:bs.length≤8) (hby:Byts bs):Calls Tryz.prog 85 #[.int .u8 k,v] w fun e w'=>e=.returned (.agg (fcell k (num bs) zeroD).toArray)∧Below w.heap.size w w':=by
 obtain ⟨a0,c0,rfl,hr,_⟩:=id h1
 have i1:=hr.room
 have i2:=hr.most
 have HR:=Lib.hid h1
 have HB:=Lib.hid hby
 have hk6:(k == 6)=false:=by simpa using h6
 clear h1 hr hby h6
 go_enter Tryz.func85,Tryz.ntmps85
 go_upto_region 2 with (refine wpList_store_box (cs:=fcell k 0 zeroD) rfl _ _ _ rfl (Box.newc (l:=Fd.zero.v) rfl (by simp)) rfl rfl (sizeC _ _ _ rfl) rfl (oneC _ _ _) ?_;intro w1 hW1)
 have hB1:Below w.heap.size w w1:=hW1.below _ _ (by omega) (by go_grown)
 have hX1:=hW1.box
 have hY1:Box w1 w.heap.size Fd.zero.v:=hW1.past _ _ (by omega) (Box.alloc (Box.newc rfl rfl) _)
 have hs1:=hB1.size
 clear hW1
 go_wp2_with fail
 go_loopw [19] (fun i wr=>∃ j:Nat,j≤bs.length∧i=.int .i64 j∧Box wr (w.heap.size + 1) (fcell k (num (bs.take j)) zeroD)∧Box wr w.heap.size Fd.zero.v∧Below w.heap.size w wr) (fun i _=>bs.length - (intOf i).toNat)
 case atStart=>exact ⟨0,by omega,rfl,hX1,hY1,hB1⟩
 case round =>
   clear hX1 hY1 hB1
   obtain ⟨j,hj,rfl,hX,hY,hB⟩:=hrel
   have z1:=hX.lt
   have z2:=hY.lt
   by_cases hlt:j < bs.length
   · obtain ⟨b,off,rfl,hc⟩:=HR.out.get j hlt
     have c1:=cell_below hB hc
     obtain ⟨x,hx⟩:∃ x,nth bs j=x:=⟨_,rfl⟩
     obtain ⟨N,hN⟩:∃ N,num (bs.take j)=N:=⟨_,rfl⟩
     have hN2:num (bs.take (j + 1))=256 * N + x:=by rw [num_snoc' hlt,hN,hx]
     have hxb:0≤x∧x≤255:=by rw [← hx];exact nth_all HB.out j hlt
     have hNb:0≤N∧N < 72057594037927936:=by
       have h3:=num_bound _ (bs.take j) rfl (HB.out.take j)
       have h4:(256:Int) ^ (bs.take j).length≤256 ^ 7:=pow_le7 (by rw [List.length_take];omega)
       rw [hN] at h3
       have h5:(256:Int) ^ 7=72057594037927936:=by decide
       omega
     have hx0:=hxb.1
     have hx1:=hxb.2
     have hN0:=hNb.1
     have hN1:=hNb.2
     rw [hx] at c1
     rw [hN] at hX
     have d1:=hX.c 1 (.int .u64 N) rfl
     have f1:=hX.f 1 (.int .u64 N) rfl
     have HN:=Lib.hid hN2
     have HE:=Lib.hid (or_byte N x hN0 hN1 hx0 hx1)
     clear hc hN hN2 hx hxb hNb
     go_wp2_with fail
     go_roundw
     case rel =>
       refine ⟨j + 1,by omega,by go_num,?_,hY.other (by show w.heap.size + 1 ≠ w.heap.size;omega) _,hB.setCell (by show w.heap.size≤w.heap.size + 1;omega) _⟩
       rw [HN.out,← HE.out]
       exact hX.set 1 _
     case measure=>simp [intOf];omega
   · obtain rfl:j=bs.length:=by omega
     rw [List.take_length] at hX
     go_wp2_with (first | refine wpList_load_box rfl _ _ rfl hX rfl Tryz.underlying88 rfl (sizeC _ _ _ rfl) ?_ | (refine wpList_store_box (cs:=fcell k (num bs) zeroD) rfl _ _ _ rfl hY rfl rfl (sizeC _ _ _ rfl) rfl (oneC _ _ _) ?_;intro w3 hW3))
     refine bodyPost_ret (results_box (b:=w.heap.size) (cs:=fcell k (num bs) zeroD) Tryz.results85 hW3.box rfl Tryz.underlying88 rfl (sizeC _ _ _ rfl)) rfl ⟨rfl,hW3.below _ _ (by omega) hB⟩
theorem fieldOf_is {v:Value} {k:Int} {bs:List Int} (w:World) (h1:IsL w .u8 v bs) (hk:0≤k∧k≤255) (hl:bs.length=wid k) (hby:Byts bs):Calls Tryz.prog 85 #[.int .u8 k,v] w fun e w'=>e=.returned (.agg (fld k bs).v.toArray)∧Below w.heap.size w w':=by
 rw [fld_v hk hl hby]
 by_cases h6:k=6
 · subst h6
   exact fieldOf_dig w h1 hl
 · have e1:fldN k bs=num bs:=if_neg h6
   have e2:fldD k bs=zeroD:=if_neg h6
   rw [e1,e2]
   refine fieldOf_num w h1 h6 ?_ hby
   rw [hl]
   have:k=6∨wid k≤8:=by unfold wid;(repeat' split) <;> simp_all
   omega
end Go.Proofs.YtnfejdfjlnpldaaGreatDoor
namespace Go.Proofs.YtnfejdfjlnpldaaGreatDoor
open Go.RowKit
theorem IsL.dropped {w:World} {k:IntKind} {b off n c m:Nat} {xs:List Int} (h:IsL w k (.slice (some ⟨b,off,Option.none⟩) n c) xs) (hm:m≤xs.length) {n' c':Nat} {a':Option Addr} (hn:n'=xs.length - m) (hc:c'=c - m) (ha:a'=some ⟨b,off + m,Option.none⟩∨(xs.length - m=0∧a' ≠ Option.none)) :
   IsL w k (.slice a' n' c') (xs.drop m):=by
 obtain ⟨a0,c0,e,hi,_⟩:=h
 injection e with e1 e2 e3
 subst e2 e3 hn hc
 have hl:(xs.drop m).length=xs.length - m:=List.length_drop
 have h1:=hi.room
 have h2:=hi.most
 refine ⟨a',c - m,by rw [hl],⟨by omega,by omega,fun h0=>?_⟩,fun q=>?_⟩
 · rcases ha with rfl | ⟨q,_⟩
   · refine ⟨b,off + m,rfl,fun i hi'=>?_⟩
     obtain ⟨b',off',e',hc'⟩:=hi.cells (by omega)
     rw [← e1] at e'
     cases e'
     rw [nth_drop,Nat.add_assoc]
     exact hc' (m + i) (by omega)
   · omega
 · rcases ha with rfl | ⟨_,q'⟩
   · cases q
   · exact absurd q q'
theorem IsL.taken {w:World} {k:IntKind} {a:Option Addr} {n c m:Nat} {xs:List Int} (h:IsL w k (.slice a n c) xs) (hm:m≤xs.length):IsL w k (.slice a m c) (xs.take m):=by
 obtain ⟨a0,c0,e,hi,h0⟩:=h
 injection e with e1 e2 e3
 subst e1 e2 e3
 exact ⟨a,c,by rw [List.length_take,Nat.min_eq_left hm],hi.take m hm,h0⟩
theorem if_alt {c m n:Nat} {a':Option Addr} {b1 o1:Nat} (h:a'=if c=m then some ⟨b1,o1,none⟩ else some ⟨b1,o1 + m,none⟩) (hz:c=m→n - m=0):a'=some ⟨b1,o1 + m,none⟩∨(n - m=0∧a' ≠ none):=by
 split at h
 · rename_i q
   exact Or.inr ⟨hz q,by rw [h];simp⟩
 · exact Or.inl h
theorem ret3 {v u:Value} {c d:Int} (h:c=d):Ending.returned (.tuple #[v,u,.int .i64 c])=.returned (.tuple #[v,u,.int .i64 d]):=by rw [h]
theorem IsR.ofBox {α:Type} {L:Lay α} {w:World} {b n:Nat} {V:List Value} {xs:List α} (h:Box w b V) (hV:V=flatR L xs) (hn:n=xs.length) (hm:n≤1000):IsR L w (.slice (some ⟨b,0,Option.none⟩) n n) xs:=by
 subst hn hV
 refine ⟨some ⟨b,0,Option.none⟩,xs.length,rfl,⟨Nat.le_refl _,by omega,fun _=>⟨b,0,rfl,fun i x hi j v hv=>?_⟩,fun q=>by cases q⟩⟩
 rw [Nat.zero_add]
 exact h.c _ _ (flatR_at hi hv)
def GivesRL (fs:List Fd) (bs:List Int) (c:Int) (w:World) (e:Ending) (w':World):Prop :=
 ∃ v u,e=.returned (.tuple #[v,u,.int .i64 c])∧w'.ownsRow w.heap.size 88 34 v fs.length (flatR LF fs)∧IsL w' .u8 u bs∧Below w.heap.size w w'
theorem ownF_nil {w:World} {B:Nat}:w.ownsRow B 88 34 (.slice none 0 0) ([]:List Fd).length (flatR LF []):=⟨rfl,Or.inl ⟨rfl,rfl⟩⟩
set_option maxRecDepth 100000 in
theorem info_fld:(Tryz.prog.info? 88).map (fun i=>(i.zero,i.size,i.bytes))=some (some (.agg Fd.zero.v.toArray),34,48):=by kernel_rfl
theorem nth_mem {xs:List Int} {k:Nat} (h:k < xs.length):nth xs k ∈ xs:=by
 unfold nth
 rw [List.getD_eq_getElem?_getD,List.getElem?_eq_getElem h,Option.getD_some]
 exact List.getElem_mem h
theorem split_at {xs:List Int} {k:Nat} (h:k < xs.length):xs=xs.take k ++ nth xs k :: xs.drop (k + 1):=by
 have e:=take_succ_nth h
 have:=List.take_append_drop (k + 1) xs
 rw [e,List.append_assoc] at this
 exact this.symm
set_option maxRecDepth 100000 in
set_option maxHeartbeats 1600000 in
theorem readRow_bad {v u:Value} {ks bs:List Int} (w:World) (h1:IsL w .u8 v ks) (he:kinE ks ≠ 0):Calls Tryz.prog 58 #[v,u] w (GivesRL (firF ks bs) (firR ks bs) (firE ks bs) w):=by
 have C:=ckinds_is w h1
 obtain ⟨e1,e2,e3⟩:=fir_bad (ks:=ks) (bs:=bs) rfl he
 rw [e1,e2,e3]
 obtain ⟨c,hc⟩:∃ c,kinE ks=c:=⟨_,rfl⟩
 rw [hc] at C he ⊢
 have hn:(c != 0)=true:=by simpa using he
 clear hc he e1 e2 e3
 go_enter Tryz.func58,Tryz.ntmps58
 go_wp2_with fail
 refine C.mono ?_
 rintro e w1 ⟨rfl,hb⟩
 go_wp2_with fail
 go_returns
 exact ⟨_,_,rfl,ownF_nil,IsL.none,hb⟩
set_option maxRecDepth 100000 in
set_option maxHeartbeats 3200000 in
theorem readRow_ok {v u:Value} {ks bs:List Int} (w:World) (h1:IsL w .u8 v ks) (h2:IsL w .u8 u bs) (hkb:∀ k ∈ ks,0≤k∧k≤255) (hbb:Byts bs) (he:kinE ks=0):Calls Tryz.prog 58 #[v,u] w (GivesRL (firF ks bs) (firR ks bs) (firE ks bs) w):=by
 have C:=ckinds_is w h1
 rw [he] at C
 have HK:=Lib.hid he
 have HKB:=Lib.hid hkb
 have HBB:=Lib.hid hbb
 obtain ⟨a0,c0,rfl,hr,_⟩:=id h1
 have i1:=hr.room
 have i2:=hr.most
 have i3:=(kinE_zero he).1
 have HR:=Lib.hid h1
 have HU:=Lib.hid h2
 obtain ⟨ti,hin,hz0,hz1,hz2⟩:=info_parts info_fld
 clear hr he h1 hkb hbb h2
 go_enter Tryz.func58,Tryz.ntmps58
 go_wp2_with fail
 refine C.mono ?_
 rintro e w1 ⟨rfl,hb⟩
 have hs:=hb.size
 go_upto_region 5 with (refine wpList_make_own _ rfl _ _ _ rfl w.heap.size 88 ti _ 34 Tryz.underlying76 hin hz0 hz1 _ _ _ ks.length rfl rfl rfl (by rw [hz2];omega) (by unfold maxLen;omega) hs ?_;intro w2 hown hgrow)
 have hB:=hb.grown hgrow hs (by intro k hk;cases hk)
 clear hgrow C
 go_wp2_with fail
 go_loopw [1,8,23] (fun s1 s8 s23 wr=>∃ (k:Nat) (fs:List Fd) (rest:List Int),s23=.int .i64 k∧k≤ks.length∧fs.length=k∧Hid (Rd (ks.take k) bs fs rest)∧Hid (wr.ownsRow w.heap.size 88 34 s8 k (flatR LF fs))∧Hid (IsL w .u8 s1 rest)∧Below w.heap.size w wr) (fun _ _ s23 _=>ks.length - (intOf s23).toNat)
 case atStart=>exact ⟨0,[],bs,rfl,by omega,rfl,Lib.hid (Rd.nil bs),Lib.hid hown,HU,hB⟩
 case round =>
   clear hB hown HU
   obtain ⟨k,fs,rest,rfl,hk,hfk,HRD,HO,HL,hB⟩:=hrel
   have hs2:=hB.size
   by_cases hlt:k < ks.length
   case neg =>
     have hkk:ks.take k=ks:=List.take_of_length_le (by omega)
     have HX:=Lib.hid (fir_some HK.out (show Rd ks bs fs rest by have:=HRD.out;rwa [hkk] at this))
     clear hkk
     go_wp2_with fail
     go_returns
     refine ⟨_,_,ret3 HX.out.1.symm,?_,?_,hB⟩
     · rw [HX.out.2.1,hfk];exact HO.out
     · rw [HX.out.2.2];exact HL.out.below hB
   case pos =>
     obtain ⟨b,off,rfl,hc⟩:=HR.out.get k hlt
     have c1:=cell_below hB hc
     obtain ⟨x,hx⟩:∃ x,nth ks k=x:=⟨_,rfl⟩
     rw [hx] at c1
     have hxb:0≤x∧x≤255:=by rw [← hx];exact HKB.out _ (nth_mem hlt)
     have HSP:=Lib.hid (split_at hlt)
     rw [hx] at HSP
     have HTK:=Lib.hid (take_succ_nth hlt)
     rw [hx] at HTK
     have hx0:wid x ≠ 0:=by rw [← hx];exact (kinE_zero HK.out).2 _ (nth_mem hlt)
     have W:=wd_is x
     obtain ⟨a1,q1,rfl,hr1,_⟩:=id HL.out
     have j1:=hr1.room
     have j2:=hr1.most
     have hxw:=wid_le x
     clear hr1 hc hx
     by_cases hsh:rest.length < wid x
     · have HX:=Lib.hid (fir_none HK.out (show rd ks bs=none by rw [HSP.out];exact rd_none HRD.out (Or.inl hsh)))
       obtain ⟨n,hn⟩:∃ n,wid x=n:=⟨_,rfl⟩
       rw [hn] at W hsh hxw
       have d1:decide ((rest.length:Int) < (n:Int))=true:=decide_eq_true (by omega)
       clear hn hx0
       go_wp2_with fail
       refine (W _).mono ?_
       rintro e w3 ⟨rfl,rfl⟩
       go_wp2_with fail
       go_returns
       refine ⟨_,_,ret3 HX.out.1.symm,?_,?_,hB⟩
       · rw [HX.out.2.1];exact ownF_nil
       · rw [HX.out.2.2];exact IsL.none
     · obtain ⟨b1,off1,rfl,_⟩:=HL.out.get 0 (by omega)
       have hsl:=HL.out.taken (m:=wid x) (by omega)
       have hlen:(rest.take (wid x)).length=wid x:=by rw [List.length_take];omega
       have hbr:Byts rest:=Byts.right (by rw [HRD.out.b];exact HBB.out)
       have FO:=fun (W:World) (hW:IsL W .u8 (.slice (some ⟨b1,off1,none⟩) (wid x) q1) (rest.take (wid x)))=>fieldOf_is W hW hxb hlen (hbr.take _)
       have HD:∀ (W:World) (n' c':Nat) (a':Option Addr),IsL W .u8 (.slice (some ⟨b1,off1,none⟩) rest.length q1) rest→n'=rest.length - wid x→c'=q1 - wid x→a'=(if q1=wid x then some ⟨b1,off1,none⟩ else some ⟨b1,off1 + wid x,none⟩)→IsL W .u8 (.slice a' n' c') (rest.drop (wid x)):=fun W n' c' a' h hn hc ha=>h.dropped (by omega) hn hc (if_alt ha (fun q=>by omega))
       have HNX:(fld x (rest.take (wid x))).ok=true→Rd (ks.take (k + 1)) bs (fs ++ [fld x (rest.take (wid x))]) (rest.drop (wid x)):=fun h=>by rw [HTK.out];exact HRD.out.snoc HBB.out hxb (by omega) h
       have HNO:(fld x (rest.take (wid x))).ok=false→rd ks bs=none:=fun h=>by rw [HSP.out];exact rd_none HRD.out (Or.inr h)
       obtain ⟨f,hf⟩:∃ f,fld x (rest.take (wid x))=f:=⟨_,rfl⟩
       rw [hf] at FO HNX HNO
       obtain ⟨n,hn⟩:∃ n,wid x=n:=⟨_,rfl⟩
       rw [hn] at W hsh hxw hsl FO HD HNX hx0
       have d1:decide ((rest.length:Int) < (n:Int))=false:=decide_eq_false (by omega)
       have hle:n≤rest.length:=by omega
       have HNX:=Lib.hid HNX
       have HNO:=Lib.hid HNO
       have HD:=Lib.hid HD
       have hS:=lenFld f
       have h1:=oneFld f
       have hz:Fd.zero.v.length=f.v.length:=by rw [f.v_len,Fd.v_len]
       have C:=check_is f
       have HF1:=Lib.hid (flatR_app LF fs [f])
       have HF2:=Lib.hid (flatR_one LF f)
       obtain ⟨V,hV⟩:∃ V,f.v=V:=⟨_,rfl⟩
       have hVl:V.length=34:=by rw [← hV];exact f.v_len
       rw [show LF.f f=V from hV] at HF2
       rw [hV] at hS h1 hz C FO
       clear hf hn hlen hbr hV
       have HSL:=Lib.hid (hsl.below hB)
       clear hsl
       go_wp2_with fail
       refine (W _).mono ?_
       rintro e w3 ⟨rfl,rfl⟩
       go_wp2_with fail
       refine (FO _ HSL.out).mono ?_
       rintro e w4 ⟨rfl,hb4⟩
       have hB4:=below_thru hB hb4
       have hs4:=hB4.size
       go_upto_region 12 with (refine wpList_store_box (cs:=V) rfl _ _ _ rfl (Box.newc (l:=Fd.zero.v) rfl rfl) rfl rfl hS hz h1 ?_;intro w5 hW5)
       have hg5:Below w4.heap.size w4 w5:=hW5.below _ _ (Nat.le_refl _) (by go_grown)
       have hB5:Below w.heap.size w w5:=below_thru hB4 hg5
       have hbx:=hW5.box
       have hg35:=below_thru hb4 hg5
       clear hW5 hg5 hB4 hb4 FO
       go_wp2_with (refine wpList_load_box rfl _ _ rfl hbx rfl Tryz.underlying88 rfl hS ?_)
       refine (C _).mono ?_
       rintro e w6 ⟨rfl,hb6⟩
       have hB6:=below_thru hB5 hb6
       have hg36:=below_thru hg35 hb6
       have hbx6:=hbx.below hb6
       clear hB5 hb6 hg35 hbx C
       rcases Fd.err_two f with ⟨y1,y2⟩ | ⟨y1,y2⟩
       · rw [y2]
         have HRD2:=Lib.hid (HNX.out y1)
         have HO6:=Lib.hid (ownR_below HO.out hg36)
         have hs6:=hB6.size
         clear y1 y2 HO hg36 HNX HNO hB HSL
         go_upto_region 14 with fail
         refine wp_region_held_drew (S:=fun _=>True) (by kernel_rfl) trivial (fun _=>?_)
         refine F_drew (F:=fun W=>wpAnyH _ _ _ _ _ _ _ _ W) ?_
         intro W0 hb0
         have hx0:=hbx6.below hb0;have hO0:=ownR_below HO6.out hb0;have hB0:=below_thru hB6 hb0;have hs0:=hB0.size
         clear hbx6 HO6 hB6 hb0
         refine takeH 0 41 (v:=?vr0_1) rfl (by rfl) (by kernel_rfl) (by kernel_rfl) (by kernel_rfl) (fun _ _ _ h=>h) (Or.inl ⟨by rfl,?_⟩) (trivial) ?_
         rotate_left
         · intro wq hSq
           go_simp
           exact rfl
         try simp only [Act.put,qzA,qz0,qzS]
         refine takeH 4 45 (v:=?vr4_2) rfl (by rfl) (by kernel_rfl) (by kernel_rfl) (by kernel_rfl) (fun _ _ _ h=>h) (Or.inl ⟨by rfl,?_⟩) (trivial) ?_
         rotate_left
         · intro wq hSq
           go_simp
           exact rfl
         try simp only [Act.put,qzA,qz0,qzS]
         refine takeH 5 46 (v:=?vr5_3) rfl (by rfl) (by kernel_rfl) (by kernel_rfl) (by kernel_rfl) (fun _ _ _ h=>h) (Or.inl ⟨by rfl,?_⟩) (trivial) ?_
         rotate_left
         · intro wq hSq
           go_simp
           exact rfl
         try simp only [Act.put,qzA,qz0,qzS]
         refine takeH 6 47 (v:=?vr6_4) rfl (by rfl) (by kernel_rfl) (by kernel_rfl) (by kernel_rfl) (fun _ _ _ h=>h) (Or.inl ⟨by rfl,?_⟩) (trivial) ?_
         rotate_left
         · intro wq hSq
           go_simp
           exact rfl
         try simp only [Act.put,qzA,qz0,qzS]
         refine wpAnyH_ready (rs:=[1]) (by kernel_rfl) (by simp) (AllReadyH.cons rfl (fun K hK=>?_) AllReadyH.nil)
         refine step_load_box rfl _ _ rfl hx0 rfl Tryz.underlying88 rfl hS ?_
         refine hK.out _ _ trivial (fun _=>?_);clear hK K
         refine wpAnyH_ready (rs:=[2]) (by kernel_rfl) (by simp) (AllReadyH.cons rfl (fun K hK=>?_) AllReadyH.nil)
         refine step_bslice rfl 76 1 _ rfl rfl (run_bslice W0 76 88 ti _ 34 Tryz.underlying76 hin hz0 hz1 rfl V hVl (by decide) (by decide)) ?_
         refine hK.out _ _ trivial (fun _=>?_);clear hK K
         refine F_alloc (F:=fun W=>wpAnyH _ _ _ _ _ _ _ _ W) V rfl ?_
         intro W6 hx6 hb6
         have hr6:IsR LF W6 (.slice (some ⟨W0.heap.size,0,none⟩) 1 1) [f]:=IsR.ofBox hx6 (HF2.out.symm) rfl (by decide)
         have hO6:=ownR_below hO0 hb6;have hB6:=below_thru hB0 hb6;have hs6:=hB6.size
         refine wpAnyH_ready (rs:=[3]) (by kernel_rfl) (by simp) (AllReadyH.cons rfl (fun K hK=>?_) AllReadyH.nil)
         refine step_append_rows rfl LF _ _ 76 rfl w.heap.size 88 ti (.agg Fd.zero.v.toArray) 34 48 rfl Tryz.underlying76 hin hz0 hz1 hz2 rfl _ k _ rfl hO6 _ [f] rfl hr6 (by unfold maxLen;simp;omega) (by simp;omega) hs6 ?_
         intro v7 W7 hO7 hg7
         have hB7:=hB6.trans hg7
         refine hK.out _ _ trivial (fun _=>?_);clear hK K
         refine takeH 7 8 (v:=?vr7_8) rfl (by rfl) (by kernel_rfl) (by kernel_rfl) (by kernel_rfl) (fun _ _ _ h=>h) (Or.inl ⟨by rfl,?_⟩) (trivial) ?_
         rotate_left
         · intro wq hSq
           go_simp
           exact rfl
         try simp only [Act.put,List.setIfInBounds_toArray]
         refine takeH 8 1 (v:=?vr8_9) rfl (by rfl) (by kernel_rfl) (by kernel_rfl) (by kernel_rfl) (fun _ _ _ h=>h) (Or.inl ⟨by rfl,?_⟩) (trivial) ?_
         rotate_left
         · intro wq hSq
           go_simp
           exact rfl
         try simp only [Act.put]
         refine wpAnyH_done (by kernel_rfl) ?_ _
         go_wp2_with fail
         go_roundw
         case rel=>exact ⟨k + 1,fs ++ [f],rest.drop n,by go_num,by omega,by simp [hfk],HRD2,Lib.hid (by rw [HF1.out];exact hO7),Lib.hid (HD.out _ _ _ _ HL.out rfl rfl rfl),hB7⟩
         case measure=>simp [intOf];omega
       · rw [y2]
         have HX:=Lib.hid (fir_none HK.out (HNO.out y1))
         clear y1 y2
         go_wp2_with fail
         go_returns
         refine ⟨_,_,ret3 HX.out.1.symm,?_,?_,hB6⟩
         · rw [HX.out.2.1];exact ownF_nil
         · rw [HX.out.2.2];exact IsL.none
end Go.Proofs.YtnfejdfjlnpldaaGreatDoor
namespace Go.Proofs.YtnfejdfjlnpldaaGreatDoor
open Go.RowKit
def GivesRE (fs:List Fd) (c:Int) (w:World) (e:Ending) (w':World):Prop :=
 ∃ v,e=.returned (.tuple #[v,.int .i64 c])∧w'.ownsRow w.heap.size 88 34 v fs.length (flatR LF fs)∧Below w.heap.size w w'
def GivesOwn (bs:List Int) (w:World) (e:Ending) (w':World):Prop:=∃ v,e=.returned v∧w'.ownsRow w.heap.size 5 1 v bs.length (bs.map (Value.int .u8))∧Below w.heap.size w w'
theorem ownU_nil {w:World} {B:Nat}:w.ownsRow B 5 1 (.slice none 0 0) ([]:List Int).length (([]:List Int).map (Value.int .u8)):=⟨rfl,Or.inl ⟨rfl,rfl⟩⟩
theorem readRow_is {v u:Value} {ks bs:List Int} (w:World) (h1:IsL w .u8 v ks) (h2:IsL w .u8 u bs) (hkb:∀ k ∈ ks,0≤k∧k≤255) (hbb:Byts bs):Calls Tryz.prog 58 #[v,u] w (GivesRL (firF ks bs) (firR ks bs) (firE ks bs) w):=by
 by_cases h:kinE ks=0
 · exact readRow_ok w h1 h2 hkb hbb h
 · exact readRow_bad w h1 h
theorem firE_no {ks bs:List Int} (h:firE ks bs ≠ 0):firF ks bs=[]∧firR ks bs=[]:=by
 rcases kinE_cases ks with q | q | q
 · cases hr:rd ks bs with
   | none=>exact (fir_none q hr).2
   | some p=>exact absurd (by unfold firE;rw [if_pos q,hr]) h
 · exact (fir_bad q (by decide)).2
 · exact (fir_bad q (by decide)).2
set_option maxRecDepth 100000 in
set_option maxHeartbeats 1600000 in
theorem read_is {v u:Value} {ks bs:List Int} (w:World) (h1:IsL w .u8 v ks) (h2:IsL w .u8 u bs) (hkb:∀ k ∈ ks,0≤k∧k≤255) (hbb:Byts bs):Calls Tryz.prog 25 #[v,u] w (GivesRE (reaF ks bs) (reaE ks bs) w):=by
 have C:=readRow_is w h1 h2 hkb hbb
 have hk:=Lib.hid (firE_no (ks:=ks) (bs:=bs))
 have hE:reaE ks bs=if firE ks bs=0 then (if firR ks bs=[] then 0 else 12) else firE ks bs:=rfl
 have hF:reaF ks bs=if reaE ks bs=0 then firF ks bs else []:=rfl
 obtain ⟨fs,hfs⟩:∃ fs,firF ks bs=fs:=⟨_,rfl⟩
 obtain ⟨rs,hrs⟩:∃ rs,firR ks bs=rs:=⟨_,rfl⟩
 obtain ⟨c,hc⟩:∃ c,firE ks bs=c:=⟨_,rfl⟩
 rw [hfs,hrs,hc] at C
 rw [hrs,hc] at hE
 rw [hfs] at hF
 clear h1 h2 hk
 by_cases h0:c=0
 · subst h0
   rw [if_pos rfl] at hE
   by_cases h1:rs=[]
   · rw [if_pos h1] at hE
     rw [hE,if_pos rfl] at hF
     rw [hE,hF]
     subst h1
     clear hE hF hfs hrs hc
     go_enter Tryz.func25,Tryz.ntmps25
     go_wp2_with fail
     refine C.mono ?_
     rintro e w1 ⟨v1,u1,rfl,ho,hl,hb⟩
     obtain ⟨a1,c1,rfl,_,_⟩:=hl
     go_wp2_with fail
     go_returns
     exact ⟨_,rfl,ho,hb⟩
   · rw [if_neg h1] at hE
     rw [hE,if_neg (by decide)] at hF
     rw [hE,hF]
     have hp:0 < rs.length:=List.length_pos_iff.2 h1
     have d1:decide (0 < rs.length)=true:=decide_eq_true hp
     clear hE hF hfs hrs hc h1 hp
     go_enter Tryz.func25,Tryz.ntmps25
     go_wp2_with fail
     refine C.mono ?_
     rintro e w1 ⟨v1,u1,rfl,ho,hl,hb⟩
     obtain ⟨a1,c1,rfl,_,_⟩:=hl
     go_wp2_with fail
     go_returns
     exact ⟨_,rfl,ownF_nil,hb⟩
 · rw [if_neg h0] at hE
   rw [hE,if_neg h0] at hF
   rw [hE,hF]
   have d1:(c != 0)=true:=by simpa using h0
   clear hE hF hfs hrs hc h0
   go_enter Tryz.func25,Tryz.ntmps25
   go_wp2_with fail
   refine C.mono ?_
   rintro e w1 ⟨v1,u1,rfl,ho,hl,hb⟩
   go_wp2_with fail
   go_returns
   exact ⟨_,rfl,ownF_nil,hb⟩
end Go.Proofs.YtnfejdfjlnpldaaGreatDoor
namespace Go.Proofs.YtnfejdfjlnpldaaGreatDoor
open Go.RowKit
theorem IsL.ints {w:World} {k:IntKind} {a:Option Addr} {n c:Nat} {xs:List Int} (h:IsL w k (.slice a n c) xs):Ints w k a c xs:=by
 obtain ⟨a',c',e,h1,_⟩:=h
 injection e with e1 e2 e3
 subst e1 e2 e3
 exact h1
end Go.Proofs.YtnfejdfjlnpldaaGreatDoor
