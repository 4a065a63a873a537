import Derived.Test.YtnfejdfjlnpldaaGreatDoorGS1
import Derived.Test.YtnfejdfjlnpldaaGreatDoorGS2
import Derived.Laws.BitsAllLaws
import Derived.Laws.CopyOwn
import Derived.Deep.RegionHeld
import Derived.Lib.SmallJoins
set_option maxHeartbeats 1600000
set_option maxRecDepth 100000
namespace Go.Proofs.YtnfejdfjlnpldaaGreatDoor
open Go.RowKit
theorem shaOf_len (b:List Int):(shaOf b).length=32:=by unfold shaOf;rw [dig_len]
theorem shaOf_bytes (b:List Int):bytesL (shaOf b):=by unfold shaOf;exact dig_bytes _
theorem zeros_bytes (n:Nat):bytesL (List.replicate n 0):=bytesL.of_all fun x hx=>by
 obtain ⟨_,rfl⟩:=List.mem_replicate.1 hx
 omega
def key64 (K:List Int):List Int:=if 64 < K.length then shaOf K else K
def blk (K:List Int):List Int:=key64 K ++ List.replicate (64 - (key64 K).length) 0
theorem key64_short {K:List Int} (h:K.length≤64):key64 K=K:=by unfold key64;rw [if_neg (by omega)]
theorem key64_long {K:List Int} (h:64 < K.length):key64 K=shaOf K:=by unfold key64;rw [if_pos h]
theorem key64_len (K:List Int):(key64 K).length≤64:=by
 unfold key64
 split
 · rw [shaOf_len];omega
 · omega
theorem key64_bytes {K:List Int} (h:bytesL K):bytesL (key64 K):=by
 unfold key64
 split
 · exact shaOf_bytes _
 · exact h
theorem blk_len (K:List Int):(blk K).length=64:=by
 have:=key64_len K
 unfold blk
 rw [List.length_append,List.length_replicate]
 omega
theorem blk_bytes {K:List Int} (h:bytesL K):bytesL (blk K):=(key64_bytes h).append (zeros_bytes _)
theorem blk_short {K:List Int} (h:K.length≤64):blk K=K ++ List.replicate (64 - K.length) 0:=by unfold blk;rw [key64_short h]
theorem blk_long {K D:List Int} (h:64 < K.length) (hD:shaOf K=D):blk K=D ++ List.replicate (64 - D.length) 0:=by unfold blk;rw [key64_long h,hD]
def mixL (y:Int) (l:List Int):List Int:=l.map fun x=>bits .xor .u8 x y
theorem mixL_len (y:Int) (l:List Int):(mixL y l).length=l.length:=by simp [mixL]
def mixN (y:Nat) (l:List Int):List Int:=l.map fun x=>((x.toNat ^^^ y:Nat):Int)
theorem mixL_nat {y:Nat} {l:List Int} (hy:y < 256) (h:bytesL l):mixL (y:Int) l=mixN y l:=by
 unfold mixL mixN
 refine List.map_congr_left fun x hx=>?_
 obtain ⟨i,hi,rfl⟩:=List.getElem_of_mem hx
 have:=h i hi
 unfold nth at this
 rw [List.getD_eq_getElem?_getD,List.getElem?_eq_getElem hi,Option.getD_some] at this
 rw [u8_xor _ _ this.1 this.2 (by omega) (by omega),Int.toNat_natCast]
theorem mixL_bytes {y:Nat} {l:List Int} (hy:y < 256) (h:bytesL l):bytesL (mixL (y:Int) l):=by
 rw [mixL_nat hy h]
 refine bytesL.of_all fun x hx=>?_
 unfold mixN at hx
 obtain ⟨z,hz,rfl⟩:=List.mem_map.1 hx
 obtain ⟨i,hi,rfl⟩:=List.getElem_of_mem hz
 have:=h i hi
 unfold nth at this
 rw [List.getD_eq_getElem?_getD,List.getElem?_eq_getElem hi,Option.getD_some] at this
 have h1:(l[i]).toNat < 2 ^ 8:=by omega
 have h2:y < 2 ^ 8:=by omega
 have:=Nat.xor_lt_two_pow h1 h2
 omega
def padI (K:List Int):List Int:=mixL 54 (blk K)
def padO (K:List Int):List Int:=mixL 92 (blk K)
theorem padI_len (K:List Int):(padI K).length=64:=by unfold padI;rw [mixL_len,blk_len]
theorem padO_len (K:List Int):(padO K).length=64:=by unfold padO;rw [mixL_len,blk_len]
theorem padI_bytes {K:List Int} (h:bytesL K):bytesL (padI K):=mixL_bytes (y:=54) (by omega) (blk_bytes h)
theorem padO_bytes {K:List Int} (h:bytesL K):bytesL (padO K):=mixL_bytes (y:=92) (by omega) (blk_bytes h)
def innerL (K b:List Int):List Int:=shaOf (padI K ++ b)
def outerL (K d:List Int):List Int:=shaOf (padO K ++ d)
def tagL (K b:List Int):List Int:=outerL K (innerL K b)
theorem tagL_len (K b:List Int):(tagL K b).length=32:=shaOf_len _
def mixS (y:Int) (l:List Int) (k:Nat):List Int:=mixL y (l.take k) ++ l.drop k
theorem mixS_zero (y:Int) (l:List Int):mixS y l 0=l:=by simp [mixS,mixL]
theorem mixS_all (y:Int) (l:List Int) (k:Nat) (h:l.length≤k):mixS y l k=mixL y l:=by
 unfold mixS
 rw [List.take_of_length_le h,List.drop_eq_nil_of_le h,List.append_nil]
theorem mixS_len (y:Int) (l:List Int) (k:Nat):(mixS y l k).length=l.length:=by
 unfold mixS
 rw [List.length_append,mixL_len,← List.length_append,List.take_append_drop]
theorem mixS_nth (y:Int) (l:List Int) (k:Nat) (h:k < l.length):nth (mixS y l k) k=nth l k:=by
 have hl:(mixL y (l.take k)).length=k:=by rw [mixL_len,List.length_take];omega
 unfold nth mixS
 rw [List.getD_eq_getElem?_getD,List.getElem?_append_right (by omega),hl,Nat.sub_self,List.getElem?_drop,Nat.add_zero,List.getD_eq_getElem?_getD]
theorem mixS_succ (y:Int) (l:List Int) (k:Nat) (h:k < l.length):(mixS y l k).set k (bits .xor .u8 (nth l k) y)=mixS y l (k + 1):=by
 have hl:(mixL y (l.take k)).length=k:=by rw [mixL_len,List.length_take];omega
 unfold mixS
 rw [List.set_append_right _ _ (by omega),hl,Nat.sub_self,List.drop_eq_getElem_cons h,List.set_cons_zero,List.take_succ_eq_append_getElem h]
 unfold mixL
 rw [List.map_append,List.append_assoc]
 have:nth l k=l[k]:=by
   unfold nth
   rw [List.getD_eq_getElem?_getD,List.getElem?_eq_getElem h,Option.getD_some]
 rw [this]
 rfl
theorem splice_block {α:Type} (f:Int→α) (X:List Int):splice ((List.replicate 64 0).map f) 0 (X.map f)=(X ++ List.replicate (64 - X.length) 0).map f:=by
 unfold splice
 rw [List.take_zero,List.nil_append,Nat.zero_add,List.length_map,List.map_append,← List.map_drop,List.drop_replicate]
end Go.Proofs.YtnfejdfjlnpldaaGreatDoor
namespace Go.Proofs.YtnfejdfjlnpldaaGreatDoor
open Go.RowKit
theorem size_b64:(Tryz.prog.info? 123).map (·.size)=some 64:=by kernel_rfl
theorem size8u:(Tryz.prog.info? 5).map (·.size)=some 1:=by kernel_rfl
def zeros64:List Int:=List.replicate 64 0
def zero64:List Value:=zeros64.map (Value.int .u8)
def av (xs:List Int):Value:=.agg (xs.map (Value.int .u8)).toArray
theorem size_of64 {B:List Int} (h:B.length=64):(Tryz.prog.info? 123).map (·.size)=some (B.map (Value.int .u8)).length:=by rw [List.length_map,h];exact size_b64
theorem len_of64 {B:List Int} (h:B.length=64):zero64.length=(B.map (Value.int .u8)).length:=by rw [List.length_map,h];rfl
theorem Box.keep {w w':World} {b:Nat} {vs:List Value} (h:Box w b vs) (hh:w'.heap[b]? = w.heap[b]?) (hs:w.heap.size≤w'.heap.size):Box w' b vs :=
 ⟨fun i v e=>by have:=h.c i v e;simpa [World.cell?,hh] using this,fun i v e=>by have:=h.f i v e;simpa [World.frozen?,hh] using this,Nat.lt_of_lt_of_le h.lt hs⟩
theorem Box.keepB {w w':World} {b B:Nat} {vs:List Value} (h:Box w b vs) (hb:Below B w w') (hB:b < B):Box w' b vs:=h.keep (hb.block b hB) hb.size
theorem Box.row {w:World} {b:Nat} {l:List Value} {t:TypeId} (h:w.heap[b]? = some (.cells l.toArray t (0,0))):Box w b l:=by
 have hb:=(Array.getElem?_eq_some_iff.1 h).1
 exact ⟨fun i v e=>by simp [World.cell?,h,e],fun i v e=>by simp [World.frozen?,h],hb⟩
theorem isl_src {w:World} {v:Value} {xs:List Int} (h:IsL w .u8 v xs):∃ (sp:Option Addr) (c:Nat),v=.slice sp xs.length c∧(0 < (xs.map (Value.int .u8)).length→∃ ad,sp=some ad∧∀ j u,(xs.map (Value.int .u8))[j]? = some u→w.cell? (ad.add j)=some u):=by
 obtain ⟨a,c,rfl,hi,h0⟩:=h
 refine ⟨a,c,rfl,fun hp=>?_⟩
 rw [List.length_map] at hp
 obtain ⟨b,off,rfl,hc⟩:=hi.cells hp
 refine ⟨_,rfl,fun j u hu=>?_⟩
 have hj:j < xs.length:=by
   have:=(List.getElem?_eq_some_iff.1 hu).1
   simpa using this
 rw [nth_at j hj] at hu
 cases hu
 rw [Go.WideShapes.add_plain]
 exact hc j hj
theorem oneCells {k:IntKind} (xs:List Int):∀ v ∈ xs.map (Value.int k),v.oneCell'=true:=fun v hv=>by
 obtain ⟨x,_,rfl⟩:=List.mem_map.1 hv
 rfl
set_option maxRecDepth 100000 in
set_option maxHeartbeats 1600000 in
theorem block_many {a0:Option Addr} {n c0:Nat} (w:World) (hl:200 < n) (hm:n≤9223372036854775807) :
   Calls Tryz.prog 90 #[.slice a0 n c0] w fun e w'=>e=.returned (.tuple #[av zeros64,.int .i64 4])∧Below w.heap.size w w':=by
 go_enter Tryz.func90,Tryz.ntmps90
 go_wp2_with (first
   | (refine wpList_load_box rfl _ _ rfl (Box.newc (l:=zero64) rfl (by simp)) rfl Tryz.underlying123 rfl size_b64 ?_)
   | (refine wpList_store_box (cs:=zero64) rfl _ _ _ rfl (Box.alloc (Box.newc (l:=zero64) rfl rfl) _) rfl rfl size_b64 rfl (oneCell_ints _) ?_;intro W3 hW3))
 exact bodyPost_ret (v:=.tuple #[.agg zero64.toArray,.int .i64 4]) (results_box2 Tryz.results90 hW3.box rfl rfl Tryz.underlying123 rfl size_b64) rfl ⟨rfl,hW3.below _ _ (Nat.le_refl _) (by go_grown)⟩
set_option maxRecDepth 100000 in
set_option maxHeartbeats 1600000 in
theorem block_short {v:Value} {K B:List Int} (w:World) (hi:Hid (IsL w .u8 v K)) (hl:K.length≤64) (hB:Hid (blk K=B)) :
   Calls Tryz.prog 90 #[v] w fun e w'=>e=.returned (.tuple #[av B,.int .i64 0])∧Below w.heap.size w w':=by
 have hbl:B.length=64:=by rw [← hB.out,blk_len]
 have I64:=Lib.hid (size_of64 hbl)
 have HLL:=Lib.hid (len_of64 hbl)
 have hr:=hi.out
 obtain ⟨a0,c0,rfl,hin,_⟩:=id hr
 have r1:=hin.room
 have r2:=hin.most
 clear hr hin
 have HSP:=Lib.hid (show splice zero64 0 (K.map (Value.int .u8))=B.map (Value.int .u8) by rw [← hB.out,blk_short hl];exact splice_block _ K)
 have HM:=Lib.hid (show (K.map (Value.int .u8)).length=Nat.min K.length 64 by rw [List.length_map];exact (Nat.min_eq_left hl).symm)
 have HL64:=Lib.hid (show 0 + (K.map (Value.int .u8)).length≤zero64.length by rw [List.length_map,Nat.zero_add];exact hl)
 clear hbl hB
 go_enter Tryz.func90,Tryz.ntmps90
 go_upto_region 1 with fail
 go_cut [2,4] (fun p q wx=>p=.pointer (some ⟨w.heap.size,0,none⟩)∧q=.pointer (some ⟨w.heap.size + 1,0,none⟩)∧Box wx w.heap.size zero64∧wx.heap[w.heap.size + 1]? = some (.cells zero64.toArray 123 (0,0))∧Below w.heap.size w wx)
 case first =>
   go_wp2_with fail
   go_meet
   exact ⟨rfl,rfl,Box.alloc (Box.newc rfl rfl) _,by rw [← show (w.alloc _).heap.size=w.heap.size + 1 from by simp];exact heap_alloc_new _ _,by go_grown⟩
 case rest =>
   obtain ⟨rfl,rfl,hx,hg,hB⟩:=hcut
   obtain ⟨w1,rfl⟩:∃ u:World,u=wc:=⟨_,rfl⟩
   obtain ⟨sp,c,ev,hsrc⟩:=isl_src (hi.out.below hB)
   injection ev with e1 e2 e3
   subst e1 e3
   have HS:=Lib.hid hsrc
   have hz:=(Array.getElem?_eq_some_iff.1 hg).1
   clear hsrc e2
   go_upto_region 8 with (with_reducible refine wpList_copy_splice rfl (.tmp 20) (.tmp 21) 43 43 rfl 5 Tryz.underlying43 size8u (some ⟨w.heap.size + 1,0,none⟩) a0 64 64 K.length c0 rfl rfl (w.heap.size + 1) 0 zero64 123 hg (K.map (Value.int .u8)) HM.out (fun hp=>⟨rfl,HS.out hp⟩) HL64.out (oneCells K) (w.heap.size + 1) w1 (Below.refl _ _) (Nat.le_refl _) ?_;intro w2 hg2 hb2)
   have hg3:=hg2.out
   rw [HSP.out] at hg3
   have hxb:Box w2 (w.heap.size + 1) (B.map (Value.int .u8)):=Box.row hg3
   have hx2:=hx.keepB hb2 (by omega)
   have hBq:Below w.heap.size w w2:=hB.trans (hb2.mono (by omega))
   clear hg3 hg2 hb2
   go_wp2_with (first
     | (refine wpList_load_box rfl _ _ rfl hxb rfl Tryz.underlying123 rfl I64.out ?_)
     | (refine wpList_store_box (cs:=B.map (Value.int .u8)) rfl _ _ _ rfl hx2 rfl rfl I64.out HLL.out (oneCell_ints _) ?_;intro W3 hW3))
   exact bodyPost_ret (v:=.tuple #[.agg (B.map (Value.int .u8)).toArray,.int .i64 0]) (results_box2 Tryz.results90 hW3.box rfl rfl Tryz.underlying123 rfl I64.out) rfl ⟨rfl,hW3.below _ _ (Nat.le_refl _) hBq⟩
set_option maxRecDepth 100000 in
set_option maxHeartbeats 1600000 in
theorem block_long {v:Value} {K B:List Int} (w:World) (hi:Hid (IsL w .u8 v K)) (hl:64 < K.length) (hl2:K.length≤200) (hk:Hid (bytesL K)) (hB:Hid (blk K=B)) (hL:Hid (LaidS w)) :
   Calls Tryz.prog 90 #[v] w fun e w'=>e=.returned (.tuple #[av B,.int .i64 0])∧Below w.heap.size w w':=by
 have hbl:B.length=64:=by rw [← hB.out,blk_len]
 have I64:=Lib.hid (size_of64 hbl)
 have HLL:=Lib.hid (len_of64 hbl)
 have hr:=hi.out
 obtain ⟨a0,c0,rfl,hin,_⟩:=id hr
 have r1:=hin.room
 have r2:=hin.most
 clear hr hin
 obtain ⟨D,hD⟩:∃ D,shaOf K=D:=⟨_,rfl⟩
 have HD:=Lib.hid hD
 have hDl:D.length=32:=by rw [← hD,shaOf_len]
 have HSP:=Lib.hid (show splice zero64 0 (D.map (Value.int .u8))=B.map (Value.int .u8) by rw [← hB.out,blk_long hl hD];exact splice_block _ D)
 have HM:=Lib.hid (show (D.map (Value.int .u8)).length=Nat.min 32 64 by rw [List.length_map,hDl];rfl)
 have HL64:=Lib.hid (show 0 + (D.map (Value.int .u8)).length≤zero64.length by rw [List.length_map,hDl];decide)
 have I32:=Lib.hid (show (Tryz.prog.info? 23).map (·.size)=some (D.map (Value.int .u8)).length by rw [List.length_map,hDl];exact size32)
 have H32:=Lib.hid (show zero32.length=(D.map (Value.int .u8)).length by rw [List.length_map,hDl];rfl)
 have HDl:=Lib.hid hDl
 clear hbl hB hD hDl
 go_enter Tryz.func90,Tryz.ntmps90
 go_upto_region 1 with fail
 go_cut [2,4] (fun p q wx=>p=.pointer (some ⟨w.heap.size,0,none⟩)∧q=.pointer (some ⟨w.heap.size + 1,0,none⟩)∧Box wx w.heap.size zero64∧wx.heap[w.heap.size + 1]? = some (.cells zero64.toArray 123 (0,0))∧Below w.heap.size w wx)
 case first =>
   go_wp2_with fail
   go_meet
   exact ⟨rfl,rfl,Box.alloc (Box.newc rfl rfl) _,by rw [← show (w.alloc _).heap.size=w.heap.size + 1 from by simp];exact heap_alloc_new _ _,by go_grown⟩
 case rest =>
   obtain ⟨rfl,rfl,hx,hg,hB⟩:=hcut
   obtain ⟨w1,rfl⟩:∃ u:World,u=wc:=⟨_,rfl⟩
   have hz:=(Array.getElem?_eq_some_iff.1 hg).1
   have HG:=Lib.hid hg
   clear hg
   go_wp2_with fail
   refine (sum_ok _ (Lib.hid (hi.out.below hB)) (by omega) hk HD (Lib.hid (hL.out.below hB))).mono ?_
   rintro e w2 ⟨rfl,hb⟩
   have hB2:Below w.heap.size w w2:=below_thru hB hb
   have hx2:=hx.below hb
   have hs2:=hB2.size
   have hs3:=hb.size
   have HG2:=Lib.hid (show w2.heap[w.heap.size + 1]? = some (.cells zero64.toArray 123 (0,0)) by rw [hb.block _ hz];exact HG.out)
   clear hb hB hx HG hi
   go_upto_region 6 with (refine wpList_store_box (cs:=D.map (Value.int .u8)) rfl _ _ _ rfl (Box.newc (l:=zero32) rfl rfl) rfl rfl I32.out H32.out (oneCell_ints _) ?_;intro w3 hW)
   have hB3:Below w.heap.size w w3:=hW.below _ _ hs2 (hB2.alloc hs2 _)
   have hx3:Box w3 w.heap.size zero64:=hW.past _ _ (by omega) (hx2.alloc _)
   have hxd:=hW.box
   have hg3:w3.heap[w.heap.size + 1]? = some (.cells zero64.toArray 123 (0,0)):=by
     rw [hW.block _ (by omega),heap_alloc_old _ _ (by omega)]
     exact HG2.out
   have HS:=Lib.hid (fun (_:0 < (D.map (Value.int .u8)).length)=>(⟨_,rfl,fun j u hu=>by rw [Go.WideShapes.add_plain,Nat.zero_add];exact hxd.c j u hu⟩:∃ ad,(some (⟨w2.heap.size,0,none⟩:Addr))=some ad∧∀ j u,(D.map (Value.int .u8))[j]? = some u→w3.cell? (ad.add j)=some u))
   clear hW hB2 hx2 HG2 hxd
   go_upto_region 8 with (with_reducible refine wpList_copy_splice rfl (.tmp 20) (.tmp 21) 43 43 rfl 5 Tryz.underlying43 size8u (some ⟨w.heap.size + 1,0,none⟩) (some ⟨w2.heap.size,0,none⟩) 64 64 32 32 rfl rfl (w.heap.size + 1) 0 zero64 123 hg3 (D.map (Value.int .u8)) HM.out (fun hp=>⟨rfl,HS.out hp⟩) HL64.out (oneCells D) (w.heap.size + 1) w3 (Below.refl _ _) (Nat.le_refl _) ?_;intro w4 hg2 hb2)
   have hg3:=hg2.out
   rw [HSP.out] at hg3
   have hxb:Box w4 (w.heap.size + 1) (B.map (Value.int .u8)):=Box.row hg3
   have hx2:=hx3.keepB hb2 (by omega)
   have hBq:Below w.heap.size w w4:=hB3.trans (hb2.mono (by omega))
   clear hg3 hg2 hb2
   go_wp2_with (first
     | (refine wpList_load_box rfl _ _ rfl hxb rfl Tryz.underlying123 rfl I64.out ?_)
     | (refine wpList_store_box (cs:=B.map (Value.int .u8)) rfl _ _ _ rfl hx2 rfl rfl I64.out HLL.out (oneCell_ints _) ?_;intro W3 hW3))
   exact bodyPost_ret (v:=.tuple #[.agg (B.map (Value.int .u8)).toArray,.int .i64 0]) (results_box2 Tryz.results90 hW3.box rfl rfl Tryz.underlying123 rfl I64.out) rfl ⟨rfl,hW3.below _ _ (Nat.le_refl _) hBq⟩
theorem block_ok {v:Value} {K B:List Int} (w:World) (hi:Hid (IsL w .u8 v K)) (hl:K.length≤200) (hk:Hid (bytesL K)) (hB:Hid (blk K=B)) (hL:Hid (LaidS w)) :
   Calls Tryz.prog 90 #[v] w fun e w'=>e=.returned (.tuple #[av B,.int .i64 0])∧Below w.heap.size w w':=by
 rcases Nat.lt_or_ge 64 K.length with q | q
 · exact block_long w hi q hl hk hB hL
 · exact block_short w hi q hB
end Go.Proofs.YtnfejdfjlnpldaaGreatDoor
namespace Go.Proofs.YtnfejdfjlnpldaaGreatDoor
open Go.RowKit
theorem results_box3 {P:Program} {w:World} {fn:Func} {p q r:Tmp} {ty:TypeId} (h:fn.results = #[.cell p ty,.cell q ty,.tmp r]) {tmps:Array Value} {b b':Nat} {cs cs':List Value} {u:Value} (hb:Box w b cs) (hb':Box w b' cs')
   (hp:tmps.getD p undef=.pointer (some ⟨b,0,none⟩)) (hq:tmps.getD q undef=.pointer (some ⟨b',0,none⟩)) (hr:tmps.getD r undef=u) {d:TypeDesc} (hu:P.underlying ty=some d) (hd:d.isRow=true) (hi:(P.info? ty).map (·.size)=some cs.length) (hi':(P.info? ty).map (·.size)=some cs'.length) :
   (results fn tmps).run P w=.ok (.tuple #[.agg cs.toArray,.agg cs'.toArray,u]) w:=by
 have hp':tmps[p]?.getD undef=.pointer (some ⟨b,0,none⟩):=by simpa using hp
 have hq':tmps[q]?.getD undef=.pointer (some ⟨b',0,none⟩):=by simpa using hq
 have hr':tmps[r]?.getD undef=u:=by simpa using hr
 simp [results,h,hp',hq',hr',asAddr,run_var_box hb ty hu hd hi,run_var_box hb' ty hu hd hi']
set_option maxRecDepth 100000 in
set_option maxHeartbeats 1600000 in
theorem pad_is {b:Nat} {B P:List Int} (y:Int) (w:World) (hx:Box w b (B.map (Value.int .u8))) (hl:Hid (B.length=64)) (hP:Hid (mixL y B=P)) :
   Calls Tryz.prog 91 #[.int .u8 y,.pointer (some ⟨b,0,none⟩)] w fun e w'=>e=.returned (av P)∧Below w.heap.size w w':=by
 have I64:=Lib.hid (size_of64 hl.out)
 have HLL:=Lib.hid (len_of64 hl.out)
 have hpl:P.length=64:=by rw [← hP.out,mixL_len,hl.out]
 have J64:=Lib.hid (size_of64 hpl)
 have KLL:=Lib.hid (len_of64 hpl)
 clear hpl
 go_enter Tryz.func91,Tryz.ntmps91
 go_upto_region 2 with (first
   | (refine wpList_load_box rfl _ _ rfl (Box.alloc hx _) rfl Tryz.underlying123 rfl I64.out ?_)
   | (refine wpList_store_box (cs:=B.map (Value.int .u8)) rfl _ _ _ rfl (Box.newc (l:=zero64) rfl (by simp)) rfl rfl I64.out HLL.out (oneCell_ints _) ?_;intro w1 hW))
 have hxr:Box w1 w.heap.size zero64:=hW.past _ _ (by omega) (Box.alloc (Box.newc rfl rfl) _)
 have hB1:Below w.heap.size w w1:=hW.below _ _ (by omega) (by go_grown)
 have hxp:Box w1 (w.heap.size + 1) ((mixS y B 0).map (Value.int .u8)):=by rw [mixS_zero];exact hW.box
 clear hW hx
 go_wp2_with fail
 go_loopw [7] (fun i wr=>∃ k:Nat,k≤64∧i=.int .i64 k∧Box wr (w.heap.size + 1) ((mixS y B k).map (Value.int .u8))∧Box wr w.heap.size zero64∧Below w.heap.size w wr) (fun i _=>64 - (intOf i).toNat)
 case atStart=>exact ⟨0,by omega,rfl,hxp,hxr,hB1⟩
 case round =>
   clear hxp hxr hB1
   obtain ⟨k,hk,rfl,hX,hR,hB⟩:=hrel
   have z1:=hX.lt
   by_cases hlt:k < 64
   · have hkb:k < B.length:=by rw [hl.out];exact hlt
     have c1:=hX.c k _ (nth_at k (by rw [mixS_len];exact hkb))
     have f1:=hX.f k _ (nth_at k (by rw [mixS_len];exact hkb))
     have S:=Lib.hid (mixS_succ y B k hkb)
     rw [mixS_nth y B k hkb] at c1
     generalize nth B k=x at *
     clear hkb
     go_wp2_with fail
     go_roundw
     case rel =>
       refine ⟨k + 1,by omega,by go_num,?_,hR.other (by show w.heap.size + 1 ≠ w.heap.size;omega) _,hB.setCell (show w.heap.size≤w.heap.size + 1 by omega) _⟩
       rw [← S.out,List.map_set]
       exact hX.set k _
     case measure=>simp [intOf];omega
   · obtain rfl:k=64:=by omega
     rw [mixS_all y B 64 (by rw [hl.out];exact Nat.le_refl _),hP.out] at hX
     go_wp2_with (first
       | (refine wpList_load_box rfl _ _ rfl hX rfl Tryz.underlying123 rfl J64.out ?_)
       | (refine wpList_store_box (cs:=P.map (Value.int .u8)) rfl _ _ _ rfl hR rfl rfl J64.out KLL.out (oneCell_ints _) ?_;intro W3 hW3))
     exact bodyPost_ret (v:=av P) (results_box Tryz.results91 hW3.box rfl Tryz.underlying123 rfl J64.out) rfl ⟨rfl,hW3.below _ _ (Nat.le_refl _) hB⟩
set_option maxRecDepth 100000 in
set_option maxHeartbeats 1600000 in
theorem pads_ok {v:Value} {K P Q:List Int} (w:World) (hi:Hid (IsL w .u8 v K)) (hl:K.length≤200) (hk:Hid (bytesL K)) (hP:Hid (padI K=P)) (hQ:Hid (padO K=Q)) (hL:Hid (LaidS w)) :
   Calls Tryz.prog 61 #[v] w fun e w'=>e=.returned (.tuple #[av P,av Q,.int .i64 0])∧Below w.heap.size w w':=by
 obtain ⟨B,hBe⟩:∃ B,blk K=B:=⟨_,rfl⟩
 have hBl:B.length=64:=by rw [← hBe,blk_len]
 have HBE:=Lib.hid hBe
 have HBL:=Lib.hid hBl
 have I64:=Lib.hid (size_of64 hBl)
 have HLL:=Lib.hid (len_of64 hBl)
 have hpl:P.length=64:=by rw [← hP.out,padI_len]
 have hql:Q.length=64:=by rw [← hQ.out,padO_len]
 have J1:=Lib.hid (size_of64 hpl)
 have K1:=Lib.hid (len_of64 hpl)
 have J2:=Lib.hid (size_of64 hql)
 have K2:=Lib.hid (len_of64 hql)
 have M1:=Lib.hid (show mixL 54 B=P by rw [← hBe];exact hP.out)
 have M2:=Lib.hid (show mixL 92 B=Q by rw [← hBe];exact hQ.out)
 clear hBe hBl hpl hql
 go_enter Tryz.func61,Tryz.ntmps61
 go_wp2_with fail
 have hx2:Box ((w.alloc (.cells zero64.toArray 123)).alloc (.cells zero64.toArray 123)) w.heap.size zero64:=Box.alloc (Box.newc rfl rfl) _
 have hx3:Box ((w.alloc (.cells zero64.toArray 123)).alloc (.cells zero64.toArray 123)) (w.heap.size + 1) zero64:=Box.newc rfl (by simp)
 refine (block_ok _ (Lib.hid ((hi.out.alloc _).alloc _)) hl hk HBE (Lib.hid ((hL.out.alloc _).alloc _))).mono ?_
 rintro e w1 ⟨rfl,hb⟩
 have hB1:Below w.heap.size w w1:=below_thru (by go_grown) hb
 have hx2:Box w1 w.heap.size zero64:=Box.below hx2 hb
 have hx3:Box w1 (w.heap.size + 1) zero64:=Box.below hx3 hb
 have hs1:=hB1.size
 have hz2:=hx3.lt
 clear hb
 go_upto_region 2 with (refine wpList_store_box (cs:=B.map (Value.int .u8)) rfl _ _ _ rfl (Box.newc (l:=zero64) rfl rfl) rfl rfl I64.out HLL.out (oneCell_ints _) ?_;intro w2 hW)
 have hB2:Below w.heap.size w w2:=hW.below _ _ hs1 (hB1.alloc hs1 _)
 have hy2:Box w2 w.heap.size zero64:=hW.past _ _ (by omega) (hx2.alloc _)
 have hy3:Box w2 (w.heap.size + 1) zero64:=hW.past _ _ (by omega) (hx3.alloc _)
 have hxb:=hW.box
 clear hW hB1 hx2 hx3
 have hmf:∀ (fn:Fn) (first cap:Array Value) (w:World),(Instr.makeFunc fn first cap).run Tryz.prog w=.ok (.func fn first cap) w:=fun _ _ _ _=>rfl
 go_wp2_with fail
 trace_state
 refine (pad_is 54 _ hxb HBL M1).mono ?_
 rintro e w3 ⟨rfl,hb⟩
 have hB3:Below w.heap.size w w3:=below_thru hB2 hb
 have hy2:=hy2.below hb
 have hy3:=hy3.below hb
 have hxb:=hxb.below hb
 clear hb hB2
 go_wp2_with fail
 refine (pad_is 92 _ hxb HBL M2).mono ?_
 rintro e w4 ⟨rfl,hb⟩
 have hB4:Below w.heap.size w w4:=below_thru hB3 hb
 have hy2:=hy2.below hb
 have hy3:=hy3.below hb
 clear hb hB3
 have hz4:=hy3.lt
 go_wp2_with (first
   | (refine wpList_store_box (cs:=P.map (Value.int .u8)) rfl _ _ _ rfl hy2 rfl rfl J1.out K1.out (oneCell_ints _) ?_;intro w5 hW5)
   | (refine wpList_store_box (cs:=Q.map (Value.int .u8)) rfl _ _ _ rfl (hW5.past _ _ (by omega) hy3) rfl rfl J2.out K2.out (oneCell_ints _) ?_;intro w6 hW6))
 exact bodyPost_ret (v:=.tuple #[av P,av Q,.int .i64 0]) (results_box3 Tryz.results61 (hW6.past _ _ (by omega) hW5.box) hW6.box rfl rfl rfl Tryz.underlying123 rfl J1.out J2.out) rfl ⟨rfl,hW6.below _ _ (by omega) (hW5.below _ _ (Nat.le_refl _) hB4)⟩
end Go.Proofs.YtnfejdfjlnpldaaGreatDoor
namespace Go.Proofs.YtnfejdfjlnpldaaGreatDoor
open Go.RowKit
def zeros32:List Int:=List.replicate 32 0
def padsOut (K:List Int):List Int × List Int × Int:=if 200 < K.length then (zeros64,zeros64,4) else (padI K,padO K,0)
def behindOut (P xs:List Int):List Int × Int:=if 127936 < xs.length then (zeros32,4) else (shaOf (P ++ xs),0)
def innerOut (K xs:List Int):List Int × Int:=if 200 < K.length then (zeros32,4) else behindOut (padI K) xs
def outerOut (K d:List Int):List Int × Int:=if 200 < K.length then (zeros32,4) else behindOut (padO K) d
def sumOut (K xs:List Int):List Int × Int:=if 200 < K.length∨127936 < xs.length then (zeros32,4) else (tagL K xs,0)
theorem behindOut_len (P xs:List Int):(behindOut P xs).1.length=32:=by
 unfold behindOut
 split
 · rfl
 · exact shaOf_len _
theorem behindOut_bytes (P xs:List Int):bytesL (behindOut P xs).1:=by
 unfold behindOut
 split
 · exact zeros_bytes 32
 · exact shaOf_bytes _
theorem innerOut_len (K xs:List Int):(innerOut K xs).1.length=32:=by
 unfold innerOut
 split
 · rfl
 · exact behindOut_len _ _
theorem innerOut_bytes (K xs:List Int):bytesL (innerOut K xs).1:=by
 unfold innerOut
 split
 · exact zeros_bytes 32
 · exact behindOut_bytes _ _
theorem outerOut_len (K d:List Int):(outerOut K d).1.length=32:=by
 unfold outerOut
 split
 · rfl
 · exact behindOut_len _ _
theorem size_dig {D:List Int} (h:D.length=32):(Tryz.prog.info? 23).map (·.size)=some (D.map (Value.int .u8)).length:=by rw [List.length_map,h];exact size32
theorem len_dig {D:List Int} (h:D.length=32):zero32.length=(D.map (Value.int .u8)).length:=by rw [List.length_map,h];rfl
set_option maxRecDepth 100000 in
set_option maxHeartbeats 1600000 in
theorem pads_many {a0:Option Addr} {n c0:Nat} (w:World) (hl:200 < n) (hm:n≤9223372036854775807) :
   Calls Tryz.prog 61 #[.slice a0 n c0] w fun e w'=>e=.returned (.tuple #[av zeros64,av zeros64,.int .i64 4])∧Below w.heap.size w w':=by
 go_enter Tryz.func61,Tryz.ntmps61
 go_wp2_with fail
 have hx2:Box ((w.alloc (.cells zero64.toArray 123)).alloc (.cells zero64.toArray 123)) w.heap.size zero64:=Box.alloc (Box.newc rfl rfl) _
 have hx3:Box ((w.alloc (.cells zero64.toArray 123)).alloc (.cells zero64.toArray 123)) (w.heap.size + 1) zero64:=Box.newc rfl (by simp)
 refine (block_many _ hl hm).mono ?_
 rintro e w1 ⟨rfl,hb⟩
 have hB1:Below w.heap.size w w1:=below_thru (by go_grown) hb
 have hx2:Box w1 w.heap.size zero64:=Box.below hx2 hb
 have hx3:Box w1 (w.heap.size + 1) zero64:=Box.below hx3 hb
 have hs1:=hB1.size
 have hz2:=hx3.lt
 clear hb
 go_upto_region 2 with (refine wpList_store_box (cs:=zero64) rfl _ _ _ rfl (Box.newc (l:=zero64) rfl rfl) rfl rfl size_b64 rfl (oneCell_ints _) ?_;intro w2 hW)
 have hB2:Below w.heap.size w w2:=hW.below _ _ hs1 (hB1.alloc hs1 _)
 have hx4:Box w2 w.heap.size zero64:=hW.past _ _ (by omega) (hx2.alloc _)
 have hx5:Box w2 (w.heap.size + 1) zero64:=hW.past _ _ (by omega) (hx3.alloc _)
 clear hW hB1 hx2 hx3
 go_upto_region 3 with fail
 refine wp_region_held_drew (S:=fun w'=>Box w' w.heap.size zero64∧Box w' (w.heap.size + 1) zero64) (by kernel_rfl) (⟨hx4.drew,hx5.drew⟩) (fun _=>?_)
 refine F_drew (F:=fun W=>wpAnyH _ _ _ _ _ _ _ _ W) ?_
 intro W0 hb0
 have hx0:=hx4.below hb0
 have hy0:=hx5.below hb0
 have hB0:=below_thru hB2 hb0
 clear hx4 hx5 hB2 hb0
 refine takeH 2 16 (v:=?va2_1) rfl (by rfl) (by kernel_rfl) (by kernel_rfl) (by kernel_rfl) (fun _ _ _ h=>h) (Or.inl ⟨by rfl,?_⟩) (⟨hx0,hy0⟩) ?_
 rotate_left
 · intro wq hSq
   go_simp
   exact rfl
 try simp only [Act.put,qzA,qz0,qzS]
 refine takeH 0 14 (v:=.agg (zero64).toArray) rfl (by rfl) (by kernel_rfl) (by kernel_rfl) (by kernel_rfl) (fun _ _ _ h=>h) (yieldsIf_load_mid (by rfl) _ _ rfl _ 0 rfl (zero64) _ (fun wq hq=>Box.range hq.1) Tryz.underlying123 rfl size_b64) (⟨hx0,hy0⟩) ?_
 try simp only [Act.put,qzA,qz0,qzS]
 refine takeH 1 15 (v:=.agg (zero64).toArray) rfl (by rfl) (by kernel_rfl) (by kernel_rfl) (by kernel_rfl) (fun _ _ _ h=>h) (yieldsIf_load_mid (by rfl) _ _ rfl _ 0 rfl (zero64) _ (fun wq hq=>Box.range hq.2) Tryz.underlying123 rfl size_b64) (⟨hx0,hy0⟩) ?_
 try simp only [Act.put,qzA,qz0,qzS]
 refine wpAnyH_ready (rs:=[3]) (by kernel_rfl) (by simp) (AllReadyH.cons rfl (fun K hK=>?_) AllReadyH.nil)
 refine step_store_box0 (cs:=zero64) rfl rfl _ _ _ rfl hx0 rfl rfl size_b64 rfl (oneCell_ints _) ?_
 intro W2 hW2
 have hx2:=hW2.box;have hy2:=hW2.past _ _ (by omega) hy0;have hB2:=hW2.below _ _ (by omega) hB0
 refine hK.out _ _ (⟨hx2,hy2⟩) (fun _=>?_);clear hK K
 refine wpAnyH_ready (rs:=[4]) (by kernel_rfl) (by simp) (AllReadyH.cons rfl (fun K hK=>?_) AllReadyH.nil)
 refine step_store_box0 (cs:=zero64) rfl rfl _ _ _ rfl hy2 rfl rfl size_b64 rfl (oneCell_ints _) ?_
 intro W3 hW3
 have hy3:=hW3.box;have hx3:=hW3.past _ _ (by omega) hx2;have hB3:=hW3.below _ _ (by omega) hB2
 refine hK.out _ _ (⟨hx3,hy3⟩) (fun _=>?_);clear hK K
 refine takeH 5 4 (v:=?va5_4) rfl (by rfl) (by kernel_rfl) (by kernel_rfl) (by kernel_rfl) (fun _ _ _ h=>h) (Or.inl ⟨by rfl,?_⟩) (⟨hx3,hy3⟩) ?_
 rotate_left
 · intro wq hSq
   go_simp
   exact rfl
 try simp only [Act.put,qzA,qz0,qzS]
 refine wpAnyH_done (by kernel_rfl) ?_ _
 go_wp2_with fail
 exact bodyPost_ret (v:=.tuple #[av zeros64,av zeros64,.int .i64 4]) (results_box3 Tryz.results61 hx3 hy3 rfl rfl rfl Tryz.underlying123 rfl size_b64 size_b64) rfl ⟨rfl,hB3⟩
theorem pads_any {v:Value} {K P Q:List Int} {x:Int} (w:World) (hi:Hid (IsL w .u8 v K)) (hk:Hid (bytesL K)) (hP:Hid (padsOut K=(P,Q,x))) (hL:Hid (LaidS w)) :
   Calls Tryz.prog 61 #[v] w fun e w'=>e=.returned (.tuple #[av P,av Q,.int .i64 x])∧Below w.heap.size w w':=by
 have h:=hP.out
 unfold padsOut at h
 by_cases q:200 < K.length
 · rw [if_pos q] at h
   injection h with e1 e2
   injection e2 with e2 e3
   subst e1 e2 e3
   obtain ⟨a0,c0,rfl,hin,_⟩:=id hi.out
   exact pads_many w q (Nat.le_trans hin.room hin.most)
 · rw [if_neg q] at h
   injection h with e1 e2
   injection e2 with e2 e3
   subst e3
   exact pads_ok w hi (by omega) hk (Lib.hid e1) (Lib.hid e2) hL
set_option maxRecDepth 100000 in
set_option maxHeartbeats 1600000 in
theorem behind_many {P:List Int} {a0:Option Addr} {n c0:Nat} (w:World) (hl:127936 < n) (hm:n≤9223372036854775807) :
   Calls Tryz.prog 111 #[av P,.slice a0 n c0] w fun e w'=>e=.returned (.tuple #[av zeros32,.int .i64 4])∧Below w.heap.size w w':=by
 obtain ⟨A,hA⟩:∃ A,(P.map (Value.int .u8)).toArray=A:=⟨_,rfl⟩
 unfold av
 rw [hA]
 go_enter Tryz.func111,Tryz.ntmps111
 go_wp2_with (refine wpList_store_box (cs:=zero32) rfl _ _ _ rfl (Box.newc (l:=zero32) rfl (by simp)) rfl rfl size32 rfl (oneCell_ints _) ?_;intro W3 hW3)
 exact bodyPost_ret (v:=.tuple #[av zeros32,.int .i64 4]) (results_box2 Tryz.results111 hW3.box rfl rfl Tryz.underlying23 rfl size32) rfl ⟨rfl,hW3.below _ _ (by omega) (by go_grown)⟩
set_option maxRecDepth 100000 in
set_option maxHeartbeats 1600000 in
theorem behind_ok {v:Value} {P xs D:List Int} (w:World) (hi:Hid (IsL w .u8 v xs)) (hl:xs.length≤127936) (hx:Hid (bytesL xs)) (hp:P.length=64) (hpb:Hid (bytesL P)) (hD:Hid (shaOf (P ++ xs)=D)) (hL:Hid (LaidS w)) :
   Calls Tryz.prog 111 #[av P,v] w fun e w'=>e=.returned (.tuple #[av D,.int .i64 0])∧Below w.heap.size w w':=by
 obtain ⟨a0,c0,rfl,hin,_⟩:=id hi.out
 have r1:=hin.room
 have r2:=hin.most
 clear hin
 have hDl:D.length=32:=by rw [← hD.out,shaOf_len]
 have I32:=Lib.hid (size_dig hDl)
 have H32:=Lib.hid (len_dig hDl)
 have hsum:P.length + xs.length≤1000000000:=by omega
 have hsl:=Lib.hid (show (P ++ xs).length≤128000 by rw [List.length_append];omega)
 have HB:=Lib.hid (hpb.out.append hx.out)
 have HPL:=Lib.hid hp
 clear hDl hp
 obtain ⟨A,hA⟩:∃ A,(P.map (Value.int .u8)).toArray=A:=⟨_,rfl⟩
 have HA:=Lib.hid hA
 unfold av
 rw [hA]
 clear hA
 go_enter Tryz.func111,Tryz.ntmps111
 go_wp2_with fail
 obtain ⟨S,hS⟩:∃ S,S = #[Value.slice (some ⟨w.heap.size,0,none⟩) 64 64,Value.slice a0 xs.length c0]:=⟨_,rfl⟩
 have hx2:∀ (o:Obj),Box (((w.alloc (.cells A 123)).alloc (.cells zero32.toArray 23)).alloc o) w.heap.size (P.map (Value.int .u8)):=fun o=>Box.alloc (Box.alloc (Box.newc HA.out.symm rfl) _) _
 have hx4:∀ (o:Obj),Box (((w.alloc (.cells A 123)).alloc (.cells zero32.toArray 23)).alloc o) (w.heap.size + 1) zero32:=fun o=>Box.alloc (Box.newc rfl (by simp)) _
 have hx5:∀ (t:TypeId),Box (((w.alloc (.cells A 123)).alloc (.cells zero32.toArray 23)).alloc (.cells #[Value.slice (some ⟨w.heap.size,0,none⟩) 64 64,Value.slice a0 xs.length c0] t)) (w.heap.size + 2) [Value.slice (some ⟨w.heap.size,0,none⟩) 64 64,Value.slice a0 xs.length c0]:=fun t=>Box.newc rfl (by simp)
 refine (concat_any _ _ _ P xs _ ((hx5 _).c 0 _ rfl) ((hx5 _).c 1 _ rfl) (IsL.box 64 HPL.out (hx2 _) (by omega)) (((hi.out.alloc _).alloc _).alloc _) hsum).mono ?_
 rintro e w1 ⟨v1,rfl,hc⟩
 have hb:=hc.2
 have hB1:Below w.heap.size w w1:=below_thru (by go_grown) hb
 have hy:=(hx4 _).below hb
 have HI:=Lib.hid hc.is
 clear hc hb hx2 hx4 hx5 hS
 go_wp2_with fail
 refine (sum_ok _ HI hsl.out HB hD (Lib.hid (hL.out.below hB1))).mono ?_
 rintro e w2 ⟨rfl,hb⟩
 have hB2:Below w.heap.size w w2:=below_thru hB1 hb
 have hy2:=hy.below hb
 clear hb hB1 hy HI
 go_wp2_with (refine wpList_store_box (cs:=D.map (Value.int .u8)) rfl _ _ _ rfl hy2 rfl rfl I32.out H32.out (oneCell_ints _) ?_;intro W3 hW3)
 exact bodyPost_ret (v:=.tuple #[av D,.int .i64 0]) (results_box2 Tryz.results111 hW3.box rfl rfl Tryz.underlying23 rfl I32.out) rfl ⟨rfl,hW3.below _ _ (by omega) hB2⟩
theorem behind_any {v:Value} {P xs D:List Int} {x:Int} (w:World) (hi:Hid (IsL w .u8 v xs)) (hx:Hid (bytesL xs)) (hp:P.length=64) (hpb:Hid (bytesL P)) (hD:Hid (behindOut P xs=(D,x))) (hL:Hid (LaidS w)) :
   Calls Tryz.prog 111 #[av P,v] w fun e w'=>e=.returned (.tuple #[av D,.int .i64 x])∧Below w.heap.size w w':=by
 have h:=hD.out
 unfold behindOut at h
 by_cases q:127936 < xs.length
 · rw [if_pos q] at h
   injection h with e1 e2
   subst e1 e2
   obtain ⟨a0,c0,rfl,hin,_⟩:=id hi.out
   exact behind_many w q (Nat.le_trans hin.room hin.most)
 · rw [if_neg q] at h
   injection h with e1 e2
   subst e2
   exact behind_ok w hi (by omega) hx hp hpb (Lib.hid e1) hL
end Go.Proofs.YtnfejdfjlnpldaaGreatDoor
namespace Go.Proofs.YtnfejdfjlnpldaaGreatDoor
open Go.RowKit
set_option maxRecDepth 100000 in
set_option maxHeartbeats 1600000 in
theorem inner_many {v v2:Value} {K:List Int} (w:World) (hi:Hid (IsL w .u8 v K)) (hl:200 < K.length) (hk:Hid (bytesL K)) (hL:Hid (LaidS w)) :
   Calls Tryz.prog 106 #[v,v2] w fun e w'=>e=.returned (.tuple #[av zeros32,.int .i64 4])∧Below w.heap.size w w':=by
 obtain ⟨P,hPe⟩:∃ P,zeros64=P:=⟨_,rfl⟩
 obtain ⟨Q,hQe⟩:∃ Q,zeros64=Q:=⟨_,rfl⟩
 have hpl:P.length=64:=by rw [← hPe];rfl
 have hql:Q.length=64:=by rw [← hQe];rfl
 have HP:=Lib.hid (show padsOut K=(P,Q,4) by unfold padsOut;rw [if_pos hl,← hPe,← hQe])
 have J1:=Lib.hid (size_of64 hpl)
 have K1:=Lib.hid (len_of64 hpl)
 have J2:=Lib.hid (size_of64 hql)
 have K2:=Lib.hid (len_of64 hql)
 clear hPe hQe hpl hql
 go_enter Tryz.func106,Tryz.ntmps106
 go_wp2_with fail
 have hr:Box (w.alloc (.cells zero32.toArray 23)) w.heap.size zero32:=Box.newc rfl rfl
 refine (pads_any _ (Lib.hid (hi.out.alloc _)) hk HP (Lib.hid (hL.out.alloc _))).mono ?_
 rintro e w1 ⟨rfl,hb⟩
 have hB1:Below w.heap.size w w1:=below_thru (by go_grown) hb
 have hr1:=Box.below hr hb
 have hs1:=hB1.size
 have hzr:=hr1.lt
 clear hb hr
 go_upto_region 2 with (first
   | (refine wpList_store_box (cs:=P.map (Value.int .u8)) rfl _ _ _ rfl (Box.alloc (Box.newc (l:=zero64) rfl rfl) _) rfl rfl J1.out K1.out (oneCell_ints _) ?_;intro w2 hW2)
   | (refine wpList_store_box (cs:=Q.map (Value.int .u8)) rfl _ _ _ rfl (hW2.past _ _ (by omega) (Box.newc (l:=zero64) rfl (by simp))) rfl rfl J2.out K2.out (oneCell_ints _) ?_;intro w3 hW3))
 have hB3:Below w.heap.size w w3:=hW3.below _ _ (by omega) (hW2.below _ _ hs1 ((hB1.alloc hs1 _).alloc (by simp;omega) _))
 have hr3:Box w3 w.heap.size zero32:=hW3.past _ _ (by omega) (hW2.past _ _ (by omega) (Box.alloc (Box.alloc hr1 _) _))
 have hp3:Box w3 w1.heap.size (P.map (Value.int .u8)):=hW3.past _ _ (by omega) hW2.box
 have hq3:=hW3.box
 clear hW2 hW3 hB1 hr1
 go_wp2_with (refine wpList_store_box (cs:=zero32) rfl _ _ _ rfl hr3 rfl rfl size32 rfl (oneCell_ints _) ?_;intro W3 hW3)
 exact bodyPost_ret (v:=.tuple #[av zeros32,.int .i64 4]) (results_box2 Tryz.results106 hW3.box rfl rfl Tryz.underlying23 rfl size32) rfl ⟨rfl,hW3.below _ _ (by omega) hB3⟩
set_option maxRecDepth 100000 in
set_option maxHeartbeats 1600000 in
theorem inner_ok {v v2:Value} {K xs D:List Int} {x:Int} (w:World) (hi:Hid (IsL w .u8 v K)) (h2:Hid (IsL w .u8 v2 xs)) (hl:K.length≤200) (hk:Hid (bytesL K)) (hx:Hid (bytesL xs)) (hD:Hid (behindOut (padI K) xs=(D,x))) (hL:Hid (LaidS w)) :
   Calls Tryz.prog 106 #[v,v2] w fun e w'=>e=.returned (.tuple #[av D,.int .i64 x])∧Below w.heap.size w w':=by
 obtain ⟨P,hPe⟩:∃ P,padI K=P:=⟨_,rfl⟩
 obtain ⟨Q,hQe⟩:∃ Q,padO K=Q:=⟨_,rfl⟩
 have hpl:P.length=64:=by rw [← hPe,padI_len]
 have hql:Q.length=64:=by rw [← hQe,padO_len]
 have HP:=Lib.hid (show padsOut K=(P,Q,0) by unfold padsOut;rw [if_neg (by omega),hPe,hQe])
 have J1:=Lib.hid (size_of64 hpl)
 have K1:=Lib.hid (len_of64 hpl)
 have J2:=Lib.hid (size_of64 hql)
 have K2:=Lib.hid (len_of64 hql)
 have HXB:=Lib.hid (show bytesL P by rw [← hPe];exact padI_bytes hk.out)
 have HD:=Lib.hid (show behindOut P xs=(D,x) by rw [← hPe];exact hD.out)
 have hDl:=behindOut_len P xs
 rw [HD.out] at hDl
 have I32:=Lib.hid (size_dig hDl)
 have H32:=Lib.hid (len_dig hDl)
 have HXL:=Lib.hid hpl
 clear hPe hQe hpl hql hDl hD
 go_enter Tryz.func106,Tryz.ntmps106
 go_wp2_with fail
 have hr:Box (w.alloc (.cells zero32.toArray 23)) w.heap.size zero32:=Box.newc rfl rfl
 refine (pads_any _ (Lib.hid (hi.out.alloc _)) hk HP (Lib.hid (hL.out.alloc _))).mono ?_
 rintro e w1 ⟨rfl,hb⟩
 have hB1:Below w.heap.size w w1:=below_thru (by go_grown) hb
 have hr1:=Box.below hr hb
 have hs1:=hB1.size
 have hzr:=hr1.lt
 clear hb hr
 go_upto_region 2 with (first
   | (refine wpList_store_box (cs:=P.map (Value.int .u8)) rfl _ _ _ rfl (Box.alloc (Box.newc (l:=zero64) rfl rfl) _) rfl rfl J1.out K1.out (oneCell_ints _) ?_;intro w2 hW2)
   | (refine wpList_store_box (cs:=Q.map (Value.int .u8)) rfl _ _ _ rfl (hW2.past _ _ (by omega) (Box.newc (l:=zero64) rfl (by simp))) rfl rfl J2.out K2.out (oneCell_ints _) ?_;intro w3 hW3))
 have hB3:Below w.heap.size w w3:=hW3.below _ _ (by omega) (hW2.below _ _ hs1 ((hB1.alloc hs1 _).alloc (by simp;omega) _))
 have hr3:Box w3 w.heap.size zero32:=hW3.past _ _ (by omega) (hW2.past _ _ (by omega) (Box.alloc (Box.alloc hr1 _) _))
 have hp3:Box w3 w1.heap.size (P.map (Value.int .u8)):=hW3.past _ _ (by omega) hW2.box
 have hq3:=hW3.box
 clear hW2 hW3 hB1 hr1
 go_wp2_with (refine wpList_load_box rfl _ _ rfl hp3 rfl Tryz.underlying123 rfl J1.out ?_)
 refine (behind_any _ (Lib.hid (h2.out.below hB3)) hx HXL.out HXB HD (Lib.hid (hL.out.below hB3))).mono ?_
 rintro e w4 ⟨rfl,hb⟩
 have hB4:=below_thru hB3 hb
 have hr4:=hr3.below hb
 clear hb hB3 hr3 hp3 hq3
 go_wp2_with (refine wpList_store_box (cs:=D.map (Value.int .u8)) rfl _ _ _ rfl hr4 rfl rfl I32.out H32.out (oneCell_ints _) ?_;intro W3 hW3)
 exact bodyPost_ret (v:=.tuple #[av D,.int .i64 x]) (results_box2 Tryz.results106 hW3.box rfl rfl Tryz.underlying23 rfl I32.out) rfl ⟨rfl,hW3.below _ _ (by omega) hB4⟩
theorem inner_any {v v2:Value} {K xs D:List Int} {x:Int} (w:World) (hi:Hid (IsL w .u8 v K)) (h2:Hid (IsL w .u8 v2 xs)) (hk:Hid (bytesL K)) (hx:Hid (bytesL xs)) (hD:Hid (innerOut K xs=(D,x))) (hL:Hid (LaidS w)) :
   Calls Tryz.prog 106 #[v,v2] w fun e w'=>e=.returned (.tuple #[av D,.int .i64 x])∧Below w.heap.size w w':=by
 have h:=hD.out
 unfold innerOut at h
 by_cases q:200 < K.length
 · rw [if_pos q] at h
   injection h with e1 e2
   subst e1 e2
   exact inner_many w hi q hk hL
 · rw [if_neg q] at h
   exact inner_ok w hi h2 (by omega) hk hx (Lib.hid h) hL
set_option maxRecDepth 100000 in
set_option maxHeartbeats 1600000 in
theorem outer_many {v:Value} {K d:List Int} (w:World) (hi:Hid (IsL w .u8 v K)) (hl:200 < K.length) (hk:Hid (bytesL K)) (hL:Hid (LaidS w)) :
   Calls Tryz.prog 107 #[v,av d] w fun e w'=>e=.returned (.tuple #[av zeros32,.int .i64 4])∧Below w.heap.size w w':=by
 obtain ⟨A,hA⟩:∃ A,(d.map (Value.int .u8)).toArray=A:=⟨_,rfl⟩
 have HA:=Lib.hid hA
 rw [show av d=.agg A by unfold av;rw [hA]]
 clear hA
 obtain ⟨P,hPe⟩:∃ P,zeros64=P:=⟨_,rfl⟩
 obtain ⟨Q,hQe⟩:∃ Q,zeros64=Q:=⟨_,rfl⟩
 have hpl:P.length=64:=by rw [← hPe];rfl
 have hql:Q.length=64:=by rw [← hQe];rfl
 have HP:=Lib.hid (show padsOut K=(P,Q,4) by unfold padsOut;rw [if_pos hl,← hPe,← hQe])
 have J1:=Lib.hid (size_of64 hpl)
 have K1:=Lib.hid (len_of64 hpl)
 have J2:=Lib.hid (size_of64 hql)
 have K2:=Lib.hid (len_of64 hql)
 clear hPe hQe hpl hql
 go_enter Tryz.func107,Tryz.ntmps107
 go_wp2_with fail
 have hr:Box ((w.alloc (.cells A 23)).alloc (.cells zero32.toArray 23)) (w.heap.size + 1) zero32:=Box.newc rfl (by simp)
 have hd:Box ((w.alloc (.cells A 23)).alloc (.cells zero32.toArray 23)) w.heap.size (d.map (Value.int .u8)):=Box.alloc (Box.newc HA.out.symm rfl) _
 refine (pads_any _ (Lib.hid ((hi.out.alloc _).alloc _)) hk HP (Lib.hid ((hL.out.alloc _).alloc _))).mono ?_
 rintro e w1 ⟨rfl,hb⟩
 have hB1:Below w.heap.size w w1:=below_thru (by go_grown) hb
 have hr1:=Box.below hr hb
 have hd1:=Box.below hd hb
 clear hd
 have hs1:=hB1.size
 have hzr:=hr1.lt
 clear hb hr
 go_upto_region 2 with (first
   | (refine wpList_store_box (cs:=P.map (Value.int .u8)) rfl _ _ _ rfl (Box.alloc (Box.newc (l:=zero64) rfl rfl) _) rfl rfl J1.out K1.out (oneCell_ints _) ?_;intro w2 hW2)
   | (refine wpList_store_box (cs:=Q.map (Value.int .u8)) rfl _ _ _ rfl (hW2.past _ _ (by omega) (Box.newc (l:=zero64) rfl (by simp))) rfl rfl J2.out K2.out (oneCell_ints _) ?_;intro w3 hW3))
 have hB3:Below w.heap.size w w3:=hW3.below _ _ (by omega) (hW2.below _ _ hs1 ((hB1.alloc hs1 _).alloc (by simp;omega) _))
 have hr3:Box w3 (w.heap.size + 1) zero32:=hW3.past _ _ (by omega) (hW2.past _ _ (by omega) (Box.alloc (Box.alloc hr1 _) _))
 have hp3:Box w3 w1.heap.size (P.map (Value.int .u8)):=hW3.past _ _ (by omega) hW2.box
 have hq3:=hW3.box
 have hd3:Box w3 w.heap.size (d.map (Value.int .u8)):=hW3.past _ _ (by omega) (hW2.past _ _ (by omega) (Box.alloc (Box.alloc hd1 _) _))
 clear hW2 hW3 hB1 hr1 hd1
 go_wp2_with (refine wpList_store_box (cs:=zero32) rfl _ _ _ rfl hr3 rfl rfl size32 rfl (oneCell_ints _) ?_;intro W3 hW3)
 exact bodyPost_ret (v:=.tuple #[av zeros32,.int .i64 4]) (results_box2 Tryz.results107 hW3.box rfl rfl Tryz.underlying23 rfl size32) rfl ⟨rfl,hW3.below _ _ (by omega) hB3⟩
set_option maxRecDepth 100000 in
set_option maxHeartbeats 1600000 in
theorem outer_ok {v:Value} {K d D:List Int} {x:Int} (w:World) (hi:Hid (IsL w .u8 v K)) (hl:K.length≤200) (hk:Hid (bytesL K)) (hdl:d.length=32) (hx:Hid (bytesL d)) (hD:Hid (behindOut (padO K) d=(D,x))) (hL:Hid (LaidS w)) :
   Calls Tryz.prog 107 #[v,av d] w fun e w'=>e=.returned (.tuple #[av D,.int .i64 x])∧Below w.heap.size w w':=by
 obtain ⟨A,hA⟩:∃ A,(d.map (Value.int .u8)).toArray=A:=⟨_,rfl⟩
 have HA:=Lib.hid hA
 rw [show av d=.agg A by unfold av;rw [hA]]
 clear hA
 obtain ⟨P,hPe⟩:∃ P,padI K=P:=⟨_,rfl⟩
 obtain ⟨Q,hQe⟩:∃ Q,padO K=Q:=⟨_,rfl⟩
 have hpl:P.length=64:=by rw [← hPe,padI_len]
 have hql:Q.length=64:=by rw [← hQe,padO_len]
 have HP:=Lib.hid (show padsOut K=(P,Q,0) by unfold padsOut;rw [if_neg (by omega),hPe,hQe])
 have J1:=Lib.hid (size_of64 hpl)
 have K1:=Lib.hid (len_of64 hpl)
 have J2:=Lib.hid (size_of64 hql)
 have K2:=Lib.hid (len_of64 hql)
 have HXB:=Lib.hid (show bytesL Q by rw [← hQe];exact padO_bytes hk.out)
 have HD:=Lib.hid (show behindOut Q d=(D,x) by rw [← hQe];exact hD.out)
 have hDl:=behindOut_len Q d
 rw [HD.out] at hDl
 have I32:=Lib.hid (size_dig hDl)
 have H32:=Lib.hid (len_dig hDl)
 have HXL:=Lib.hid hql
 have HdL:=Lib.hid hdl
 clear hdl
 clear hPe hQe hpl hql hDl hD
 go_enter Tryz.func107,Tryz.ntmps107
 go_wp2_with fail
 have hr:Box ((w.alloc (.cells A 23)).alloc (.cells zero32.toArray 23)) (w.heap.size + 1) zero32:=Box.newc rfl (by simp)
 have hd:Box ((w.alloc (.cells A 23)).alloc (.cells zero32.toArray 23)) w.heap.size (d.map (Value.int .u8)):=Box.alloc (Box.newc HA.out.symm rfl) _
 refine (pads_any _ (Lib.hid ((hi.out.alloc _).alloc _)) hk HP (Lib.hid ((hL.out.alloc _).alloc _))).mono ?_
 rintro e w1 ⟨rfl,hb⟩
 have hB1:Below w.heap.size w w1:=below_thru (by go_grown) hb
 have hr1:=Box.below hr hb
 have hd1:=Box.below hd hb
 clear hd
 have hs1:=hB1.size
 have hzr:=hr1.lt
 clear hb hr
 go_upto_region 2 with (first
   | (refine wpList_store_box (cs:=P.map (Value.int .u8)) rfl _ _ _ rfl (Box.alloc (Box.newc (l:=zero64) rfl rfl) _) rfl rfl J1.out K1.out (oneCell_ints _) ?_;intro w2 hW2)
   | (refine wpList_store_box (cs:=Q.map (Value.int .u8)) rfl _ _ _ rfl (hW2.past _ _ (by omega) (Box.newc (l:=zero64) rfl (by simp))) rfl rfl J2.out K2.out (oneCell_ints _) ?_;intro w3 hW3))
 have hB3:Below w.heap.size w w3:=hW3.below _ _ (by omega) (hW2.below _ _ hs1 ((hB1.alloc hs1 _).alloc (by simp;omega) _))
 have hr3:Box w3 (w.heap.size + 1) zero32:=hW3.past _ _ (by omega) (hW2.past _ _ (by omega) (Box.alloc (Box.alloc hr1 _) _))
 have hp3:Box w3 w1.heap.size (P.map (Value.int .u8)):=hW3.past _ _ (by omega) hW2.box
 have hq3:=hW3.box
 have hd3:Box w3 w.heap.size (d.map (Value.int .u8)):=hW3.past _ _ (by omega) (hW2.past _ _ (by omega) (Box.alloc (Box.alloc hd1 _) _))
 clear hW2 hW3 hB1 hr1 hd1
 have hsz3:=hq3.lt
 go_upto_region 4 with fail
 refine wp_region_held_drew (S:=fun w'=>Box w' (w1.heap.size + 1) (Q.map (Value.int .u8))) (by kernel_rfl) (hq3.drew) (fun _=>?_)
 refine F_drew (F:=fun W=>wpAnyH _ _ _ _ _ _ _ _ W) ?_
 intro W0 hb0
 have hq0:=hq3.below hb0
 have hd0:=hd3.below hb0
 have hr0:=hr3.below hb0
 have hB0:=below_thru hB3 hb0
 clear hq3 hd3 hr3 hB3 hb0 hp3
 refine takeH 1 20 (v:=?va1_1) rfl (by rfl) (by kernel_rfl) (by kernel_rfl) (by kernel_rfl) (fun _ _ _ h=>h) (Or.inl ⟨by rfl,?_⟩) (hq0) ?_
 rotate_left
 · intro wq hSq
   go_simp
   exact rfl
 try simp only [Act.put,qzA,qz0,qzS]
 refine takeH 0 19 (v:=.agg (Q.map (Value.int .u8)).toArray) rfl (by rfl) (by kernel_rfl) (by kernel_rfl) (by kernel_rfl) (fun _ _ _ h=>h) (yieldsIf_load_mid (by rfl) _ _ rfl _ 0 rfl (Q.map (Value.int .u8)) _ (fun wq hq=>Box.range hq) Tryz.underlying123 rfl J2.out) (hq0) ?_
 try simp only [Act.put,qzA,qz0,qzS]
 refine wpAnyH_ready (rs:=[2]) (by kernel_rfl) (by simp) (AllReadyH.cons rfl (fun K hK=>?_) AllReadyH.nil)
 go_simp
 refine (behind_any _ (Lib.hid (IsL.box 32 HdL.out hd0 (by omega))) hx HXL.out HXB HD (Lib.hid (hL.out.below hB0))).mono ?_
 rintro e W2 ⟨rfl,hb2⟩
 have hx2:=Box.below hq0 hb2;have hd2:=Box.below hd0 hb2;have hr2:=Box.below hr0 hb2;have hB2:=below_thru hB0 hb2
 refine hK.out _ _ (hx2) (fun _=>?_);clear hK K
 refine takeH 3 22 (v:=?va3_3) rfl (by rfl) (by kernel_rfl) (by kernel_rfl) (by kernel_rfl) (fun _ _ _ h=>h) (Or.inl ⟨by rfl,?_⟩) (hx2) ?_
 rotate_left
 · intro wq hSq
   go_simp
   exact rfl
 try simp only [Act.put,qzA,qz0,qzS]
 refine takeH 4 23 (v:=?va4_4) rfl (by rfl) (by kernel_rfl) (by kernel_rfl) (by kernel_rfl) (fun _ _ _ h=>h) (Or.inl ⟨by rfl,?_⟩) (hx2) ?_
 rotate_left
 · intro wq hSq
   go_simp
   exact rfl
 try simp only [Act.put,qzA,qz0,qzS]
 refine wpAnyH_ready (rs:=[5]) (by kernel_rfl) (by simp) (AllReadyH.cons rfl (fun K hK=>?_) AllReadyH.nil)
 refine step_store_box0 (cs:=D.map (Value.int .u8)) rfl rfl _ _ _ rfl hr2 rfl rfl I32.out H32.out (oneCell_ints _) ?_
 intro W5 hW5
 have hx5:=hW5.past _ _ (by omega) hx2;have hr5:=hW5.box;have hB5:=hW5.below _ _ (by omega) hB2
 refine hK.out _ _ (hx5) (fun _=>?_);clear hK K
 refine takeH 6 5 (v:=?va6_6) rfl (by rfl) (by kernel_rfl) (by kernel_rfl) (by kernel_rfl) (fun _ _ _ h=>h) (Or.inl ⟨by rfl,?_⟩) (hx5) ?_
 rotate_left
 · intro wq hSq
   go_simp
   exact rfl
 try simp only [Act.put,qzA,qz0,qzS]
 refine wpAnyH_done (by kernel_rfl) ?_ _
 go_wp2_with fail
 exact bodyPost_ret (v:=.tuple #[av D,.int .i64 x]) (results_box2 Tryz.results107 hr5 rfl rfl Tryz.underlying23 rfl I32.out) rfl ⟨rfl,hB5⟩
theorem outer_any {v:Value} {K d D:List Int} {x:Int} (w:World) (hi:Hid (IsL w .u8 v K)) (hk:Hid (bytesL K)) (hdl:d.length=32) (hx:Hid (bytesL d)) (hD:Hid (outerOut K d=(D,x))) (hL:Hid (LaidS w)) :
   Calls Tryz.prog 107 #[v,av d] w fun e w'=>e=.returned (.tuple #[av D,.int .i64 x])∧Below w.heap.size w w':=by
 have h:=hD.out
 unfold outerOut at h
 by_cases q:200 < K.length
 · rw [if_pos q] at h
   injection h with e1 e2
   subst e1 e2
   exact outer_many w hi q hk hL
 · rw [if_neg q] at h
   exact outer_ok w hi (by omega) hk hdl hx (Lib.hid h) hL
set_option maxRecDepth 100000 in
set_option maxHeartbeats 1600000 in
theorem tag_bad {v v2:Value} {K xs E:List Int} (w:World) (hi:Hid (IsL w .u8 v K)) (h2:Hid (IsL w .u8 v2 xs)) (hk:Hid (bytesL K)) (hx:Hid (bytesL xs)) (hI:Hid (innerOut K xs=(E,4))) (hL:Hid (LaidS w)) :
   Calls Tryz.prog 95 #[v,v2] w fun e w'=>e=.returned (.tuple #[av zeros32,.int .i64 4])∧Below w.heap.size w w':=by
 have hel:E.length=32:=by rw [show E=(innerOut K xs).1 by rw [hI.out]];exact innerOut_len _ _
 have IE:=Lib.hid (size_dig hel)
 have HE:=Lib.hid (len_dig hel)
 go_enter Tryz.func95,Tryz.ntmps95
 go_wp2_with fail
 refine (inner_any _ (Lib.hid (hi.out.alloc _)) (Lib.hid (h2.out.alloc _)) hk hx hI (Lib.hid (hL.out.alloc _))).mono ?_
 rintro e w1 ⟨rfl,hb⟩
 have hB1:Below w.heap.size w w1:=below_thru (by go_grown) hb
 have hr1:Box w1 w.heap.size zero32:=Box.below (Box.newc rfl rfl) hb
 have hs1:=hB1.size
 have hzr:=hr1.lt
 clear hb
 go_upto_region 2 with (refine wpList_store_box (cs:=E.map (Value.int .u8)) rfl _ _ _ rfl (Box.newc (l:=zero32) rfl rfl) rfl rfl IE.out HE.out (oneCell_ints _) ?_;intro w2 hW)
 have hB2:Below w.heap.size w w2:=hW.below _ _ hs1 (hB1.alloc hs1 _)
 have hr2:Box w2 w.heap.size zero32:=hW.past _ _ (by omega) (hr1.alloc _)
 have he2:=hW.box
 clear hW hB1 hr1
 go_wp2_with (refine wpList_store_box (cs:=zero32) rfl _ _ _ rfl hr2 rfl rfl size32 rfl (oneCell_ints _) ?_;intro W3 hW3)
 exact bodyPost_ret (v:=.tuple #[av zeros32,.int .i64 4]) (results_box2 Tryz.results95 hW3.box rfl rfl Tryz.underlying23 rfl size32) rfl ⟨rfl,hW3.below _ _ (by omega) hB2⟩
set_option maxRecDepth 100000 in
set_option maxHeartbeats 1600000 in
theorem tag_good {v v2:Value} {K xs E D:List Int} (w:World) (hi:Hid (IsL w .u8 v K)) (h2:Hid (IsL w .u8 v2 xs)) (hk:Hid (bytesL K)) (hx:Hid (bytesL xs)) (hI:Hid (innerOut K xs=(E,0))) (hO:Hid (outerOut K E=(D,0))) (hL:Hid (LaidS w)) :
   Calls Tryz.prog 95 #[v,v2] w fun e w'=>e=.returned (.tuple #[av D,.int .i64 0])∧Below w.heap.size w w':=by
 have hel:E.length=32:=by rw [show E=(innerOut K xs).1 by rw [hI.out]];exact innerOut_len _ _
 have heb:bytesL E:=by rw [show E=(innerOut K xs).1 by rw [hI.out]];exact innerOut_bytes _ _
 have hdl:D.length=32:=by rw [show D=(outerOut K E).1 by rw [hO.out]];exact outerOut_len _ _
 have I32:=Lib.hid (size_dig hdl)
 have H32:=Lib.hid (len_dig hdl)
 have HEL:=Lib.hid hel
 have HEB:=Lib.hid heb
 clear hdl heb
 have IE:=Lib.hid (size_dig hel)
 have HE:=Lib.hid (len_dig hel)
 go_enter Tryz.func95,Tryz.ntmps95
 go_wp2_with fail
 refine (inner_any _ (Lib.hid (hi.out.alloc _)) (Lib.hid (h2.out.alloc _)) hk hx hI (Lib.hid (hL.out.alloc _))).mono ?_
 rintro e w1 ⟨rfl,hb⟩
 have hB1:Below w.heap.size w w1:=below_thru (by go_grown) hb
 have hr1:Box w1 w.heap.size zero32:=Box.below (Box.newc rfl rfl) hb
 have hs1:=hB1.size
 have hzr:=hr1.lt
 clear hb
 go_upto_region 2 with (refine wpList_store_box (cs:=E.map (Value.int .u8)) rfl _ _ _ rfl (Box.newc (l:=zero32) rfl rfl) rfl rfl IE.out HE.out (oneCell_ints _) ?_;intro w2 hW)
 have hB2:Below w.heap.size w w2:=hW.below _ _ hs1 (hB1.alloc hs1 _)
 have hr2:Box w2 w.heap.size zero32:=hW.past _ _ (by omega) (hr1.alloc _)
 have he2:=hW.box
 clear hW hB1 hr1
 go_wp2_with (refine wpList_load_box rfl _ _ rfl he2 rfl Tryz.underlying23 rfl IE.out ?_)
 refine (outer_any (d:=E) _ (Lib.hid (hi.out.below hB2)) hk HEL.out HEB hO (Lib.hid (hL.out.below hB2))).mono ?_
 rintro e w4 ⟨rfl,hb⟩
 have hB4:=below_thru hB2 hb
 have hr4:=hr2.below hb
 clear hb hB2 hr2 he2
 go_wp2_with (refine wpList_store_box (cs:=D.map (Value.int .u8)) rfl _ _ _ rfl hr4 rfl rfl I32.out H32.out (oneCell_ints _) ?_;intro W3 hW3)
 exact bodyPost_ret (v:=.tuple #[av D,.int .i64 0]) (results_box2 Tryz.results95 hW3.box rfl rfl Tryz.underlying23 rfl I32.out) rfl ⟨rfl,hW3.below _ _ (by omega) hB4⟩
theorem tag_any {v v2:Value} {K xs D:List Int} {x:Int} (w:World) (hi:Hid (IsL w .u8 v K)) (h2:Hid (IsL w .u8 v2 xs)) (hk:Hid (bytesL K)) (hx:Hid (bytesL xs)) (hD:Hid (sumOut K xs=(D,x))) (hL:Hid (LaidS w)) :
   Calls Tryz.prog 95 #[v,v2] w fun e w'=>e=.returned (.tuple #[av D,.int .i64 x])∧Below w.heap.size w w':=by
 have h:=hD.out
 unfold sumOut at h
 by_cases q:200 < K.length∨127936 < xs.length
 · rw [if_pos q] at h
   injection h with e1 e2
   subst e1 e2
   refine tag_bad (E:=zeros32) w hi h2 hk hx (Lib.hid ?_) hL
   unfold innerOut behindOut
   by_cases q1:200 < K.length
   · rw [if_pos q1]
   · rw [if_neg q1,if_pos (by omega)]
 · rw [if_neg q] at h
   injection h with e1 e2
   subst e2
   refine tag_good (E:=innerL K xs) w hi h2 hk hx (Lib.hid ?_) (Lib.hid ?_) hL
   · unfold innerOut behindOut
     rw [if_neg (by omega),if_neg (by omega)]
     rfl
   · unfold outerOut behindOut
     rw [if_neg (by omega),if_neg (by unfold innerL;rw [shaOf_len];omega),← e1]
     rfl
end Go.Proofs.YtnfejdfjlnpldaaGreatDoor
namespace Go.Proofs.YtnfejdfjlnpldaaGreatDoor
open Go.RowKit
theorem tag_ok {v v2:Value} {K xs D:List Int} (w:World) (hi:Hid (IsL w .u8 v K)) (h2:Hid (IsL w .u8 v2 xs)) (hl:K.length≤200) (hl2:xs.length≤127936) (hk:Hid (bytesL K)) (hx:Hid (bytesL xs)) (hD:Hid (tagL K xs=D)) (hL:Hid (LaidS w)) :
   Calls Tryz.prog 95 #[v,v2] w fun e w'=>e=.returned (.tuple #[av D,.int .i64 0])∧Below w.heap.size w w' :=
 tag_any w hi h2 hk hx (Lib.hid (by unfold sumOut;rw [if_neg (by omega),hD.out])) hL
end Go.Proofs.YtnfejdfjlnpldaaGreatDoor
