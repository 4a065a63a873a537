import Derived.Test.YtnfejdfjlnpldaaGreatDoorGB1
import Derived.Deep.Slices
import Derived.Laws.AppendOwn
import Derived.Laws.AppendOwnNone
import Derived.Laws.OwnMore
import Derived.BigFrame
import Derived.Deep.MidRow
set_option maxHeartbeats 1600000
set_option maxRecDepth 100000
namespace Go.Proofs.YtnfejdfjlnpldaaGreatDoor
def Byts (xs:List Int):Prop:=∀ x ∈ xs,0≤x∧x≤255
theorem Byts.nil:Byts []:=fun x h=>by cases h
theorem Byts.append {xs ys:List Int} (h1:Byts xs) (h2:Byts ys):Byts (xs ++ ys):=fun x h=>by
 rcases List.mem_append.1 h with q | q
 · exact h1 x q
 · exact h2 x q
theorem Byts.left {xs ys:List Int} (h:Byts (xs ++ ys)):Byts xs:=fun x q=>h x (List.mem_append_left _ q)
theorem Byts.right {xs ys:List Int} (h:Byts (xs ++ ys)):Byts ys:=fun x q=>h x (List.mem_append_right _ q)
theorem Byts.take {xs:List Int} (h:Byts xs) (n:Nat):Byts (xs.take n):=fun x q=>h x (List.mem_of_mem_take q)
theorem Byts.drop {xs:List Int} (h:Byts xs) (n:Nat):Byts (xs.drop n):=fun x q=>h x (List.mem_of_mem_drop q)
def be:Nat→Int→List Int
 | 0,_=>[]
 | w + 1,n=>be w (n / 256) ++ [n % 256]
theorem be_len:∀ (w:Nat) (n:Int),(be w n).length=w
 | 0,_=>rfl
 | w + 1,n=>by unfold be;rw [List.length_append,be_len w];rfl
theorem be_byts:∀ (w:Nat) (n:Int),Byts (be w n)
 | 0,_=>Byts.nil
 | w + 1,n=>by
   unfold be
   refine (be_byts w _).append fun x h=>?_
   simp at h
   omega
def num (bs:List Int):Int:=bs.foldl (fun n x=>256 * n + x) 0
theorem num_snoc (bs:List Int) (x:Int):num (bs ++ [x])=256 * num bs + x:=by unfold num;rw [List.foldl_append];rfl
theorem snoc_of {bs:List Int} {n:Nat} (h:bs.length=n + 1):∃ cs x,bs=cs ++ [x]∧cs.length=n:=by
 have hne:bs ≠ []:=fun q=>by rw [q] at h;cases h
 refine ⟨bs.dropLast,bs.getLast hne,(List.dropLast_concat_getLast hne).symm,?_⟩
 rw [List.length_dropLast];omega
theorem num_bound:∀ (n:Nat) (bs:List Int),bs.length=n→Byts bs→0≤num bs∧num bs < 256 ^ n
 | 0,bs,h,_=>by
   obtain rfl:=List.eq_nil_of_length_eq_zero h
   exact ⟨by decide,by decide⟩
 | n + 1,bs,h,hb=>by
   obtain ⟨cs,x,rfl,hl⟩:=snoc_of h
   have h1:=num_bound n cs hl hb.left
   have h2:=hb x (by simp)
   rw [num_snoc,Int.pow_succ]
   omega
theorem be_num:∀ (n:Nat) (bs:List Int),bs.length=n→Byts bs→be n (num bs)=bs
 | 0,bs,h,_=>by
   obtain rfl:=List.eq_nil_of_length_eq_zero h
   rfl
 | n + 1,bs,h,hb=>by
   obtain ⟨cs,x,rfl,hl⟩:=snoc_of h
   have h2:=hb x (by simp)
   unfold be
   rw [num_snoc]
   have e1:(256 * num cs + x) / 256=num cs:=by omega
   have e2:(256 * num cs + x) % 256=x:=by omega
   rw [e1,e2,be_num n cs hl hb.left]
theorem num_be:∀ (w:Nat) (n:Int),0≤n→n < 256 ^ w→num (be w n)=n
 | 0,n,h0,h1=>by
   have e:(256:Int) ^ 0=1:=rfl
   rw [e] at h1
   obtain rfl:n=0:=by omega
   rfl
 | w + 1,n,h0,h1=>by
   rw [Int.pow_succ] at h1
   unfold be
   rw [num_snoc,num_be w (n / 256) (by omega) (by omega)]
   omega
theorem be_nth:∀ (w:Nat) (n:Int) (i:Nat),0≤n→i < w→nth (be w n) (w - 1 - i)=n / 256 ^ i % 256
 | 0,_,_,_,h=>by omega
 | w + 1,n,i,h0,h=>by
   unfold be
   rcases Nat.eq_zero_or_pos i with rfl | hi
   · rw [nth_append_right (by rw [be_len];omega),be_len]
     have e:w + 1 - 1 - 0 - w=0:=by omega
     rw [e]
     show n % 256=n / 1 % 256
     rw [Int.ediv_one]
   · rw [nth_append_left (by rw [be_len];omega)]
     have e:w + 1 - 1 - i=w - 1 - (i - 1):=by omega
     rw [e,be_nth w (n / 256) (i - 1) (by omega) (by omega)]
     obtain ⟨j,rfl⟩:∃ j,i=j + 1:=⟨i - 1,by omega⟩
     rw [Nat.add_sub_cancel,Int.pow_succ,Int.mul_comm,Int.ediv_ediv_of_nonneg (by decide)]
def wid (k:Int):Nat:=if k=1∨k=2∨k=7 then 1 else if k=3 then 2 else if k=4 then 4 else if k=5 then 8 else if k=6 then 32 else 0
def gre (k:Int):Int:=if k=1 then 1 else if k=2 then 255 else if k=3 then 65535 else if k=4 then 4294967295 else if k=5 then 18446744073709551615 else 0
def zeroD:List Int:=List.replicate 32 0
structure Fd where
 k:Int
 n:Int
 d:List Int
 hk:0≤k∧k≤255
 hn:0≤n∧n≤18446744073709551615
 hl:d.length=32
 hd:Byts d
theorem Fd.ext' {f g:Fd} (h1:f.k=g.k) (h2:f.n=g.n) (h3:f.d=g.d):f=g:=by
 cases f;cases g;simp_all
def Fd.zero:Fd:=⟨0,0,zeroD,by decide,by decide,by decide,fun x h=>by have:=List.eq_of_mem_replicate h;omega⟩
def Fd.num (k n:Int) (hk:0≤k∧k≤255) (hn:0≤n∧n≤18446744073709551615):Fd:=⟨k,n,zeroD,hk,hn,Fd.zero.hl,Fd.zero.hd⟩
def Fd.ok (f:Fd):Bool:=decide (wid f.k ≠ 0) && decide (f.n≤gre f.k) && (decide (f.k=6) || decide (f.d=zeroD))
def Fd.err (f:Fd):Int:=if f.ok then 0 else 8
def Fd.bs (f:Fd):List Int:=if f.k=6 then f.d else be (wid f.k) f.n
theorem wid_six {k:Int} (h:k=6):wid k=32:=by subst h;rfl
theorem Fd.bs_len (f:Fd):f.bs.length=wid f.k:=by
 unfold Fd.bs
 split
 · rename_i h
   rw [f.hl,wid_six h]
 · exact be_len _ _
theorem Fd.bs_byts (f:Fd):Byts f.bs:=by
 unfold Fd.bs
 split
 · exact f.hd
 · exact be_byts _ _
theorem wid_cases (k:Int):wid k=0∨wid k=1∨wid k=2∨wid k=4∨wid k=8∨wid k=32:=by unfold wid;(repeat' split) <;> simp
theorem wid_le (k:Int):wid k≤32:=by have:=wid_cases k;omega
def fldN (k:Int) (bs:List Int):Int:=if k=6 then 0 else Go.Proofs.YtnfejdfjlnpldaaGreatDoor.num bs
def fldD (k:Int) (bs:List Int):List Int:=if k=6 then bs else zeroD
open Classical in
noncomputable def fld (k:Int) (bs:List Int):Fd :=
 if h:(0≤k∧k≤255)∧(0≤fldN k bs∧fldN k bs≤18446744073709551615)∧(fldD k bs).length=32∧Byts (fldD k bs) then ⟨k,fldN k bs,fldD k bs,h.1,h.2.1,h.2.2.1,h.2.2.2⟩ else Fd.zero
theorem pow_le8 {n:Nat} (h:n≤8):(256:Int) ^ n≤18446744073709551616:=by
 have:n=0∨n=1∨n=2∨n=3∨n=4∨n=5∨n=6∨n=7∨n=8:=by omega
 rcases this with q | q | q | q | q | q | q | q | q <;> subst q <;> decide
theorem fld_ok {k:Int} {bs:List Int} (hk:0≤k∧k≤255) (hl:bs.length=wid k) (hb:Byts bs) :
   (fld k bs).k=k∧(fld k bs).n=fldN k bs∧(fld k bs).d=fldD k bs:=by
 have h:(0≤k∧k≤255)∧(0≤fldN k bs∧fldN k bs≤18446744073709551615)∧(fldD k bs).length=32∧Byts (fldD k bs):=by
   refine ⟨hk,?_⟩
   by_cases h6:k=6
   · subst h6
     exact ⟨⟨show (0:Int)≤0 by decide,show (0:Int)≤18446744073709551615 by decide⟩,hl,hb⟩
   · have hw:wid k≤8:=by
       have:k=6∨wid k≤8:=by unfold wid;(repeat' split) <;> simp_all
       omega
     unfold fldN fldD
     rw [if_neg h6,if_neg h6]
     have:=num_bound _ bs rfl hb
     have:=pow_le8 (n:=bs.length) (by omega)
     exact ⟨by omega,Fd.zero.hl,Fd.zero.hd⟩
 unfold fld
 rw [dif_pos h]
 exact ⟨rfl,rfl,rfl⟩
theorem gre_lt {k:Int} (hw:k ≠ 6) (hz:wid k ≠ 0):gre k < 256 ^ wid k:=by
 have h:k=1∨k=2∨k=3∨k=4∨k=5∨k=7:=by
   have:k=6∨wid k=0∨k=1∨k=2∨k=3∨k=4∨k=5∨k=7:=by unfold wid;(repeat' split) <;> omega
   omega
 rcases h with h | h | h | h | h | h <;> subst h <;> decide
theorem Fd.back {f:Fd} (h:f.ok=true):fld f.k f.bs=f:=by
 obtain ⟨h1,h2,h3⟩:=fld_ok f.hk f.bs_len f.bs_byts
 unfold Fd.ok at h
 simp only [Bool.and_eq_true,Bool.or_eq_true,decide_eq_true_eq] at h
 refine Fd.ext' h1 (h2.trans ?_) (h3.trans ?_)
 · unfold fldN Fd.bs
   split
   · rename_i h6
     have:gre f.k=0:=by rw [h6];rfl
     have:=f.hn
     omega
   · rename_i h6
     exact num_be _ _ f.hn.1 (by have:=gre_lt h6 h.1.1;omega)
 · unfold fldD Fd.bs
   split
   · rfl
   · rcases h.2 with q | q
     · contradiction
     · exact q.symm
theorem fld_bs {k:Int} {bs:List Int} (hk:0≤k∧k≤255) (hl:bs.length=wid k) (hb:Byts bs):(fld k bs).bs=bs:=by
 obtain ⟨h1,h2,h3⟩:=fld_ok hk hl hb
 unfold Fd.bs
 rw [h1,h2,h3]
 unfold fldN fldD
 split
 · rfl
 · exact be_num _ _ hl hb
end Go.Proofs.YtnfejdfjlnpldaaGreatDoor
namespace Go.Proofs.YtnfejdfjlnpldaaGreatDoor
open Go.ChangeShapes Go.WideShapes Go.ChangeAt Go.RowKit Go.Joins
structure Lay (α:Type) where
 f:α→List Value
 s:Nat
 pos:0 < s
 len:∀ x,(f x).length=s
 one:∀ x,∀ u ∈ f x,u.oneCell'=true
variable {α:Type}
theorem Lay.lt {L:Lay α} {x:α} {j:Nat} {v:Value} (h:(L.f x)[j]? = some v):j < L.s:=by
 rcases Nat.lt_or_ge j L.s with q | q
 · exact q
 · rw [List.getElem?_eq_none (by rw [L.len];exact q)] at h;cases h
structure Rws (L:Lay α) (w:World) (at0:Option Addr) (cap:Nat) (xs:List α):Prop where
 room:xs.length≤cap
 most:cap≤9223372036854775807
 cells:0 < xs.length→∃ b off,at0=some ⟨b,off,none⟩∧∀ i x,xs[i]? = some x→w.rangeAt b (off + i * L.s) (L.f x)
 nil:at0=none→cap=0
def IsR (L:Lay α) (w:World) (v:Value) (xs:List α):Prop:=∃ at0 cap,v=.slice at0 xs.length cap∧Rws L w at0 cap xs
theorem range_cells {w w':World} {b o:Nat} {cs:List Value} (h:w.rangeAt b o cs) (hw:∀ b o v,w.cell? ⟨b,o,none⟩=some v→w'.cell? ⟨b,o,none⟩=some v):w'.rangeAt b o cs:=fun j v hv=>hw _ _ _ (h j v hv)
theorem range_below {w w':World} {b o:Nat} {cs:List Value} (h:w.rangeAt b o cs) (hb:Below w.heap.size w w'):w'.rangeAt b o cs :=
 range_cells h fun b o v hc=>by rw [hb.cell (p:=⟨b,o,none⟩) (lt_of_cell' hc)];exact hc
theorem Rws.of_cells {L:Lay α} {w w':World} {at0:Option Addr} {cap:Nat} {xs:List α} (h:Rws L w at0 cap xs)
   (hw:∀ b o v,w.cell? ⟨b,o,none⟩=some v→w'.cell? ⟨b,o,none⟩=some v):Rws L w' at0 cap xs :=
 ⟨h.room,h.most,fun h0=>let ⟨b,off,e,hc⟩:=h.cells h0;⟨b,off,e,fun i x hi=>range_cells (hc i x hi) hw⟩,h.nil⟩
theorem Rws.none (L:Lay α) (w:World):Rws L w none 0 []:=⟨Nat.le_refl _,by omega,fun h=>absurd h (by simp),fun _=>rfl⟩
theorem IsR.of_cells {L:Lay α} {w w':World} {v:Value} {xs:List α} (h:IsR L w v xs) (hw:∀ b o v,w.cell? ⟨b,o,Option.none⟩=some v→w'.cell? ⟨b,o,Option.none⟩=some v):IsR L w' v xs :=
 let ⟨a,c,e,hi⟩:=h;⟨a,c,e,hi.of_cells hw⟩
theorem IsR.below {L:Lay α} {w w':World} {v:Value} {xs:List α} (h:IsR L w v xs) (hb:Below w.heap.size w w'):IsR L w' v xs :=
 h.of_cells fun b o v hc=>by rw [hb.cell (p:=⟨b,o,Option.none⟩) (lt_of_cell' hc)];exact hc
theorem IsR.alloc {L:Lay α} {w:World} {v:Value} {xs:List α} (h:IsR L w v xs) (x:Obj):IsR L (w.alloc x) v xs :=
 h.of_cells fun b o v hc=>by rw [World.cell?_alloc_lt _ _ _ (lt_of_cell' hc)];exact hc
theorem IsR.drew {L:Lay α} {w:World} {v:Value} {xs:List α} (h:IsR L w v xs):IsR L w.drew v xs:=h.of_cells fun _ _ _ hc=>hc
theorem IsR.drewN {L:Lay α} {w:World} {v:Value} {xs:List α} (h:IsR L w v xs) (n:Nat):IsR L (w.drewN n) v xs:=h.of_cells fun _ _ _ hc=>hc
theorem IsR.none {L:Lay α} {w:World}:IsR L w (.slice none 0 0) []:=⟨Option.none,0,rfl,Rws.none L w⟩
theorem IsR.room {L:Lay α} {w:World} {a:Option Addr} {n c:Nat} {xs:List α} (h:IsR L w (.slice a n c) xs):n=xs.length∧xs.length≤c∧c≤9223372036854775807∧(a=Option.none→c=0):=by
 obtain ⟨a',c',e,hi⟩:=h
 injection e with e1 e2 e3
 subst e1 e2 e3
 exact ⟨rfl,hi.room,hi.most,hi.nil⟩
theorem IsR.get {L:Lay α} {w:World} {a:Option Addr} {n c:Nat} {xs:List α} (h:IsR L w (.slice a n c) xs) (s:Nat) (hs:L.s=s) {i:Nat} {x:α} (hi:xs[i]? = some x):∃ b off,a=some ⟨b,off,Option.none⟩∧w.rangeAt b (off + i * s) (L.f x):=by
 subst hs
 obtain ⟨a',c',e,h1⟩:=h
 injection e with e1 e2 e3
 subst e1 e2 e3
 obtain ⟨b,off,e,hc⟩:=h1.cells (by have:=(List.getElem?_eq_some_iff.1 hi).1;omega)
 exact ⟨b,off,e,hc i x hi⟩
def flatR (L:Lay α) (xs:List α):List Value:=xs.flatMap L.f
theorem flatR_len (L:Lay α) (xs:List α):(flatR L xs).length=xs.length * L.s:=by
 induction xs with
 | nil=>simp [flatR]
 | cons b xs ih =>
   have e:flatR L (b :: xs)=L.f b ++ flatR L xs:=by unfold flatR;simp
   rw [e,List.length_append,ih,L.len,List.length_cons,Nat.add_mul,Nat.one_mul,Nat.add_comm]
theorem flatR_app (L:Lay α) (xs ys:List α):flatR L (xs ++ ys)=flatR L xs ++ flatR L ys:=by unfold flatR;simp
theorem flatR_one (L:Lay α) (x:α):flatR L [x]=L.f x:=by unfold flatR;simp
theorem flatR_at {L:Lay α}:∀ {xs:List α} {i j:Nat} {x:α} {v:Value},xs[i]? = some x→(L.f x)[j]? = some v→(flatR L xs)[i * L.s + j]? = some v:=by
 intro xs
 induction xs with
 | nil=>intro i j x v h;simp at h
 | cons b xs ih =>
   intro i j x v hi hv
   have hj:=Lay.lt hv
   have e:flatR L (b :: xs)=L.f b ++ flatR L xs:=by unfold flatR;simp
   rw [e]
   cases i with
   | zero =>
     simp at hi
     subst hi
     rw [Nat.zero_mul,Nat.zero_add,List.getElem?_append_left (by rw [L.len];exact hj)]
     exact hv
   | succ i =>
     rw [List.getElem?_append_right (by rw [L.len,Nat.add_mul];omega),L.len]
     have e2:(i + 1) * L.s + j - L.s=i * L.s + j:=by rw [Nat.add_mul];omega
     rw [e2]
     exact ih (by simpa using hi) hv
theorem flatR_inv {L:Lay α} {xs:List α} {j:Nat} {u:Value} (h:(flatR L xs)[j]? = some u):∃ x,xs[j / L.s]? = some x∧(L.f x)[j % L.s]? = some u:=by
 have hj:j < xs.length * L.s:=by
   rcases Nat.lt_or_ge j (xs.length * L.s) with q | q
   · exact q
   · rw [List.getElem?_eq_none (by rw [flatR_len];exact q)] at h
     cases h
 have hi:j / L.s < xs.length:=(Nat.div_lt_iff_lt_mul L.pos).2 hj
 refine ⟨xs[j / L.s],List.getElem?_eq_getElem hi,?_⟩
 have hj2:j % L.s < (L.f xs[j / L.s]).length:=by rw [L.len];exact Nat.mod_lt _ L.pos
 obtain ⟨x,hx⟩:∃ x,(L.f xs[j / L.s])[j % L.s]? = some x:=⟨_,List.getElem?_eq_getElem hj2⟩
 have:=flatR_at (List.getElem?_eq_getElem hi) hx
 rw [Nat.div_add_mod' j L.s,h] at this
 rw [hx,this]
theorem flatR_ones {L:Lay α} {xs:List α} {u:Value} (h:u ∈ flatR L xs):u.oneCell'=true:=by
 unfold flatR at h
 rw [List.mem_flatMap] at h
 obtain ⟨b,_,hu⟩:=h
 exact L.one b u hu
theorem IsR.own {L:Lay α} {w:World} {B e n s:Nat} {v:Value} {xs:List α} (h:w.ownsRow B e s v n (flatR L xs)) (hs:L.s=s) (hn:n=xs.length):IsR L w v xs:=by
 subst hn hs
 obtain ⟨_,⟨rfl,h0⟩ | ⟨g,cap,cur,rfl,_,hb,hn,hm,hs,ht⟩⟩:=h
 · have:xs=[]:=List.eq_nil_of_length_eq_zero h0
   subst this
   exact IsR.none
 · refine ⟨some ⟨g,0,Option.none⟩,cap,rfl,hn,by unfold maxLen at hm;omega,fun _=>⟨g,0,rfl,fun i x hi j v hv=>?_⟩,fun q=>by cases q⟩
   have hf:=flatR_at hi hv
   have hl:i * L.s + j < xs.length * L.s:=by rw [← flatR_len];exact (List.getElem?_eq_some_iff.1 hf).1
   rw [World.cell?]
   simp only [hb]
   have e1:cur[0 + i * L.s + j]? = (cur.toList.take (xs.length * L.s))[i * L.s + j]?:=by
     rw [List.getElem?_take_of_lt hl,Array.getElem?_toList,Nat.zero_add]
   rw [e1,ht]
   exact hf
theorem ownR_built {L:Lay α} {w:World} {b n m s:Nat} {c:Array Value} {e:TypeId} (xs:List α) (hs:L.s=s) (hb:b=w.heap.size) (hc:c=(flatR L xs).toArray) (hn:n=xs.length) (hm:m=xs.length) (hl:xs.length≤1000):(w.alloc (.cells c e)).ownsRow w.heap.size e s (.slice (some ⟨b,0,none⟩) n m) n (flatR L xs):=by
 subst hb hc hn hm hs
 exact ⟨flatR_len L xs,Or.inr ⟨w.heap.size,xs.length,(flatR L xs).toArray,rfl,Nat.le_refl _,heap_alloc_new w _,Nat.le_refl _,by unfold maxLen;omega,by simp [flatR_len],by rw [List.take_of_length_le (by simp [flatR_len])]⟩⟩
theorem IsR.built {L:Lay α} {w:World} {b n m:Nat} {c:Array Value} {t:TypeId} (xs:List α) (hb:b=w.heap.size) (hc:c=(flatR L xs).toArray) (hn:n=xs.length) (hm:m=xs.length) (hl:xs.length≤1000):IsR L (w.alloc (.cells c t)) (.slice (some ⟨b,0,Option.none⟩) n m) xs :=
 IsR.own (ownR_built xs rfl hb hc hn hm hl) rfl hn
theorem ownR_block {w':World} {B e s n:Nat} {v:Value} {l:List Value} (h:w'.ownsRow B e s v n l):∀ k,v.ownBlock=some k→B≤k:=by
 obtain ⟨_,⟨rfl,_⟩ | ⟨g,cap,cur,rfl,hb,_⟩⟩:=h
 · intro k hk;cases hk
 · intro k hk;cases hk;exact hb
theorem ownR_below {w w':World} {B e s n:Nat} {v:Value} {l:List Value} (h:w.ownsRow B e s v n l) (hb:Below w.heap.size w w'):w'.ownsRow B e s v n l:=by
 obtain ⟨h1,h2 | ⟨g,cap,cur,h3,hg,h4,h5⟩⟩:=h
 · exact ⟨h1,.inl h2⟩
 · refine ⟨h1,.inr ⟨g,cap,cur,h3,hg,?_,h5⟩⟩
   rw [hb.block g (by
     rcases Nat.lt_or_ge g w.heap.size with q | q
     · exact q
     · rw [Array.getElem?_eq_none q] at h4;cases h4)]
   exact h4
theorem ownR_base {w':World} {B B' e s n:Nat} {v:Value} {l:List Value} (h:w'.ownsRow B e s v n l) (hB:B'≤B):w'.ownsRow B' e s v n l:=by
 obtain ⟨h1,h2 | ⟨g,cap,cur,h3,hg,h4⟩⟩:=h
 · exact ⟨h1,.inl h2⟩
 · exact ⟨h1,.inr ⟨g,cap,cur,h3,by omega,h4⟩⟩
theorem ownR_none {w:World} {base e s:Nat}:w.ownsRow base e s (.slice none 0 0) 0 []:=⟨by simp,Or.inl ⟨rfl,rfl⟩⟩
section
variable {P:Program} {w:World} {ops:Array Oper} {rest:List Oper} {o:Oper} {a:Act} {K:Act→World→Prop} {Q:Exit→Act→World→Prop}
theorem wp_append_rows (L:Lay α) (s x:Operand) (t:TypeId)
   (ho:o.op=.call { callee:=.builtin .append,args:=#[s,x],argTypes:=#[t,t] })
   (base:Nat) (e:TypeId) (i:TypeInfo) (z:Value) (sz bytes:Nat) (hsz:L.s=sz) (ht:P.underlying t=some (.slice e)) (hi:P.info? e=some i) (hz:i.zero=some z)
   (hsize:i.size=sz) (hby:i.bytes=bytes) (hzs:z.cells.size=sz)
   (v:Value) (n:Nat) (l:List Value) (hs:a.eval s=v) (hown:w.ownsRow base e sz v n l)
   (v2:Value) (xs:List α) (hx:a.eval x=v2) (hin:IsR L w v2 xs)
   (h63:n + xs.length≤maxLen) (hbytes:(n + xs.length) * bytes≤140737488355328) (hbase:base≤w.heap.size)
   (h:∀ v' w',w'.ownsRow base e sz v' (n + xs.length) (l ++ flatR L xs)→w.grownBy w' v.ownBlock→K (a.put o.dst v') w'):o.wp P a w K Q:=by
 subst hsz
 obtain ⟨at0,cap,rfl,hin⟩:=hin
 cases at0 with
 | none =>
   have hc:=hin.nil rfl
   subst hc
   have hl:xs=[]:=List.eq_nil_of_length_eq_zero (by have:=hin.room;omega)
   subst hl
   have hrun:=run_append_owned_none (P:=P) (w:=w) base t o.type e i L.s ht hi v n l hown
   have hk:=h v w (by simpa [flatR] using hown) (World.grownBy.refl w _)
   unfold Oper.wp
   simp [execOp,ho,resolve,invoke,builtin,hs,hx,hrun,Result.andThen]
   exact hk
 | some ad =>
   refine wp_append_own w s x t ho base e i z L.s bytes ht hi hz hsize hby hzs L.pos v n l hs hown ad xs.length cap (flatR L xs) hx (flatR_len L xs) (fun j u hu=>?_) (fun u hu=>flatR_ones hu) h63 hbytes hbase (fun v' w' h1 h2 _=>h v' w' h1 h2)
   obtain ⟨x,hi,hv⟩:=flatR_inv hu
   obtain ⟨b,off,e1,hc⟩:=hin.cells (Nat.lt_of_le_of_lt (Nat.zero_le _) (List.getElem?_eq_some_iff.1 hi).1)
   cases e1
   have:=hc _ _ hi _ _ hv
   rw [Go.WideShapes.add_plain]
   rw [Nat.add_assoc,Nat.div_add_mod' j L.s] at this
   exact this
theorem wpList_append_rows (hw:Region.wanted o (yielded ops a.tmps)=true) (L:Lay α) (s x:Operand) (t:TypeId)
   (ho:o.op=.call { callee:=.builtin .append,args:=#[s,x],argTypes:=#[t,t] })
   (base:Nat) (e:TypeId) (i:TypeInfo) (z:Value) (sz bytes:Nat) (hsz:L.s=sz) (ht:P.underlying t=some (.slice e)) (hi:P.info? e=some i) (hz:i.zero=some z)
   (hsize:i.size=sz) (hby:i.bytes=bytes) (hzs:z.cells.size=sz)
   (v:Value) (n:Nat) (l:List Value) (hs:a.eval s=v) (hown:w.ownsRow base e sz v n l)
   (v2:Value) (xs:List α) (hx:a.eval x=v2) (hin:IsR L w v2 xs)
   (h63:n + xs.length≤maxLen) (hbytes:(n + xs.length) * bytes≤140737488355328) (hbase:base≤w.heap.size)
   (h:∀ v' w',w'.ownsRow base e sz v' (n + xs.length) (l ++ flatR L xs)→w.grownBy w' v.ownBlock→wpList P ops Q rest (a.put o.dst v') w'):wpList P ops Q (o :: rest) a w :=
 BigFrame.wpList_want hw fun _ hK=>wp_append_rows L s x t ho base e i z sz bytes hsz ht hi hz hsize hby hzs v n l hs hown v2 xs hx hin h63 hbytes hbase fun v' w' h1 h2=>hK _ _ (h v' w' h1 h2)
theorem step_append_rows {E:Prop} (hgd:o.guard=none) (L:Lay α) (s x:Operand) (t:TypeId)
   (ho:o.op=.call { callee:=.builtin .append,args:=#[s,x],argTypes:=#[t,t] })
   (base:Nat) (e:TypeId) (i:TypeInfo) (z:Value) (sz bytes:Nat) (hsz:L.s=sz) (ht:P.underlying t=some (.slice e)) (hi:P.info? e=some i) (hz:i.zero=some z)
   (hsize:i.size=sz) (hby:i.bytes=bytes) (hzs:z.cells.size=sz)
   (v:Value) (n:Nat) (l:List Value) (hs:a.eval s=v) (hown:w.ownsRow base e sz v n l)
   (v2:Value) (xs:List α) (hx:a.eval x=v2) (hin:IsR L w v2 xs)
   (h63:n + xs.length≤maxLen) (hbytes:(n + xs.length) * bytes≤140737488355328) (hbase:base≤w.heap.size)
   (h:∀ v' w',w'.ownsRow base e sz v' (n + xs.length) (l ++ flatR L xs)→Below base w w'→K (a.put o.dst v') w'):if Region.wanted o (yielded ops a.tmps)=true then Oper.wp P o a w K Q else E:=by
 rw [if_pos (by simp [Region.wanted,hgd])]
 exact wp_append_rows L s x t ho base e i z sz bytes hsz ht hi hz hsize hby hzs v n l hs hown v2 xs hx hin h63 hbytes hbase fun v' w' h1 h2=>h v' w' h1 ((Below.refl _ w).grown h2 hbase (ownR_block hown))
theorem wpList_load_range (hgd:o.guard=none) (ty:TypeId) (x:Operand) (ho:o.op=.load ty x) {b off:Nat} {cs:List Value} (hb:w.rangeAt b off cs) (hx:a.eval x=.pointer (some ⟨b,off,none⟩)) {d:TypeDesc}
   (hu:P.underlying ty=some d) (hd:d.isRow=true) (hi:(P.info? ty).map (·.size)=some cs.length)
   (h:wpList P ops Q rest (a.put o.dst (.agg cs.toArray)) w):wpList P ops Q (o :: rest) a w :=
 wpList_load_mid hgd ty x ho b off hx cs d hb hu hd hi h
theorem wpList_load_rangew (hw:Region.wanted o (yielded ops a.tmps)=true) (ty:TypeId) (x:Operand) (ho:o.op=.load ty x) {b off:Nat} {cs:List Value} (hb:w.rangeAt b off cs) (hx:a.eval x=.pointer (some ⟨b,off,none⟩)) {d:TypeDesc}
   (hu:P.underlying ty=some d) (hd:d.isRow=true) (hi:(P.info? ty).map (·.size)=some cs.length)
   (h:wpList P ops Q rest (a.put o.dst (.agg cs.toArray)) w):wpList P ops Q (o :: rest) a w :=
 BigFrame.wpList_want hw fun _ hK=>wp_load_mid ty x ho b off hx cs d hb hu hd hi (hK _ _ h)
end
theorem Box.rangeFrom {w:World} {b:Nat} {vs:List Value} (h:Box w b vs) (k:Nat) (cs:List Value) (he:vs.drop k=cs):w.rangeAt b k cs:=fun j v e=>by
 subst he
 rw [List.getElem?_drop] at e
 exact h.c (k + j) v e
end Go.Proofs.YtnfejdfjlnpldaaGreatDoor
namespace Go.Proofs.YtnfejdfjlnpldaaGreatDoor
open Go.ChangeShapes Go.WideShapes Go.ChangeAt Go.RowKit Go.Joins
def Fd.v (f:Fd):List Value:=.int .u8 f.k :: .int .u64 f.n :: f.d.map (Value.int .u8)
def LF:Lay Fd where
 f:=Fd.v
 s:=34
 pos:=by decide
 len:=fun x=>by simp [Fd.v,x.hl]
 one:=fun x u hu=>by
   simp [Fd.v] at hu
   rcases hu with rfl | rfl | ⟨y,_,rfl⟩ <;> rfl
theorem Fd.v_len (f:Fd):f.v.length=34:=LF.len f
theorem Fd.v_inj {f g:Fd} (h:f.v=g.v):f=g:=by
 unfold Fd.v at h
 simp only [List.cons.injEq,Value.int.injEq,true_and] at h
 refine Fd.ext' h.1 h.2.1 ?_
 have:=h.2.2
 have hi:∀ {xs ys:List Int},xs.map (Value.int .u8)=ys.map (Value.int .u8)→xs=ys:=by
   intro xs
   induction xs with
   | nil=>intro ys h;cases ys with
     | nil=>rfl
     | cons=>cases h
   | cons x xs ih=>intro ys h;cases ys with
     | nil=>cases h
     | cons y ys=>simp at h;rw [h.1,ih (by simpa using h.2)]
 exact hi this
theorem sizeFld:(Tryz.prog.info? 88).map (·.size)=some 34:=by kernel_rfl
theorem sizeDig:(Tryz.prog.info? 23).map (·.size)=some 32:=by kernel_rfl
def rowE (fs:List Fd):Int:=if 40 < fs.length then 4 else if fs.all Fd.ok then 0 else 8
def rowB (fs:List Fd):List Int:=fs.flatMap Fd.bs
def rowV (fs:List Fd):List Int:=if rowE fs=0 then rowB fs else []
theorem rowB_nil:rowB []=[]:=rfl
theorem rowB_cons (f:Fd) (fs:List Fd):rowB (f :: fs)=f.bs ++ rowB fs:=rfl
theorem rowB_app (fs gs:List Fd):rowB (fs ++ gs)=rowB fs ++ rowB gs:=by unfold rowB;simp
theorem rowB_snoc (fs:List Fd) (f:Fd):rowB (fs ++ [f])=rowB fs ++ f.bs:=by unfold rowB;simp
theorem rowB_le (fs:List Fd):(rowB fs).length≤fs.length * 32:=by
 induction fs with
 | nil=>simp [rowB]
 | cons f fs ih =>
   rw [rowB_cons,List.length_append,f.bs_len,List.length_cons]
   have:=wid_le f.k
   omega
theorem rowE_many {fs:List Fd} (h:40 < fs.length):rowE fs=4:=if_pos h
theorem rowE_bad {fs:List Fd} (h:fs.length≤40) {f:Fd} (hi:f ∈ fs) (he:f.ok=false):rowE fs=8:=by
 unfold rowE
 rw [if_neg (by omega),if_neg]
 intro q
 rw [List.all_eq_true] at q
 rw [q f hi] at he
 cases he
theorem rowE_ok {fs:List Fd} (h:fs.length≤40) (he:∀ f ∈ fs,f.ok=true):rowE fs=0:=by
 unfold rowE
 rw [if_neg (by omega),if_pos (List.all_eq_true.2 he)]
theorem rowE_zero {fs:List Fd} (h:rowE fs=0):fs.length≤40∧∀ f ∈ fs,f.ok=true:=by
 unfold rowE at h
 split at h
 · omega
 · split at h
   · rename_i h1 h2
     exact ⟨by omega,List.all_eq_true.1 h2⟩
   · omega
def kinE (ks:List Int):Int:=if 40 < ks.length then 4 else if ks.all (fun k=>wid k != 0) then 0 else 2
theorem kinE_many {ks:List Int} (h:40 < ks.length):kinE ks=4:=if_pos h
theorem kinE_bad {ks:List Int} (h:ks.length≤40) {k:Int} (hi:k ∈ ks) (he:wid k=0):kinE ks=2:=by
 unfold kinE
 rw [if_neg (by omega),if_neg]
 intro q
 rw [List.all_eq_true] at q
 have:=q k hi
 rw [he] at this
 simp at this
theorem kinE_ok {ks:List Int} (h:ks.length≤40) (he:∀ k ∈ ks,wid k ≠ 0):kinE ks=0:=by
 unfold kinE
 rw [if_neg (by omega),if_pos]
 rw [List.all_eq_true]
 intro k hk
 simpa using he k hk
theorem kinE_zero {ks:List Int} (h:kinE ks=0):ks.length≤40∧∀ k ∈ ks,wid k ≠ 0:=by
 unfold kinE at h
 split at h
 · omega
 · split at h
   · rename_i h1 h2
     rw [List.all_eq_true] at h2
     exact ⟨by omega,fun k hk=>by simpa using h2 k hk⟩
   · omega
theorem kinE_cases (ks:List Int):kinE ks=0∨kinE ks=4∨kinE ks=2:=by
 unfold kinE
 (repeat' split) <;> simp
structure Rd (ks bs:List Int) (fs:List Fd) (rest:List Int):Prop where
 k:fs.map Fd.k=ks
 ok:∀ f ∈ fs,f.ok=true
 b:rowB fs ++ rest=bs
noncomputable def rd:List Int→List Int→Option (List Fd × List Int)
 | [],bs=>some ([],bs)
 | k :: ks,bs=>if bs.length < wid k then none else if (fld k (bs.take (wid k))).ok then (rd ks (bs.drop (wid k))).map (fun p=>(fld k (bs.take (wid k)) :: p.1,p.2)) else none
theorem rd_mid:∀ (fs:List Fd) (ks:List Int) (rest:List Int),(∀ f ∈ fs,f.ok=true)→rd (fs.map Fd.k ++ ks) (rowB fs ++ rest)=(rd ks rest).map (fun p=>(fs ++ p.1,p.2))
 | [],ks,rest,_=>by simp [rowB]
 | f :: fs,ks,rest,h=>by
   have hl:=f.bs_len
   have h1:((f.bs ++ (rowB fs ++ rest)).take (wid f.k))=f.bs:=by rw [← hl,List.take_left'];rfl
   have h2:((f.bs ++ (rowB fs ++ rest)).drop (wid f.k))=rowB fs ++ rest:=by rw [← hl,List.drop_left'];rfl
   have hf:=h f (by simp)
   rw [rowB_cons,List.append_assoc,List.map_cons,List.cons_append,rd,if_neg (by rw [List.length_append,hl];omega),h1,h2,Fd.back hf,if_pos hf,rd_mid fs ks rest (fun g hg=>h g (by simp [hg])),Option.map_map]
   rfl
theorem Rd.rd {ks bs:List Int} {fs:List Fd} {rest:List Int} (h:Rd ks bs fs rest):rd ks bs=some (fs,rest):=by
 have:=rd_mid fs [] rest h.ok
 rw [List.append_nil,h.k,h.b] at this
 rw [this]
 simp [Go.Proofs.YtnfejdfjlnpldaaGreatDoor.rd]
theorem rd_none {ks ks' bs:List Int} {k:Int} {fs:List Fd} {rest:List Int} (h:Rd ks bs fs rest) (hn:rest.length < wid k∨(fld k (rest.take (wid k))).ok=false):rd (ks ++ k :: ks') bs=none:=by
 rw [← h.k,← h.b,rd_mid fs _ rest h.ok,Go.Proofs.YtnfejdfjlnpldaaGreatDoor.rd]
 rcases hn with q | q
 · rw [if_pos q];rfl
 · split
   · rfl
   · rw [q];rfl
theorem Rd.nil (bs:List Int):Rd [] bs [] bs:=⟨rfl,fun f h=>(by cases h),rfl⟩
theorem Rd.snoc {ks bs:List Int} {k:Int} {fs:List Fd} {rest:List Int} (h:Rd ks bs fs rest) (hb:Byts bs) (hk:0≤k∧k≤255) (hl:wid k≤rest.length) (ho:(fld k (rest.take (wid k))).ok=true) :
   Rd (ks ++ [k]) bs (fs ++ [fld k (rest.take (wid k))]) (rest.drop (wid k)):=by
 have hbr:Byts rest:=Byts.right (by rw [h.b];exact hb)
 have hlen:(rest.take (wid k)).length=wid k:=by rw [List.length_take];omega
 refine ⟨?_,fun f hf=>?_,?_⟩
 · rw [List.map_append,h.k,List.map_cons,(fld_ok hk hlen (hbr.take _)).1]
   rfl
 · rcases List.mem_append.1 hf with q | q
   · exact h.ok f q
   · simp at q
     subst q
     exact ho
 · rw [rowB_snoc,fld_bs hk hlen (hbr.take _),List.append_assoc,List.take_append_drop,h.b]
theorem rd_some:∀ {ks bs:List Int} {fs:List Fd} {rest:List Int},(∀ k ∈ ks,0≤k∧k≤255)→Byts bs→rd ks bs=some (fs,rest)→Rd ks bs fs rest
 | [],bs,fs,rest,_,_,h=>by
   unfold Go.Proofs.YtnfejdfjlnpldaaGreatDoor.rd at h
   simp at h
   obtain ⟨rfl,rfl⟩:=h
   exact Rd.nil _
 | k :: ks,bs,fs,rest,hk,hb,h=>by
   unfold Go.Proofs.YtnfejdfjlnpldaaGreatDoor.rd at h
   split at h
   · cases h
   · rename_i hl
     split at h
     · rename_i ho
       rw [Option.map_eq_some_iff] at h
       obtain ⟨⟨fs',r'⟩,h1,h2⟩:=h
       simp at h2
       obtain ⟨rfl,rfl⟩:=h2
       have ih:=rd_some (fun x hx=>hk x (by simp [hx])) (hb.drop _) h1
       have hlen:(bs.take (wid k)).length=wid k:=by rw [List.length_take];omega
       refine ⟨?_,fun f hf=>?_,?_⟩
       · rw [List.map_cons,ih.k,(fld_ok (hk k (by simp)) hlen (hb.take _)).1]
       · rcases List.mem_cons.1 hf with q | q
         · rw [q];exact ho
         · exact ih.ok f q
       · rw [rowB_cons,fld_bs (hk k (by simp)) hlen (hb.take _),List.append_assoc,ih.b,List.take_append_drop]
     · cases h
noncomputable def firE (ks bs:List Int):Int:=if kinE ks=0 then (match rd ks bs with | some _=>0 | none=>12) else kinE ks
noncomputable def firF (ks bs:List Int):List Fd:=if kinE ks=0 then (match rd ks bs with | some p=>p.1 | none=>[]) else []
noncomputable def firR (ks bs:List Int):List Int:=if kinE ks=0 then (match rd ks bs with | some p=>p.2 | none=>[]) else []
noncomputable def reaE (ks bs:List Int):Int:=if firE ks bs=0 then (if firR ks bs=[] then 0 else 12) else firE ks bs
noncomputable def reaF (ks bs:List Int):List Fd:=if reaE ks bs=0 then firF ks bs else []
theorem fir_bad {ks bs:List Int} {n:Int} (h:kinE ks=n) (hn:n ≠ 0):firE ks bs=n∧firF ks bs=[]∧firR ks bs=[]:=by
 unfold firE firF firR
 subst h
 rw [if_neg hn,if_neg hn,if_neg hn]
 exact ⟨rfl,rfl,rfl⟩
theorem fir_none {ks bs:List Int} (h:kinE ks=0) (hr:rd ks bs=none):firE ks bs=12∧firF ks bs=[]∧firR ks bs=[]:=by
 unfold firE firF firR
 rw [if_pos h,if_pos h,if_pos h,hr]
 exact ⟨rfl,rfl,rfl⟩
theorem fir_some {ks bs:List Int} {fs:List Fd} {rest:List Int} (h:kinE ks=0) (hr:Rd ks bs fs rest):firE ks bs=0∧firF ks bs=fs∧firR ks bs=rest:=by
 unfold firE firF firR
 rw [if_pos h,if_pos h,if_pos h,hr.rd]
 exact ⟨rfl,rfl,rfl⟩
end Go.Proofs.YtnfejdfjlnpldaaGreatDoor
namespace Go.Proofs.YtnfejdfjlnpldaaGreatDoor
open Go.RowKit
def widE (k:Int):Int:=if wid k=0 then 2 else 0
theorem kcases (k:Int):k=1∨k=2∨k=3∨k=4∨k=5∨k=6∨k=7∨((k == 1)=false∧(k == 2)=false∧(k == 3)=false∧(k == 4)=false∧(k == 5)=false∧(k == 6)=false∧(k == 7)=false∧wid k=0∧gre k=0):=by
 by_cases h1:k=1;· simp [h1]
 by_cases h2:k=2;· simp [h2]
 by_cases h3:k=3;· simp [h3]
 by_cases h4:k=4;· simp [h4]
 by_cases h5:k=5;· simp [h5]
 by_cases h6:k=6;· simp [h6]
 by_cases h7:k=7;· simp [h7]
 have e1:wid k=0:=by unfold wid;(repeat' split) <;> omega
 have e2:gre k=0:=by unfold gre;(repeat' split) <;> omega
 simp [h1,h2,h3,h4,h5,h6,h7,e1,e2]
set_option maxRecDepth 100000 in
set_option maxHeartbeats 1600000 in
theorem width_is (k:Int) (w:World):Calls Tryz.prog 98 #[.int .u8 k] w fun e w'=>e=.returned (.tuple #[.int .i64 (wid k:Nat),.int .i64 (widE k)])∧w'=w:=by
 rcases kcases k with rfl | rfl | rfl | rfl | rfl | rfl | rfl | ⟨e1,e2,e3,e4,e5,e6,e7,hw,hg⟩
 · go_enter Tryz.func98,Tryz.ntmps98
   go_wp2_with fail
   go_returns
   exact ⟨rfl,rfl⟩
 · go_enter Tryz.func98,Tryz.ntmps98
   go_wp2_with fail
   go_returns
   exact ⟨rfl,rfl⟩
 · go_enter Tryz.func98,Tryz.ntmps98
   go_wp2_with fail
   go_returns
   exact ⟨rfl,rfl⟩
 · go_enter Tryz.func98,Tryz.ntmps98
   go_wp2_with fail
   go_returns
   exact ⟨rfl,rfl⟩
 · go_enter Tryz.func98,Tryz.ntmps98
   go_wp2_with fail
   go_returns
   exact ⟨rfl,rfl⟩
 · go_enter Tryz.func98,Tryz.ntmps98
   go_wp2_with fail
   go_returns
   exact ⟨rfl,rfl⟩
 · go_enter Tryz.func98,Tryz.ntmps98
   go_wp2_with fail
   go_returns
   exact ⟨rfl,rfl⟩
 · go_enter Tryz.func98,Tryz.ntmps98
   go_wp2_with fail
   go_returns
   exact ⟨by simp [hw,widE],rfl⟩
set_option maxRecDepth 100000 in
set_option maxHeartbeats 1600000 in
theorem great_is (k:Int) (w:World):Calls Tryz.prog 99 #[.int .u8 k] w fun e w'=>e=.returned (.int .u64 (gre k))∧w'=w:=by
 rcases kcases k with rfl | rfl | rfl | rfl | rfl | rfl | rfl | ⟨e1,e2,e3,e4,e5,e6,e7,hw,hg⟩
 · go_enter Tryz.func99,Tryz.ntmps99
   go_wp2_with fail
   go_returns
   exact ⟨rfl,rfl⟩
 · go_enter Tryz.func99,Tryz.ntmps99
   go_wp2_with fail
   go_returns
   exact ⟨rfl,rfl⟩
 · go_enter Tryz.func99,Tryz.ntmps99
   go_wp2_with fail
   go_returns
   exact ⟨rfl,rfl⟩
 · go_enter Tryz.func99,Tryz.ntmps99
   go_wp2_with fail
   go_returns
   exact ⟨rfl,rfl⟩
 · go_enter Tryz.func99,Tryz.ntmps99
   go_wp2_with fail
   go_returns
   exact ⟨rfl,rfl⟩
 · go_enter Tryz.func99,Tryz.ntmps99
   go_wp2_with fail
   go_returns
   exact ⟨rfl,rfl⟩
 · go_enter Tryz.func99,Tryz.ntmps99
   go_wp2_with fail
   go_returns
   exact ⟨rfl,rfl⟩
 · go_enter Tryz.func99,Tryz.ntmps99
   go_wp2_with fail
   go_returns
   exact ⟨by simp [hg],rfl⟩
set_option maxRecDepth 100000 in
set_option maxHeartbeats 1600000 in
theorem wd_is (k:Int) (w:World):Calls Tryz.prog 84 #[.int .u8 k] w fun e w'=>e=.returned (.int .i64 (wid k:Nat))∧w'=w:=by
 obtain ⟨n,hn⟩:∃ n:Int,((wid k:Nat):Int)=n:=⟨_,rfl⟩
 obtain ⟨c,hc⟩:∃ c:Int,widE k=c:=⟨_,rfl⟩
 have W:=width_is k w
 rw [hn,hc] at W
 rw [hn]
 clear hn hc
 go_enter Tryz.func84,Tryz.ntmps84
 go_wp2_with fail
 refine W.mono ?_
 rintro e w1 ⟨rfl,rfl⟩
 go_wp2_with fail
 go_returns
 exact ⟨rfl,rfl⟩
end Go.Proofs.YtnfejdfjlnpldaaGreatDoor
namespace Go.Proofs.YtnfejdfjlnpldaaGreatDoor
open Go.RowKit
theorem zeroV:(zeroD.map (Value.int .u8)).toArray = #[.int .u8 0,.int .u8 0,.int .u8 0,.int .u8 0,.int .u8 0,.int .u8 0,.int .u8 0,.int .u8 0,.int .u8 0,.int .u8 0,.int .u8 0,.int .u8 0,.int .u8 0,.int .u8 0,.int .u8 0,.int .u8 0,.int .u8 0,.int .u8 0,.int .u8 0,.int .u8 0,.int .u8 0,.int .u8 0,.int .u8 0,.int .u8 0,.int .u8 0,.int .u8 0,.int .u8 0,.int .u8 0,.int .u8 0,.int .u8 0,.int .u8 0,.int .u8 0]:=rfl
theorem size_u8':(Tryz.prog.info? 5).map (·.size)=some 1:=by kernel_rfl
theorem eqD {k:IntKind} (xs:List Int) (hx:xs.length=32) (hk:k=.u8) (ys:Array Value) (hy:ys=(zeroD.map (Value.int .u8)).toArray) (W:World):(Op.equalIn 10000 23 (.agg (xs.map (Value.int k)).toArray) (.agg ys)).run Tryz.prog W=.ok (decide (xs=zeroD)) W:=by
 subst hk hy
 exact eq_ints W 9998 Tryz.underlying23 Tryz.underlying5 size_u8' xs zeroD hx rfl
theorem Fd.err_none {f:Fd} (h:wid f.k=0):f.err=8:=by unfold Fd.err Fd.ok;rw [h];simp
theorem Fd.err_much {f:Fd} (h:gre f.k < f.n):f.err=8:=by
 unfold Fd.err Fd.ok
 rw [show decide (f.n≤gre f.k)=false from decide_eq_false (by omega)];simp
theorem Fd.err_dig {f:Fd} (h6:f.k ≠ 6) (h:f.d ≠ zeroD):f.err=8:=by
 unfold Fd.err Fd.ok
 rw [show decide (f.k=6)=false from decide_eq_false h6,show decide (f.d=zeroD)=false from decide_eq_false h];simp
theorem Fd.err_fine {f:Fd} (h:wid f.k ≠ 0) (h1:f.n≤gre f.k) (h2:f.k=6∨f.d=zeroD):f.err=0:=by
 unfold Fd.err Fd.ok
 rw [if_pos]
 rw [decide_eq_true h,decide_eq_true h1]
 rcases h2 with q | q
 · rw [decide_eq_true q];rfl
 · rw [decide_eq_true q];simp
theorem lenDig (f:Fd):(Tryz.prog.info? 23).map (·.size)=some (f.d.map (Value.int .u8)).length:=by rw [sizeDig,List.length_map,f.hl]
set_option maxRecDepth 100000 in
set_option maxHeartbeats 1600000 in
theorem check_is (f:Fd) (w:World):Calls Tryz.prog 86 #[.agg f.v.toArray] w fun e w'=>e=.returned (.int .i64 f.err)∧Below w.heap.size w w':=by
 have W:=width_is f.k
 have G:=great_is f.k
 have hX:Box (w.alloc (.cells f.v.toArray 88)) w.heap.size f.v:=Box.newc rfl rfl
 have hB:Below w.heap.size w (w.alloc (.cells f.v.toArray 88)):=by go_grown
 have hS:=lenDig f
 obtain ⟨V,hV⟩:∃ V,f.v=V:=⟨_,rfl⟩
 rw [hV] at hX hB ⊢
 obtain ⟨w1,hw1⟩:∃ w1,w.alloc (.cells V.toArray 88)=w1:=⟨_,rfl⟩
 have c0:=hX.c 0 (.int .u8 f.k) (by rw [← hV];rfl)
 have c1:=hX.c 1 (.int .u64 f.n) (by rw [← hV];rfl)
 have hD:=hX.rangeFrom 2 (f.d.map (Value.int .u8)) (by rw [← hV];rfl)
 have hz:=hX.lt
 rw [hw1] at c0 c1 hD hB hz
 clear hX
 by_cases h0:wid f.k=0
 · have hc:widE f.k=2:=if_pos h0
   have hr:=Fd.err_none h0
   rw [hc,h0] at W
   rw [hr]
   clear hc hr h0 G hS hD hV
   go_enter Tryz.func86,Tryz.ntmps86
   go_wp2_with fail
   refine (W _).mono ?_
   rintro e w2 ⟨rfl,rfl⟩
   go_wp2_with fail
   go_returns
   exact ⟨rfl,hB⟩
 have hc:widE f.k=0:=if_neg h0
 obtain ⟨m,hm⟩:∃ m:Int,((wid f.k:Nat):Int)=m:=⟨_,rfl⟩
 rw [hc,hm] at W
 by_cases h1:gre f.k < f.n
 · have hd:decide (gre f.k < f.n)=true:=decide_eq_true h1
   have hr:=Fd.err_much h1
   rw [hr]
   clear hc hr h0 hS hD hV h1 hm
   go_enter Tryz.func86,Tryz.ntmps86
   go_wp2_with fail
   refine (W _).mono ?_
   rintro e w2 ⟨rfl,rfl⟩
   go_wp2_with fail
   go_quiet ((go_at_call 99;exact Calls.quiet_of_same (G _)))
   go_wp2_with fail
   go_returns
   exact ⟨rfl,below_drewN hB _⟩
 have hd:decide (gre f.k < f.n)=false:=decide_eq_false h1
 by_cases h6:f.k=6
 · have hr:=Fd.err_fine h0 (by omega) (Or.inl h6)
   rw [hr]
   rw [h6] at W G hd c0
   clear hc hr h0 hS hD hV h1 hm
   go_enter Tryz.func86,Tryz.ntmps86
   go_wp2_with fail
   refine (W _).mono ?_
   rintro e w2 ⟨rfl,rfl⟩
   go_wp2_with fail
   go_quiet ((go_at_call 99;exact Calls.quiet_of_same (G _)))
   go_wp2_with fail
   go_returns
   exact ⟨rfl,below_drewN hB _⟩
 have hk:(f.k != 6)=true:=by simpa using h6
 have hE:=eqD f.d f.hl rfl _ zeroV.symm
 by_cases h7:f.d=zeroD
 · have hr:=Fd.err_fine h0 (by omega) (Or.inr h7)
   rw [hr]
   rw [decide_eq_true h7] at hE
   clear hc hr h0 hV h1 hm h7 h6
   go_enter Tryz.func86,Tryz.ntmps86
   go_wp2_with fail
   refine (W _).mono ?_
   rintro e w2 ⟨rfl,rfl⟩
   go_wp2_with fail
   go_quiet ((go_at_call 99;exact Calls.quiet_of_same (G _)))
   go_wp2_with (refine wpList_load_rangew rfl _ _ rfl hD rfl Tryz.underlying23 rfl hS ?_)
   go_returns
   exact ⟨rfl,below_drewN hB _⟩
 · have hr:=Fd.err_dig h6 h7
   rw [hr]
   rw [decide_eq_false h7] at hE
   clear hc hr h0 hV h1 hm h7 h6
   go_enter Tryz.func86,Tryz.ntmps86
   go_wp2_with fail
   refine (W _).mono ?_
   rintro e w2 ⟨rfl,rfl⟩
   go_wp2_with fail
   go_quiet ((go_at_call 99;exact Calls.quiet_of_same (G _)))
   go_wp2_with (refine wpList_load_rangew rfl _ _ rfl hD rfl Tryz.underlying23 rfl hS ?_)
   go_returns
   exact ⟨rfl,below_drewN hB _⟩
end Go.Proofs.YtnfejdfjlnpldaaGreatDoor
namespace Go.Proofs.YtnfejdfjlnpldaaGreatDoor
open Go.RowKit
theorem all_take_succ {fs:List Fd} {k:Nat} (h:k < fs.length) (h1:∀ f ∈ fs.take k,f.ok=true) (h2:(fs[k]).ok=true):∀ f ∈ fs.take (k + 1),f.ok=true:=fun f hf=>by
 rw [List.take_succ_eq_append_getElem h] at hf
 rcases List.mem_append.1 hf with q | q
 · exact h1 f q
 · simp at q
   rw [q];exact h2
theorem Fd.err_two (f:Fd):(f.ok=true∧f.err=0)∨(f.ok=false∧f.err=8):=by
 unfold Fd.err
 cases f.ok <;> simp
theorem rowV_bad {fs:List Fd} (h:rowE fs ≠ 0):rowV fs=[]:=if_neg h
theorem rowV_ok {fs:List Fd} (h:rowE fs=0):rowV fs=rowB fs:=if_pos h
theorem rowB_take_succ {fs:List Fd} {k:Nat} (h:k < fs.length):rowB (fs.take (k + 1))=rowB (fs.take k) ++ (fs[k]).bs:=by
 rw [List.take_succ_eq_append_getElem h,rowB_snoc]
theorem lenFld (f:Fd):(Tryz.prog.info? 88).map (·.size)=some f.v.length:=by rw [sizeFld,f.v_len]
theorem oneFld (f:Fd):f.v.toArray.all (·.oneCell')=true:=all_oneCell_toArray (LF.one f)
theorem ret_i {a b:Int} (h:a=b):Ending.returned (.int .i64 a)=.returned (.int .i64 b):=by rw [h]
theorem pair_i {a b c d:Int} (h1:a=c) (h2:b=d):Ending.returned (.tuple #[.int .i64 a,.int .i64 b])=.returned (.tuple #[.int .i64 c,.int .i64 d]):=by rw [h1,h2]
set_option maxRecDepth 100000 in
set_option maxHeartbeats 1600000 in
theorem size_is {v:Value} {fs:List Fd} (w:World) (h1:IsR LF w v fs):Calls Tryz.prog 78 #[v] w fun e w'=>e=.returned (.tuple #[.int .i64 ((rowV fs).length:Nat),.int .i64 (rowE fs)])∧Below w.heap.size w w':=by
 obtain ⟨a0,c0,rfl,hr⟩:=id h1
 have i1:=hr.room
 have i2:=hr.most
 clear hr
 by_cases hl:40 < fs.length
 · have e1:=rowE_many hl
   have e2:=rowV_bad (fs:=fs) (by rw [e1];decide)
   have d1:decide ((40:Int) < (fs.length:Int))=true:=decide_eq_true (by omega)
   rw [e1,e2]
   clear e1 e2 hl h1
   go_enter Tryz.func78,Tryz.ntmps78
   go_wp2_with fail
   go_returns
   exact ⟨rfl,Below.refl _ _⟩
 · have d1:decide ((40:Int) < (fs.length:Int))=false:=decide_eq_false (by omega)
   have HR:=Lib.hid h1
   clear h1
   go_enter Tryz.func78,Tryz.ntmps78
   go_wp2_with fail
   go_loopw [4,13] (fun s4 s13 wr=>∃ k m:Nat,s13=.int .i64 k∧s4=.int .i64 m∧k≤fs.length∧Hid (m=(rowB (fs.take k)).length)∧m≤1280∧Hid (∀ f ∈ fs.take k,f.ok=true)∧Below w.heap.size w wr) (fun _ s13 _=>fs.length - (intOf s13).toNat)
   case atStart=>exact ⟨0,0,rfl,rfl,by omega,Lib.hid rfl,by omega,Lib.hid (fun f hf=>by simp at hf),Below.refl _ _⟩
   case round =>
     obtain ⟨k,m,rfl,rfl,hk,HM,hm,HE,hB⟩:=hrel
     have hs:=hB.size
     by_cases hlt:k < fs.length
     case neg =>
       have hkk:fs.take k=fs:=List.take_of_length_le (by omega)
       have e1:rowE fs=0:=rowE_ok (by omega) (by have:=HE.out;rwa [hkk] at this)
       have e2:=rowV_ok e1
       have e3:(rowV fs).length=m:=by rw [e2,HM.out,hkk]
       have HX:=Lib.hid (And.intro e1 e3)
       clear e1 e2 e3 hkk
       go_wp2_with fail
       go_returns
       exact ⟨pair_i (by rw [HX.out.2]) HX.out.1.symm,hB⟩
     case pos =>
       obtain ⟨b,off,rfl,hR⟩:=HR.out.get 34 rfl (List.getElem?_eq_getElem hlt)
       have hR1:=range_below hR hB
       obtain ⟨f,hf⟩:∃ f,fs[k]=f:=⟨_,rfl⟩
       rw [hf] at hR1
       have hS:=lenFld f
       have h1:=oneFld f
       have hz:Fd.zero.v.length=f.v.length:=by rw [f.v_len,Fd.v_len]
       have C:=check_is f
       have W:=wd_is f.k
       have hwl:=wid_le f.k
       have HM2:Hid (m + wid f.k=(rowB (fs.take (k + 1))).length):=Lib.hid (by rw [rowB_take_succ hlt,hf,List.length_append,← HM.out,f.bs_len])
       have hm2:m + wid f.k≤1280:=by
         have h2:=rowB_le (fs.take (k + 1))
         rw [← HM2.out,List.length_take] at h2
         omega
       obtain ⟨n,hn⟩:∃ n,wid f.k=n:=⟨_,rfl⟩
       rw [hn] at W HM2 hm2
       clear hR hwl hn
       obtain ⟨V,hV⟩:∃ V,f.v=V:=⟨_,rfl⟩
       have v0:V[0]? = some (.int .u8 f.k):=by rw [← hV];rfl
       rw [hV] at hS h1 C hz
       rw [show LF.f f=V from hV] at hR1
       clear hV
       obtain ⟨r,hr⟩:∃ r,f.err=r:=⟨_,rfl⟩
       rw [hr] at C
       rcases Fd.err_two f with ⟨q1,q2⟩ | ⟨q1,q2⟩
       · have HE2:=Lib.hid (all_take_succ hlt HE.out (by rw [hf];exact q1))
         obtain rfl:r=0:=by rw [← hr,q2]
         clear q1 q2 hr hf
         go_upto_region 7 with (first | refine wpList_load_range rfl _ _ rfl hR1 rfl Tryz.underlying88 rfl hS ?_ | (refine wpList_store_box (cs:=V) rfl _ _ _ rfl (Box.newc (l:=Fd.zero.v) rfl rfl) rfl rfl hS hz h1 ?_;intro W1 hW1))
         have hB1:Below w.heap.size w W1:=hW1.below _ _ hs (by go_grown)
         have hbx:=hW1.box
         go_wp2_with (refine wpList_load_box rfl _ _ rfl hbx rfl Tryz.underlying88 rfl hS ?_)
         refine (C _).mono ?_
         rintro e w2 ⟨rfl,hb⟩
         have hB2:=below_thru hB1 hb
         have hbx2:=hbx.below hb
         have v1:=hbx2.c 0 _ v0
         go_wp2_with fail
         refine (W _).mono ?_
         rintro e w3 ⟨rfl,rfl⟩
         go_wp2_with fail
         go_roundw
         case rel=>exact ⟨k + 1,m + n,by go_num,by go_num,by omega,HM2,hm2,HE2,hB2⟩
         case measure=>simp [intOf];omega
       · have HX:=Lib.hid (rowE_bad (fs:=fs) (by omega) (List.getElem_mem hlt) (by rw [hf];exact q1))
         have HY:=Lib.hid (rowV_bad (fs:=fs) (by rw [HX.out];decide))
         obtain rfl:r=8:=by rw [← hr,q2]
         clear q1 q2 hr hf
         go_upto_region 7 with (first | refine wpList_load_range rfl _ _ rfl hR1 rfl Tryz.underlying88 rfl hS ?_ | (refine wpList_store_box (cs:=V) rfl _ _ _ rfl (Box.newc (l:=Fd.zero.v) rfl rfl) rfl rfl hS hz h1 ?_;intro W1 hW1))
         have hB1:Below w.heap.size w W1:=hW1.below _ _ hs (by go_grown)
         have hbx:=hW1.box
         go_wp2_with (refine wpList_load_box rfl _ _ rfl hbx rfl Tryz.underlying88 rfl hS ?_)
         refine (C _).mono ?_
         rintro e w2 ⟨rfl,hb⟩
         have hB2:=below_thru hB1 hb
         go_wp2_with fail
         go_returns
         exact ⟨pair_i (by rw [HY.out];rfl) HX.out.symm,hB2⟩
set_option maxRecDepth 100000 in
set_option maxHeartbeats 1600000 in
theorem ckinds_is {v:Value} {ks:List Int} (w:World) (h1:IsL w .u8 v ks):Calls Tryz.prog 83 #[v] w fun e w'=>e=.returned (.int .i64 (kinE ks))∧Below w.heap.size w w':=by
 obtain ⟨a0,c0,rfl,hr,_⟩:=id h1
 have i1:=hr.room
 have i2:=hr.most
 clear hr
 by_cases hl:40 < ks.length
 · have e1:=kinE_many hl
   have d1:decide ((40:Int) < (ks.length:Int))=true:=decide_eq_true (by omega)
   rw [e1]
   clear e1 hl h1
   go_enter Tryz.func83,Tryz.ntmps83
   go_wp2_with fail
   go_returns
   exact ⟨rfl,Below.refl _ _⟩
 · have d1:decide ((40:Int) < (ks.length:Int))=false:=decide_eq_false (by omega)
   have HR:=Lib.hid h1
   clear h1
   go_enter Tryz.func83,Tryz.ntmps83
   go_wp2_with fail
   go_loopw [12] (fun s12 wr=>∃ k:Nat,s12=.int .i64 k∧k≤ks.length∧Hid (∀ x ∈ ks.take k,wid x ≠ 0)∧Below w.heap.size w wr) (fun s12 _=>ks.length - (intOf s12).toNat)
   case atStart=>exact ⟨0,rfl,by omega,Lib.hid (fun f hf=>by simp at hf),Below.refl _ _⟩
   case round =>
     obtain ⟨k,rfl,hk,HE,hB⟩:=hrel
     have hs:=hB.size
     by_cases hlt:k < ks.length
     case neg =>
       have hkk:ks.take k=ks:=List.take_of_length_le (by omega)
       have HX:=Lib.hid (show (0:Int)=kinE ks from (kinE_ok (by omega) (by have:=HE.out;rwa [hkk] at this)).symm)
       clear hkk
       go_wp2_with fail
       go_returns
       exact ⟨ret_i HX.out,hB⟩
     case pos =>
       obtain ⟨b,off,rfl,hc⟩:=HR.out.get k hlt
       have c0:=cell_below hB hc
       obtain ⟨x,hx⟩:∃ x,nth ks k=x:=⟨_,rfl⟩
       have hxm:x ∈ ks:=by
         rw [← hx];unfold nth
         rw [List.getD_eq_getElem?_getD,List.getElem?_eq_getElem hlt,Option.getD_some]
         exact List.getElem_mem hlt
       rw [hx] at c0
       have W:=width_is x
       by_cases h0:wid x=0
       · have HX:=Lib.hid (show (2:Int)=kinE ks from (kinE_bad (by omega) hxm h0).symm)
         have hc:widE x=2:=if_pos h0
         rw [hc,h0] at W
         clear hc h0 hxm hx
         go_wp2_with fail
         refine (W _).mono ?_
         rintro e w3 ⟨rfl,rfl⟩
         go_wp2_with fail
         go_returns
         exact ⟨ret_i HX.out,hB⟩
       · have HE2:=Lib.hid (show ∀ y ∈ ks.take (k + 1),wid y ≠ 0 from fun y hy=>by
           rw [take_succ_nth hlt,hx] at hy
           rcases List.mem_append.1 hy with q | q
           · exact HE.out y q
           · simp at q
             rw [q];exact h0)
         have hc:widE x=0:=if_neg h0
         rw [hc] at W
         obtain ⟨n,hn⟩:∃ n,wid x=n:=⟨_,rfl⟩
         rw [hn] at W
         clear hc h0 hxm hx hn
         go_wp2_with fail
         refine (W _).mono ?_
         rintro e w3 ⟨rfl,rfl⟩
         go_wp2_with fail
         go_roundw
         case rel=>exact ⟨k + 1,by go_num,by omega,HE2,hB⟩
         case measure=>simp [intOf];omega
end Go.Proofs.YtnfejdfjlnpldaaGreatDoor
namespace Go.Proofs.YtnfejdfjlnpldaaGreatDoor
open Go.RowKit
def beS (w:Nat) (n:Int) (k:Nat):List Int:=List.replicate (w - k) 0 ++ (be w n).drop (w - k)
theorem beS_len (w:Nat) (n:Int) (k:Nat) (h:k≤w):(beS w n k).length=w:=by unfold beS;rw [List.length_append,List.length_replicate,List.length_drop,be_len];omega
theorem beS_zero (w:Nat) (n:Int):beS w n 0=List.replicate w 0:=by unfold beS;rw [Nat.sub_zero,List.drop_eq_nil_of_le (by rw [be_len];omega),List.append_nil]
theorem beS_all (w:Nat) (n:Int):beS w n w=be w n:=by unfold beS;rw [Nat.sub_self];simp
theorem beS_succ (w:Nat) (n:Int) (k:Nat) (h:k < w) (h0:0≤n):(beS w n k).set (w - 1 - k) (n / 256 ^ k % 256)=beS w n (k + 1):=by
 refine ext_nth (by rw [List.length_set,beS_len _ _ _ (by omega),beS_len _ _ _ (by omega)]) fun i hi=>?_
 rw [List.length_set,beS_len _ _ _ (by omega)] at hi
 have hd:∀ (k:Nat),k≤w→nth (beS w n k) i=if i < w - k then 0 else nth (be w n) i:=fun k hk=>by
   unfold beS
   split
   · rename_i h1
     rw [nth_append_left (by rw [List.length_replicate];exact h1)]
     unfold nth
     rw [List.getD_eq_getElem?_getD,List.getElem?_replicate,if_pos h1];rfl
   · rename_i h1
     rw [nth_append_right (by rw [List.length_replicate];omega),List.length_replicate,nth_drop]
     congr 1;omega
 rw [hd (k + 1) (by omega)]
 by_cases q:i=w - 1 - k
 · subst q
   rw [if_neg (by omega),be_nth w n k h0 h]
   unfold nth
   rw [List.getD_eq_getElem?_getD,List.getElem?_set,if_pos rfl,if_pos (by rw [beS_len _ _ _ (by omega)];omega)]
   rfl
 · have e:nth ((beS w n k).set (w - 1 - k) (n / 256 ^ k % 256)) i=nth (beS w n k) i:=by
     unfold nth
     rw [List.getD_eq_getElem?_getD,List.getElem?_set,if_neg (by omega),← List.getD_eq_getElem?_getD]
   rw [e,hd k (by omega)]
   by_cases h1:i < w - k
   · rw [if_pos h1,if_pos (by omega)]
   · rw [if_neg h1,if_neg (by omega)]
theorem nth_at' {xs:List Int} {k:IntKind} (i:Nat) (h:i < xs.length):(xs.map (Value.int k))[i]? = some (.int k (nth xs i)):=by
 unfold nth
 rw [List.getElem?_map,List.getElem?_eq_getElem h,List.getD_eq_getElem?_getD,List.getElem?_eq_getElem h]
 rfl
theorem IsL.boxed {w:World} {b:Nat} {k:IntKind} {xs:List Int} (n:Nat) (hn:xs.length=n) (h:Box w b (xs.map (Value.int k))) (hl:n≤1000000):IsL w k (.slice (some ⟨b,0,Option.none⟩) n n) xs:=by
 subst hn
 refine ⟨some ⟨b,0,Option.none⟩,xs.length,rfl,⟨Nat.le_refl _,by omega,fun _=>⟨b,0,rfl,fun i hi=>?_⟩⟩,fun h=>by cases h⟩
 rw [Nat.zero_add]
 exact h.c i _ (nth_at' i hi)
theorem IsL.range {w:World} {b off:Nat} {k:IntKind} {xs:List Int} (n m:Nat) (hn:xs.length=n) (h:w.rangeAt b off (xs.map (Value.int k))) (hm:n≤m) (hl:m≤9223372036854775807):IsL w k (.slice (some ⟨b,off,Option.none⟩) n m) xs:=by
 subst hn
 exact ⟨some ⟨b,off,Option.none⟩,m,rfl,⟨hm,hl,fun _=>⟨b,off,rfl,fun i hi=>h i _ (nth_at' i hi)⟩⟩,fun h=>by cases h⟩
theorem pow_byte (N:Int) (k:Nat):N / 2 ^ (8 * k) % 256=N / 256 ^ k % 256:=by
 rw [Int.pow_mul]
 rfl
def GivesL (xs:List Int) (w:World) (e:Ending) (w':World):Prop:=∃ v,e=.returned v∧IsL w' .u8 v xs∧Below w.heap.size w w'
set_option maxRecDepth 100000 in
set_option maxHeartbeats 1600000 in
theorem bytesOf_dig (f:Fd) (w:World) (h6:f.k=6):Calls Tryz.prog 79 #[.agg f.v.toArray] w (GivesL f.bs w):=by
 have hX:Box (w.alloc (.cells f.v.toArray 88)) w.heap.size f.v:=Box.newc rfl rfl
 have hB:Below w.heap.size w (w.alloc (.cells f.v.toArray 88)):=by go_grown
 have hbs:f.bs=f.d:=if_pos h6
 obtain ⟨V,hV⟩:∃ V,f.v=V:=⟨_,rfl⟩
 rw [hV] at hX hB ⊢
 obtain ⟨w1,hw1⟩:∃ w1,w.alloc (.cells V.toArray 88)=w1:=⟨_,rfl⟩
 have c0:=hX.c 0 (.int .u8 f.k) (by rw [← hV];rfl)
 have hD:=Lib.hid (hX.rangeFrom 2 (f.d.map (Value.int .u8)) (by rw [← hV];rfl))
 have hz:=hX.lt
 have hlen:=Lib.hid f.hl
 rw [hw1] at c0 hD hB hz
 rw [h6] at c0
 rw [hbs]
 clear hX hV hbs h6
 go_enter Tryz.func79,Tryz.ntmps79
 go_wp2_with fail
 go_returns
 exact ⟨_,rfl,IsL.range 32 32 hlen.out hD.out (by omega) (by omega),hB⟩
set_option maxRecDepth 100000 in
set_option maxHeartbeats 1600000 in
theorem bytesOf_num (f:Fd) (w:World) (h6:f.k ≠ 6):Calls Tryz.prog 79 #[.agg f.v.toArray] w (GivesL f.bs w):=by
 have hX:Box (w.alloc (.cells f.v.toArray 88)) w.heap.size f.v:=Box.newc rfl rfl
 have hB:Below w.heap.size w (w.alloc (.cells f.v.toArray 88)):=by go_grown
 have hbs:f.bs=be (wid f.k) f.n:=if_neg h6
 have hk6:(f.k == 6)=false:=by simpa using h6
 have hn0:=f.hn.1
 have hn1:=f.hn.2
 obtain ⟨V,hV⟩:∃ V,f.v=V:=⟨_,rfl⟩
 rw [hV] at hX hB ⊢
 obtain ⟨w1,hw1⟩:∃ w1,w.alloc (.cells V.toArray 88)=w1:=⟨_,rfl⟩
 have v0:V[0]? = some (.int .u8 f.k):=by rw [← hV];rfl
 have v1:V[1]? = some (.int .u64 f.n):=by rw [← hV];rfl
 have c0:=hX.c 0 _ v0
 have hz:=hX.lt
 have W:=wd_is f.k
 obtain ⟨m,hm⟩:∃ m,wid f.k=m:=⟨_,rfl⟩
 have hm8:m≤8:=by
   rw [← hm]
   have:f.k=6∨wid f.k≤8:=by unfold wid;(repeat' split) <;> simp_all
   omega
 rw [hw1] at c0 hB hz hX
 rw [hbs]
 rw [hm] at W ⊢
 obtain ⟨N,hN⟩:∃ N,f.n=N:=⟨_,rfl⟩
 rw [hN] at hn0 hn1 v1 ⊢
 have hmk:=make_bytes m (by omega)
 clear hV hbs h6 hN hm
 go_enter Tryz.func79,Tryz.ntmps79
 go_wp2_with fail
 refine (W _).mono ?_
 rintro e w2 ⟨rfl,rfl⟩
 have hX2:=hX.alloc (.cells (zb m) 5)
 have hY2:Box (w2.alloc (.cells (zb m) 5)) w2.heap.size ((List.replicate m (0:Int)).map (Value.int .u8)):=Box.newc rfl rfl
 rw [← beS_zero m N] at hY2
 have hB2:Below w.heap.size w (w2.alloc (.cells (zb m) 5)):=hB.alloc (by omega) _
 have hs:w.heap.size < w2.heap.size:=hz
 obtain ⟨w3,hw3⟩:∃ w3,w2.alloc (.cells (zb m) 5)=w3:=⟨_,rfl⟩
 obtain ⟨b3,hb3⟩:∃ b3,w2.heap.size=b3:=⟨_,rfl⟩
 rw [hw3] at hX2 hY2 hB2
 rw [hb3] at hY2 hs
 clear hX hB hz c0
 go_wp2_with fail
 clear hw3 hmk W
 go_loopw [16] (fun i wr=>∃ k:Nat,k≤m∧i=.int .i64 k∧Box wr w.heap.size V∧Box wr b3 ((beS m N k).map (Value.int .u8))∧Below w.heap.size w wr) (fun i _=>m - (intOf i).toNat)
 case atStart=>exact ⟨0,by omega,rfl,hX2,hY2,hB2⟩
 case round =>
   clear hX2 hY2 hB2
   obtain ⟨k,hk,rfl,hX,hY,hB⟩:=hrel
   have z1:=hX.lt
   have z2:=hY.lt
   by_cases hlt:k < m
   · have c0:=hX.c 0 _ v0
     have c1:=hX.c 1 _ v1
     have d0:=hY.c (m - 1 - k) _ (nth_at' (m - 1 - k) (by rw [beS_len _ _ _ (by omega)];omega))
     have d1:=hY.f (m - 1 - k) _ (nth_at' (m - 1 - k) (by rw [beS_len _ _ _ (by omega)];omega))
     have E:=pow_byte N k
     have hne:b3 ≠ w.heap.size:=by omega
     go_wp2_with fail
     go_roundw
     case rel =>
       refine ⟨k + 1,by omega,by go_num,hX.other hne _,?_,hB.setCell (by show w.heap.size≤b3;omega) _⟩
       rw [← beS_succ _ _ _ hlt hn0,List.map_set]
       exact hY.set (m - 1 - k) _
     case measure=>simp [intOf];omega
   · obtain rfl:k=m:=by omega
     go_wp2_with fail
     go_returns
     rw [beS_all] at hY
     exact ⟨_,rfl,IsL.boxed _ (be_len _ _) hY (by omega),hB⟩
theorem bytesOf_is (f:Fd) (w:World):Calls Tryz.prog 79 #[.agg f.v.toArray] w (GivesL f.bs w):=by
 by_cases h:f.k=6
 · exact bytesOf_dig f w h
 · exact bytesOf_num f w h
end Go.Proofs.YtnfejdfjlnpldaaGreatDoor
