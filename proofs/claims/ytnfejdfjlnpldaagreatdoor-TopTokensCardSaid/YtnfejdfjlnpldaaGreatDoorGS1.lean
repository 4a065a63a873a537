import Derived.Test.YtnfejdfjlnpldaaGreatDoorGB1
import Derived.Laws.BitsAllLaws
import Derived.Laws.MakeOwn
import Derived.Lib.AppendZerosOnto
import Derived.Lib.SliceRun
import Derived.Lib.Walk
import Derived.Deep.RegionHeld
set_option maxHeartbeats 1600000
set_option maxRecDepth 100000
namespace Go.Proofs.YtnfejdfjlnpldaaGreatDoor
def un (x:UInt32):Int:=(x.toNat:Int)
theorem un_xor (a b:UInt32):bits .xor .u32 (un a) (un b)=un (a ^^^ b):=by
 unfold un
 rw [u32_xor_nat _ _ a.toNat_lt b.toNat_lt,UInt32.toNat_xor]
theorem un_and (a b:UInt32):bits .and .u32 (un a) (un b)=un (a &&& b):=by
 unfold un
 rw [u32_and_nat _ _ a.toNat_lt b.toNat_lt,UInt32.toNat_and]
theorem un_or (a b:UInt32):bits .or .u32 (un a) (un b)=un (a ||| b):=by
 unfold un
 rw [u32_or_nat _ _ a.toNat_lt b.toNat_lt,UInt32.toNat_or]
theorem un_not (b:UInt32):bits .xor .u32 4294967295 (un b)=un (~~~ b):=by
 have h:(4294967295:Int)=un 4294967295:=rfl
 rw [h,un_xor]
 refine congrArg un (UInt32.toBitVec_inj.1 ?_)
 rw [UInt32.toBitVec_xor,UInt32.toBitVec_not]
 exact BitVec.allOnes_xor
theorem un_add (a b:UInt32):IntKind.u32.wrap (un a + un b)=un (a + b):=by
 unfold un
 rw [IntKind.wrap_u32',UInt32.toNat_add]
 omega
theorem un_shl (a:UInt32) (n:Nat) (h:n < 32):IntKind.u32.wrap (un a * 2 ^ n)=un (a <<< UInt32.ofNat n):=by
 unfold un
 rw [IntKind.wrap_u32',UInt32.toNat_shiftLeft,Nat.shiftLeft_eq]
 have e:(UInt32.ofNat n).toNat % 32=n:=by simp;omega
 rw [e]
 simp
theorem un_shr (a:UInt32) (n:Nat) (h:n < 32):un a / 2 ^ n=un (a >>> UInt32.ofNat n):=by
 unfold un
 rw [UInt32.toNat_shiftRight,Nat.shiftRight_eq_div_pow]
 have e:(UInt32.ofNat n).toNat % 32=n:=by simp;omega
 rw [e]
 simp
def rotr (x:UInt32) (n:Nat):UInt32:=(x <<< UInt32.ofNat (32 - n)) ||| (x >>> UInt32.ofNat n)
theorem un_addm (a b:UInt32):(un a + un b) % 4294967296=un (a + b):=by rw [← un_add,IntKind.wrap_u32']
theorem un_shlm (a:UInt32) (n:Nat) (h:n < 32):un a * 2 ^ n % 4294967296=un (a <<< UInt32.ofNat n):=by rw [← un_shl _ _ h,IntKind.wrap_u32']
theorem un_rotm (x:UInt32) (n:Nat) (h0:0 < n) (h:n < 32):bits .or .u32 (un x * 2 ^ (32 - n) % 4294967296) (un x / 2 ^ n)=un (rotr x n):=by
 rw [un_shlm _ _ (by omega),un_shr _ _ h,un_or]
 rfl
def tri (x:UInt32) (i j k:Nat):UInt32:=rotr x i ^^^ rotr x j ^^^ rotr x k
def sg0 (x:UInt32):UInt32:=rotr x 7 ^^^ rotr x 18 ^^^ (x >>> 3)
def sg1 (x:UInt32):UInt32:=rotr x 17 ^^^ rotr x 19 ^^^ (x >>> 10)
structure W8 where
 (a b c d e f g z:UInt32)
def W8.l (h:W8):List UInt32:=[h.a,h.b,h.c,h.d,h.e,h.f,h.g,h.z]
def shaK:List UInt32:=[1116352408,1899447441,3049323471,3921009573,961987163,1508970993,2453635748,2870763221,3624381080,310598401,607225278,1426881987,1925078388,2162078206,2614888103,3248222580,3835390401,4022224774,264347078,604807628,770255983,1249150122,1555081692,1996064986,2554220882,2821834349,2952996808,3210313671,3336571891,3584528711,113926993,338241895,666307205,773529912,1294757372,1396182291,1695183700,1986661051,2177026350,2456956037,2730485921,2820302411,3259730800,3345764771,3516065817,3600352804,4094571909,275423344,430227734,506948616,659060556,883997877,958139571,1322822218,1537002063,1747873779,1955562222,2024104815,2227730452,2361852424,2428436474,2756734187,3204031479,3329325298]
def first:W8:=⟨1779033703,3144134277,1013904242,2773480762,1359893119,2600822924,528734635,1541459225⟩
def rnd (s:W8) (k w:UInt32):W8 :=
 ⟨(s.z + tri s.e 6 11 25 + ((s.e &&& s.f) ^^^ (~~~ s.e &&& s.g)) + k + w) + (tri s.a 2 13 22 + ((s.a &&& s.b) ^^^ (s.a &&& s.c) ^^^ (s.b &&& s.c))),s.a,s.b,s.c,
   s.d + (s.z + tri s.e 6 11 25 + ((s.e &&& s.f) ^^^ (~~~ s.e &&& s.g)) + k + w),s.e,s.f,s.g⟩
def rounds (w:List UInt32) (s:W8):Nat→W8
 | 0=>s
 | t + 1=>rnd (rounds w s t) (shaK.getD t 0) (w.getD t 0)
def byteW (x:Int):UInt32:=UInt32.ofNat x.toNat
theorem byteW_un (x:Int) (h0:0≤x) (h:x < 256):un (byteW x)=x:=by
 unfold un byteW
 rw [UInt32.toNat_ofNat']
 omega
def part (b:List Int) (j:Nat):Nat→UInt32
 | 0=>0
 | m + 1=>(part b j m <<< 8) ||| byteW (nth b (4 * j + m))
def wordAt (b:List Int) (j:Nat):UInt32:=part b j 4
def fill (b:List Int) (k:Nat):List UInt32:=(List.range 64).map fun j=>part b j (min 4 (k - 4 * j))
theorem fill_len (b:List Int) (k:Nat):(fill b k).length=64:=by simp [fill]
theorem fill_zero (b:List Int):fill b 0=List.replicate 64 0:=by
 unfold fill
 rw [List.eq_replicate_iff]
 refine ⟨by simp,fun x hx=>?_⟩
 obtain ⟨j,_,rfl⟩:=List.mem_map.1 hx
 simp [part]
theorem fill_get (b:List Int) (k j:Nat) (h:j < 64):(fill b k).getD j 0=part b j (min 4 (k - 4 * j)):=by
 simp [fill,List.getD,h]
theorem fill_succ (b:List Int) (k:Nat) (h:k < 64):(fill b k).set (k / 4) (((fill b k).getD (k / 4) 0 <<< 8) ||| byteW (nth b k))=fill b (k + 1):=by
 have _:=h
 apply List.ext_getElem
 · simp [fill]
 · intro j h1 h2
   have hj:j < 64:=by simpa [fill] using h2
   rw [List.getElem_set]
   split
   · rename_i e
     subst e
     rw [fill_get _ _ _ (by omega)]
     simp only [fill,List.getElem_map,List.getElem_range]
     rw [show min 4 (k - 4 * (k / 4))=k % 4 by omega,show min 4 (k + 1 - 4 * (k / 4))=k % 4 + 1 by omega]
     show _=(part b (k / 4) (k % 4) <<< 8) ||| byteW (nth b (4 * (k / 4) + k % 4))
     rw [show 4 * (k / 4) + k % 4=k by omega]
   · rename_i e
     simp only [fill,List.getElem_map,List.getElem_range]
     congr 1
     omega
def next (l:List UInt32):UInt32:=l.getD (l.length - 16) 0 + l.getD (l.length - 7) 0 + sg0 (l.getD (l.length - 15) 0) + sg1 (l.getD (l.length - 2) 0)
def sched (b:List Int):Nat→List UInt32
 | 0=>(List.range 16).map (wordAt b)
 | n + 1=>sched b n ++ [next (sched b n)]
theorem sched_len (b:List Int) (n:Nat):(sched b n).length=n + 16:=by
 induction n with
 | zero=>simp [sched]
 | succ n ih=>simp [sched,ih]
def grown (b:List Int) (n:Nat):List UInt32:=sched b n ++ List.replicate (48 - n) 0
theorem grown_len (b:List Int) (n:Nat) (h:n≤48):(grown b n).length=64:=by simp [grown,sched_len];omega
theorem fill_all (b:List Int):fill b 64=grown b 0:=by
 apply List.ext_getElem
 · simp [fill,grown,sched]
 · intro j h1 h2
   have hj:j < 64:=by simpa [fill] using h1
   simp only [fill,List.getElem_map,List.getElem_range,grown,sched,List.getElem_append,List.length_map,List.length_range,List.getElem_replicate]
   split
   · rw [show min 4 (64 - 4 * j)=4 by omega];rfl
   · rw [show min 4 (64 - 4 * j)=0 by omega]
     simp [part]
theorem grown_get (b:List Int) (n j:Nat) (h:j < n + 16):(grown b n).getD j 0=(sched b n).getD j 0:=by
 have:=sched_len b n
 unfold grown
 rw [List.getD_eq_getElem?_getD,List.getD_eq_getElem?_getD,List.getElem?_append_left (by omega)]
theorem grown_succ (b:List Int) (n:Nat) (h:n < 48):(grown b n).set (n + 16) (next (sched b n))=grown b (n + 1):=by
 have hl:=sched_len b n
 unfold grown
 rw [List.set_append_right _ _ (by omega),hl,Nat.sub_self,show 48 - n=(48 - (n + 1)) + 1 by omega,List.replicate_succ,List.set_cons_zero]
 show _=sched b n ++ [next (sched b n)] ++ _
 simp
theorem grown_all (b:List Int):grown b 48=sched b 48:=by simp [grown]
def plus (h s:W8):W8:=⟨h.a + s.a,h.b + s.b,h.c + s.c,h.d + s.d,h.e + s.e,h.f + s.f,h.g + s.g,h.z + s.z⟩
def taken (h:W8) (b:List Int):W8:=plus h (rounds (sched b 48) h 64)
def aft:Nat→W8→List Int→W8
 | 0,h,_=>h
 | n + 1,h,b=>aft n (taken h (b.take 64)) (b.drop 64)
def after (h:W8) (b:List Int):W8:=aft (b.length / 64) h b
def restOf (b:List Int):List Int:=b.drop (b.length / 64 * 64)
def padB (n:Nat) (i:Nat):Int:=((8 * n / 2 ^ (8 * (7 - i)) % 256:Nat):Int)
def padL (n:Nat):List Int:=128 :: (List.replicate (63 - (n + 8) % 64) 0 ++ (List.range 8).map (padB n))
def digB (h:W8) (i:Nat):Int:=un (h.l.getD (i / 4) 0) / 2 ^ (24 - i % 4 * 8) % 256
def dig (h:W8):List Int:=(List.range 32).map (digB h)
def shaOf (b:List Int):List Int:=dig (after first (b ++ padL b.length))
theorem shaK_len:shaK.length=64:=by decide +kernel
theorem W8.len (h:W8):h.l.length=8:=rfl
theorem dig_len (h:W8):(dig h).length=32:=by simp [dig]
theorem shl8 (v:UInt32) (x:Int) (h0:0≤x) (h:x < 256):bits .or .u32 (un v * 256 % 4294967296) x=un ((v <<< 8) ||| byteW x):=by
 have e:un v * (256:Int) % (4294967296:Int)=un (v <<< 8):=un_shlm v 8 (by decide)
 rw [e]
 exact (congrArg (bits .or .u32 _) (byteW_un x h0 h).symm).trans (un_or _ _)
theorem getD_map_wv {α:Type} (f:UInt32→α) (l:List UInt32) (i:Nat) (h:i < l.length):(l.map f)[i]? = some (f (l.getD i 0)):=by
 rw [List.getElem?_map,List.getElem?_eq_getElem h,List.getD_eq_getElem?_getD,List.getElem?_eq_getElem h]
 rfl
theorem padL_len (n:Nat):(padL n).length=72 - (n + 8) % 64:=by
 have:(n + 8) % 64 < 64:=Nat.mod_lt _ (by decide)
 simp [padL];omega
def byteOf (n i:Nat):Int:=((8 * n / 2 ^ (8 * i) % 256:Nat):Int)
def padS (z n k:Nat):List Int:=(List.range (1 + z + 8)).map fun j=>if j=0 then 128 else if 1 + z + 8≤j + k then byteOf n (z + 8 - j) else 0
theorem byteOf_is (n k:Nat):(n:Int) * 8 / 2 ^ (8 * k) % 256=byteOf n k:=by
 unfold byteOf
 rw [Nat.mul_comm 8 n]
 simp
theorem padS_len (z n k:Nat):(padS z n k).length=1 + z + 8:=by simp [padS]
theorem padS_zero (z n:Nat):(List.replicate (1 + z + 8) (0:Int)).set 0 128=padS z n 0:=by
 apply List.ext_getElem
 · simp [padS]
 · intro j h1 h2
   have hj:j < 1 + z + 8:=by simpa [padS] using h2
   rw [List.getElem_set]
   simp only [padS,List.getElem_map,List.getElem_range,List.getElem_replicate]
   by_cases h:j=0
   · rw [if_pos h.symm,if_pos h]
   · rw [if_neg (fun e=>h e.symm),if_neg h,if_neg (by omega)]
theorem padS_succ (z n k:Nat) (hk:k < 8):(padS z n k).set (1 + z + 7 - k) (byteOf n k)=padS z n (k + 1):=by
 apply List.ext_getElem
 · simp [padS]
 · intro j h1 h2
   have hj:j < 1 + z + 8:=by simpa [padS] using h2
   rw [List.getElem_set]
   simp only [padS,List.getElem_map,List.getElem_range]
   by_cases h:1 + z + 7 - k=j
   · rw [if_pos h,if_neg (by omega),if_pos (by omega),show z + 8 - j=k by omega]
   · rw [if_neg h]
     by_cases h0:j=0
     · rw [if_pos h0,if_pos h0]
     · rw [if_neg h0,if_neg h0]
       by_cases h3:1 + z + 8≤j + k
       · rw [if_pos h3,if_pos (by omega)]
       · rw [if_neg h3,if_neg (by omega)]
theorem padS_all (z n:Nat) (hz:z=63 - (n + 8) % 64):padS z n 8=padL n:=by
 have hm:(n + 8) % 64 < 64:=Nat.mod_lt _ (by decide)
 unfold padL
 rw [← hz]
 apply List.ext_getElem
 · simp [padS];omega
 · intro j h1 h2
   have hj:j < 1 + z + 8:=by simpa [padS] using h1
   simp only [padS,List.getElem_map,List.getElem_range]
   by_cases h0:j=0
   · subst h0
     rfl
   · obtain ⟨i,rfl⟩:∃ i,j=i + 1:=⟨j - 1,by omega⟩
     rw [if_neg h0,List.getElem_cons_succ,List.getElem_append]
     by_cases h3:i < z
     · rw [dif_pos (by simpa using h3),if_neg (by omega),List.getElem_replicate]
     · rw [dif_neg (by simpa using h3),if_pos (by omega),List.getElem_map,List.getElem_range]
       unfold padB byteOf
       rw [List.length_replicate,show z + 8 - (i + 1)=7 - (i - z) by omega]
def digS (h:W8) (k:Nat):List Int:=(List.range 32).map fun j=>if j < k then digB h j else 0
theorem digS_len (h:W8) (k:Nat):(digS h k).length=32:=by simp [digS]
theorem digS_zero (h:W8):digS h 0=List.replicate 32 0:=by
 rw [List.eq_replicate_iff]
 refine ⟨by simp [digS],fun x hx=>?_⟩
 obtain ⟨j,_,rfl⟩:=List.mem_map.1 hx
 rfl
theorem digS_succ (h:W8) (k:Nat) (hk:k < 32):(digS h k).set k (digB h k)=digS h (k + 1):=by
 apply List.ext_getElem
 · simp [digS]
 · intro j h1 h2
   rw [List.getElem_set]
   simp only [digS,List.getElem_map,List.getElem_range]
   have _:=hk
   by_cases e:k=j
   · subst e
     rw [if_pos rfl,if_pos (by omega)]
   · rw [if_neg e]
     by_cases q:j < k
     · rw [if_pos q,if_pos (by omega)]
     · rw [if_neg q,if_neg (by omega)]
theorem digS_all (h:W8):digS h 32=dig h:=by
 unfold digS dig
 apply List.map_congr_left
 intro j hj
 rw [if_pos (List.mem_range.1 hj)]
theorem nth_get {xs:List Int} {k:IntKind} (i:Nat) (h:i < xs.length):(xs.map (Value.int k))[i]? = some (.int k (nth xs i)):=by
 rw [List.getElem?_map,List.getElem?_eq_getElem h]
 unfold nth
 rw [List.getD_eq_getElem?_getD,List.getElem?_eq_getElem h]
 rfl
theorem restOf_len (b:List Int):(restOf b).length=b.length % 64:=by
 simp [restOf];omega
theorem aft_append (m n:Nat):∀ (h:W8) (x y:List Int),x.length=64 * m→aft (m + n) h (x ++ y)=aft n (aft m h x) y:=by
 induction m with
 | zero=>intro h x y hx;obtain rfl:x=[]:=List.eq_nil_of_length_eq_zero (by omega);simp [aft]
 | succ m ih =>
   intro h x y hx
   rw [show m + 1 + n=(m + n) + 1 by omega]
   show aft (m + n) (taken h ((x ++ y).take 64)) ((x ++ y).drop 64)=_
   rw [List.take_append_of_le_length (by omega),List.drop_append_of_le_length (by omega),ih _ _ _ (by simp;omega)]
   rfl
theorem aft_take (n:Nat):∀ (h:W8) (b:List Int),aft n h b=aft n h (b.take (64 * n)):=by
 induction n with
 | zero=>intro h b;rfl
 | succ n ih =>
   intro h b
   show aft n (taken h (b.take 64)) (b.drop 64)=aft n (taken h ((b.take (64 * (n + 1))).take 64)) ((b.take (64 * (n + 1))).drop 64)
   rw [List.take_take,Nat.min_eq_left (by omega),ih,ih _ ((b.take (64 * (n + 1))).drop 64),List.drop_take]
   rw [show 64 * (n + 1) - 64=64 * n by omega,List.take_take,Nat.min_self]
theorem after_append (h:W8) (x y:List Int):after h (x ++ y)=after (after h x) (restOf x ++ y):=by
 have hx:x.take (x.length / 64 * 64) ++ restOf x=x:=List.take_append_drop _ _
 have h1:(x.take (x.length / 64 * 64)).length=64 * (x.length / 64):=by simp;omega
 have e0:x ++ y=x.take (x.length / 64 * 64) ++ (restOf x ++ y):=by rw [← List.append_assoc,hx]
 have e1:after h x=aft (x.length / 64) h (x.take (x.length / 64 * 64)):=by
   unfold after
   rw [aft_take,show 64 * (x.length / 64)=x.length / 64 * 64 by omega]
 have hr:=restOf_len x
 rw [e1]
 conv=>lhs;rw [e0]
 unfold after
 rw [show (x.take (x.length / 64 * 64) ++ (restOf x ++ y)).length / 64=x.length / 64 + (restOf x ++ y).length / 64 by simp only [List.length_append,h1];omega]
 exact aft_append _ _ _ _ _ h1
end Go.Proofs.YtnfejdfjlnpldaaGreatDoor
namespace Go.Proofs.YtnfejdfjlnpldaaGreatDoor
open Go.RowKit
theorem ret_num {k:IntKind} {a b:Int} (h:a=b):Ending.returned (.int k a)=.returned (.int k b):=by rw [h]
theorem mask31 (n:Nat) (h0:0 < n) (h:n < 32):bits .and .u64 (IntKind.u64.wrap (-(n:Int))) 31=((32 - n:Nat):Int):=by
 have e:IntKind.u64.wrap (-(n:Int))=((18446744073709551616 - n:Nat):Int):=by
   rw [IntKind.wrap_u64];omega
 rw [e,show (31:Int)=((31:Nat):Int) from rfl,u64_and_nat _ _ (by omega) (by omega),nat_mask5]
 omega
theorem rot_any (x:UInt32) (m:Int) (n:Nat) (hm:Hid (m = -(n:Int))) (h0:0 < n) (h:n < 32) (w:World) :
   Calls Tryz.prog 115 #[.int .u32 (un x),.int .i64 m] w fun e w'=>e=.returned (.int .u32 (un (rotr x n)))∧w=w':=by
 have k1:=mask31 n h0 h
 have k2:=hm.out
 subst k2
 clear hm
 go_enter Tryz.func115,Tryz.ntmps115
 go_wp2
 go_ret
 exact ⟨ret_num (by rw [show 32 - (32 - n)=n by omega];exact un_rotm x n h0 h),rfl⟩
theorem right_any (x:UInt32) (m:Int) (n:Nat) (hm:Hid (m=(n:Int))) (h0:0 < n) (h:n < 32) (w:World) :
   Calls Tryz.prog 114 #[.int .u32 (un x),.int .i64 m] w fun e w'=>e=.returned (.int .u32 (un (rotr x n)))∧w=w':=by
 have k2:=hm.out
 subst k2
 clear hm
 go_enter Tryz.func114,Tryz.ntmps114
 go_wp2_with (go_at_call 115;refine (rot_any x _ n (Lib.hid rfl) h0 h _).mono ?_;rintro e w' ⟨rfl,rfl⟩)
 go_ret
 exact ⟨rfl,rfl⟩
theorem turned_any (x:UInt32) (m1 m2 m3:Int) (i j k:Nat) (h1:Hid (m1=(i:Int))) (h2:Hid (m2=(j:Int))) (h3:Hid (m3=(k:Int))) (hi:0 < i) (hi':i < 32) (hj:0 < j) (hj':j < 32) (hk:0 < k) (hk':k < 32) (w:World) :
   Calls Tryz.prog 113 #[.int .u32 (un x),.int .i64 m1,.int .i64 m2,.int .i64 m3] w fun e w'=>e=.returned (.int .u32 (un (tri x i j k)))∧w=w':=by
 have X:=un_xor
 go_enter Tryz.func113,Tryz.ntmps113
 go_wp2_with fail
 refine (right_any x _ i h1 hi hi' _).mono ?_;rintro e w' ⟨rfl,rfl⟩
 go_wp2_with fail
 refine (right_any x _ j h2 hj hj' _).mono ?_;rintro e w' ⟨rfl,rfl⟩
 go_wp2_with fail
 refine (right_any x _ k h3 hk hk' _).mono ?_;rintro e w' ⟨rfl,rfl⟩
 go_wp2_with fail
 go_ret
 exact ⟨rfl,rfl⟩
def wv (x:UInt32):Value:=.int .u32 (un x)
theorem cell_below' {w w':World} {b o:Nat} {v:Value} (hb:Below w.heap.size w w') (h:w.cell? ⟨b,o,none⟩=some v):w'.cell? ⟨b,o,none⟩=some v:=cell_below hb h
theorem size64:(Tryz.prog.info? 190).map (·.size)=some 64:=by kernel_rfl
set_option maxRecDepth 100000 in
set_option maxHeartbeats 1600000 in
theorem schedule_any (at0:Option Addr) (cap:Nat) (xs:List Int) (w:World) (hi:Ints w .u8 at0 cap xs) (hl:xs.length=64) (hx:∀ k,k < 64→0≤nth xs k∧nth xs k < 256) :
   Calls Tryz.prog 112 #[.slice at0 xs.length cap] w fun e w'=>e=.returned (.agg ((sched xs 48).map wv).toArray)∧Below w.heap.size w w':=by
 have hr:=hi.room
 have hm:=hi.most
 obtain ⟨b,off,rfl,hc⟩:=hi.cells (by omega)
 rw [hl] at hc hr
 rw [hl]
 go_enter Tryz.func112,Tryz.ntmps112
 go_upto_region 1 with fail
 go_cut [2,3] (fun p q wx=>p=.pointer (some ⟨w.heap.size,0,none⟩)∧q=.pointer (some ⟨w.heap.size + 1,0,none⟩)∧Box wx w.heap.size ((List.replicate 64 0).map wv)∧Box wx (w.heap.size + 1) ((fill xs 0).map wv)∧Below w.heap.size w wx)
 case first =>
   go_wp2_with fail
   go_meet
   refine ⟨rfl,rfl,Box.alloc (Box.newc rfl rfl) _,Box.newc (by rw [fill_zero];rfl) (by simp),?_⟩
   go_grown
 case rest =>
   obtain ⟨rfl,rfl,hR,hX,hB⟩:=hcut
   obtain ⟨w1,rfl⟩:∃ u:World,u=wc:=⟨_,rfl⟩
   clear hi
   have HX:=Lib.hid hx
   have HC:=Lib.hid hc
   clear hx hc
   go_wp2_with fail
   go_loopw [13] (fun i wr=>∃ k:Nat,k≤64∧i=.int .i64 k∧Box wr w.heap.size ((List.replicate 64 0).map wv)∧Box wr (w.heap.size + 1) ((fill xs k).map wv)∧Below w.heap.size w wr) (fun i _=>64 - (intOf i).toNat)
   case atStart=>exact ⟨0,by omega,rfl,hR,hX,hB⟩
   case round =>
     obtain ⟨k,hk,rfl,hR,hX,hB⟩:=hrel
     by_cases hlt:k < 64
     · have c0:=cell_below' hB (HC.out k hlt)
       have c1:=hX.c (k / 4) _ (getD_map_wv wv (fill xs k) (k / 4) (by rw [fill_len];omega))
       have f1:=hX.f (k / 4) _ (getD_map_wv wv (fill xs k) (k / 4) (by rw [fill_len];omega))
       have hs:=HX.out k hlt
       have z1:=hX.lt
       have E:=shl8 ((fill xs k).getD (k / 4) 0) (nth xs k) hs.1 hs.2
       have hX':=hX.set (k / 4) (.int .u32 (un (((fill xs k).getD (k / 4) 0 <<< 8) ||| byteW (nth xs k))))
       have hR':=hR.other (a:=⟨w.heap.size + 1,k / 4,none⟩) (by show w.heap.size + 1 ≠ w.heap.size;omega) (.int .u32 (un (((fill xs k).getD (k / 4) 0 <<< 8) ||| byteW (nth xs k))))
       have hB':=hB.setCell (show w.heap.size≤(⟨w.heap.size + 1,k / 4,none⟩:Addr).block from Nat.le_succ _) (.int .u32 (un (((fill xs k).getD (k / 4) 0 <<< 8) ||| byteW (nth xs k))))
       have hX'':=Lib.hid hX'
       have hR'':=Lib.hid hR'
       have hB'':=Lib.hid hB'
       clear hX hR hX' hR' hB'
       unfold wv at c1
       have S:=Lib.hid (fill_succ xs k hlt)
       generalize (fill xs k).getD (k / 4) 0=V at *
       go_wp2_with fail
       go_roundw
       case rel=>exact ⟨k + 1,by omega,by go_num,hR''.out,by have:=hX''.out;rw [← S.out,List.map_set];exact this,hB''.out⟩
       case measure=>simp [intOf];omega
     · obtain rfl:k=64:=by omega
       rw [fill_all] at hX
       clear HX HC
       go_wp2_with fail
       clear hlt hk
       simp only [Int.cast_ofNat_Int]
       go_loopw [6] (fun i wr=>∃ n:Nat,n≤48∧i=.int .i64 ((n:Int) + 16)∧Box wr w.heap.size ((List.replicate 64 0).map wv)∧Box wr (w.heap.size + 1) ((grown xs n).map wv)∧Below w.heap.size w wr) (fun i _=>64 - (intOf i).toNat)
       case atStart=>exact ⟨0,by omega,rfl,hR,hX,hB⟩
       case round =>
         clear hR hX hB
         obtain ⟨n,hn,rfl,hR,hX,hB⟩:=hrel
         have z1:=hX.lt
         by_cases hlt:n < 48
         · have c1:=hX.c (n + 1) _ (getD_map_wv wv (grown xs n) (n + 1) (by rw [grown_len _ _ hn];omega))
           have c2:=hX.c (n + 14) _ (getD_map_wv wv (grown xs n) (n + 14) (by rw [grown_len _ _ hn];omega))
           have c3:=hX.c n _ (getD_map_wv wv (grown xs n) n (by rw [grown_len _ _ hn];omega))
           have c4:=hX.c (n + 9) _ (getD_map_wv wv (grown xs n) (n + 9) (by rw [grown_len _ _ hn];omega))
           have c5:=hX.c (n + 16) _ (getD_map_wv wv (grown xs n) (n + 16) (by rw [grown_len _ _ hn];omega))
           have f5:=hX.f (n + 16) _ (getD_map_wv wv (grown xs n) (n + 16) (by rw [grown_len _ _ hn];omega))
           unfold wv at c1 c2 c3 c4 c5
           have N:=sched_len xs n
           have V:(next (sched xs n))=((grown xs n).getD n 0 + (grown xs n).getD (n + 9) 0 + sg0 ((grown xs n).getD (n + 1) 0) + sg1 ((grown xs n).getD (n + 14) 0)):=by
             rw [grown_get _ _ _ (by omega),grown_get _ _ _ (by omega),grown_get _ _ _ (by omega),grown_get _ _ _ (by omega)]
             unfold next
             rw [N,show n + 16 - 16=n by omega,show n + 16 - 7=n + 9 by omega,show n + 16 - 15=n + 1 by omega,show n + 16 - 2=n + 14 by omega]
           have S:=Lib.hid (grown_succ xs n hlt)
           rw [V] at S
           clear N V
           generalize (grown xs n).getD n 0=v0 at *
           generalize (grown xs n).getD (n + 1) 0=v1 at *
           generalize (grown xs n).getD (n + 9) 0=v9 at *
           generalize (grown xs n).getD (n + 14) 0=v14 at *
           generalize (grown xs n).getD (n + 16) 0=v16 at *
           have X:=un_xor
           have A:=un_addm
           have D1:un v1 / (8:Int)=un (v1 >>> 3):=un_shr v1 3 (by decide)
           have D2:un v14 / (1024:Int)=un (v14 >>> 10):=un_shr v14 10 (by decide)
           have e1:IntKind.i64.wrap ((n:Int) + 16 - 15)=(n:Int) + 1:=by rw [IntWalk.i64_in _ (by omega)];omega
           have e2:IntKind.i64.wrap ((n:Int) + 16 - 2)=(n:Int) + 14:=by rw [IntWalk.i64_in _ (by omega)];omega
           have e3:((n:Int) + 1).toNat=n + 1:=by omega
           have e4:((n:Int) + 14).toNat=n + 14:=by omega
           have b1:0≤(n:Int) + 1:=by omega
           have b2:(n:Int) + 1 < 64:=by omega
           have b3:0≤(n:Int) + 14:=by omega
           have b4:(n:Int) + 14 < 64:=by omega
           go_wp2_with fail
           go_quiet (fail)
           clear e1 e2 e3 e4 b1 b2 b3 b4
           go_wp2_with fail
           refine (right_any v1 _ 7 (Lib.hid rfl) (by decide) (by decide) _).mono ?_;rintro e w' ⟨rfl,rfl⟩
           go_wp2_with fail
           refine (right_any v1 _ 18 (Lib.hid rfl) (by decide) (by decide) _).mono ?_;rintro e w' ⟨rfl,rfl⟩
           go_wp2_with fail
           refine (right_any v14 _ 17 (Lib.hid rfl) (by decide) (by decide) _).mono ?_;rintro e w' ⟨rfl,rfl⟩
           go_wp2_with fail
           refine (right_any v14 _ 19 (Lib.hid rfl) (by decide) (by decide) _).mono ?_;rintro e w' ⟨rfl,rfl⟩
           go_wp2_with fail
           have e1:IntKind.i64.wrap (n:Int)=(n:Int):=by rw [IntWalk.i64_in _ (by omega)]
           have e2:IntKind.i64.wrap ((n:Int) + 16 - 7)=(n:Int) + 9:=by rw [IntWalk.i64_in _ (by omega)];omega
           have e3:((n:Int) + 9).toNat=n + 9:=by omega
           have e4:((n:Int) + 16).toNat=n + 16:=by omega
           have b1:0≤(n:Int) + 9:=by omega
           have b2:(n:Int) + 9 < 64:=by omega
           have b3:0≤(n:Int) + 16:=by omega
           have b4:(n:Int) + 16 < 64:=by omega
           have b5:(n:Int) < 64:=by omega
           have b6:n < 64:=by omega
           refine region_still_tail 15 (by kernel_rfl) (by kernel_rfl) ?_
           simp only [List.take_succ_cons,List.take_zero,List.drop_succ_cons,List.drop_zero]
           repeat still_step
           try refine wpStill_nil ?_
           clear e1 e2 e3 e4 b1 b2 b3 b4 b5
           go_wp2_with fail
           go_roundw
           case rel =>
             refine ⟨n + 1,by omega,by go_num,(hR.drewN _).other (by show w.heap.size + 1 ≠ w.heap.size;omega) _,?_,(below_drewN hB _).setCell (show w.heap.size≤(⟨w.heap.size + 1,n + 16,none⟩:Addr).block from Nat.le_succ _) _⟩
             rw [← S.out,List.map_set]
             exact (hX.drewN _).set (n + 16) _
           case measure=>simp [intOf];omega
         · obtain rfl:n=48:=by omega
           rw [grown_all] at hX
           clear hlt hn
           have hL:((sched xs 48).map wv).length=64:=by rw [List.length_map,sched_len]
           have hO:(((sched xs 48).map wv).toArray).all (·.oneCell')=true:=all_oneCell_toArray fun v hv=>by
             obtain ⟨x,_,rfl⟩:=List.mem_map.1 hv
             rfl
           have HL:=Lib.hid hL
           have HO:=Lib.hid hO
           clear hL hO
           obtain ⟨R,hRe⟩:∃ R,R=(sched xs 48).map wv:=⟨_,rfl⟩
           have HRE:=Lib.hid hRe
           rw [← hRe] at hX HL HO
           clear hRe
           go_upto_region 14 with fail
           have i64:(Tryz.prog.info? 190).map (·.size)=some R.length:=by rw [HL.out];exact size64
           have hl:((List.replicate 64 (0:UInt32)).map wv).length=R.length:=by rw [HL.out];rfl
           have I64:=Lib.hid i64
           have HLL:=Lib.hid hl
           clear i64 hl
           go_wp2_with (first | (refine wpList_load_box rfl _ _ rfl hX rfl Tryz.underlying190 rfl I64.out ?_) | (refine wpList_store_box rfl _ _ _ rfl hR rfl rfl I64.out HLL.out HO.out ?_;intro W hW))
           exact bodyPost_ret (v:=.agg R.toArray) (results_box Tryz.results112 hW.box rfl Tryz.underlying190 rfl I64.out) rfl ⟨by rw [HRE.out],hW.below _ _ (Nat.le_refl _) hB⟩
end Go.Proofs.YtnfejdfjlnpldaaGreatDoor
namespace Go.Proofs.YtnfejdfjlnpldaaGreatDoor
open Go.RowKit
structure LaidS (w:World):Prop where
 k:∀ t,t < 64→w.cell? ⟨1,t,none⟩=some (.int .u32 (un (shaK.getD t 0)))
 f:∀ t,t < 8→w.cell? ⟨0,t,none⟩=some (.int .u32 (un (first.l.getD t 0)))
theorem LaidS.below {w w':World} (h:LaidS w) (hb:Below w.heap.size w w'):LaidS w':=⟨fun t ht=>cell_below hb (h.k t ht),fun t ht=>cell_below hb (h.f t ht)⟩
theorem LaidS.alloc {w:World} (h:LaidS w) (o:Obj):LaidS (w.alloc o):=⟨fun t ht=>cell_alloc (h.k t ht),fun t ht=>cell_alloc (h.f t ht)⟩
theorem LaidS.drew {w:World} (h:LaidS w):LaidS w.drew:=⟨h.k,h.f⟩
theorem LaidS.drewN {w:World} (h:LaidS w) (n:Nat):LaidS (w.drewN n):=⟨h.k,h.f⟩
theorem turned_q (x:UInt32) (i j k:Nat) (m1 m2 m3:Int) (h1:Hid (m1=(i:Int))) (h2:Hid (m2=(j:Int))) (h3:Hid (m3=(k:Int))) (h:(0 < i∧i < 32)∧(0 < j∧j < 32)∧(0 < k∧k < 32)) (w:World) :
   Calls Tryz.prog 113 #[.int .u32 (un x),.int .i64 m1,.int .i64 m2,.int .i64 m3] w fun e w'=>e=.returned (.int .u32 (un (tri x i j k)))∧w'=w :=
 (turned_any x m1 m2 m3 i j k h1 h2 h3 h.1.1 h.1.2 h.2.1.1 h.2.1.2 h.2.2.1 h.2.2.2 w).mono fun _ _ ⟨he,hw⟩=>⟨he,hw.symm⟩
def hv (h:W8):List Value:=[.int .u32 (un h.a),.int .u32 (un h.b),.int .u32 (un h.c),.int .u32 (un h.d),.int .u32 (un h.e),.int .u32 (un h.f),.int .u32 (un h.g),.int .u32 (un h.z)]
theorem hv_one (h:W8):(hv h).toArray.all (·.oneCell')=true:=all_oneCell_toArray fun v hm=>by
 simp only [hv,List.mem_cons,List.not_mem_nil,or_false] at hm
 rcases hm with rfl | rfl | rfl | rfl | rfl | rfl | rfl | rfl <;> rfl
theorem size8:(Tryz.prog.info? 164).map (·.size)=some 8:=by kernel_rfl
set_option maxRecDepth 100000 in
set_option maxHeartbeats 1600000 in
theorem block_any (h:W8) (at0:Option Addr) (cap:Nat) (xs:List Int) (w:World) (hi:Ints w .u8 at0 cap xs) (hl:xs.length=64) (hx:∀ k,k < 64→0≤nth xs k∧nth xs k < 256) (hL:LaidS w) :
   Calls Tryz.prog 110 #[.agg #[.int .u32 (un h.a),.int .u32 (un h.b),.int .u32 (un h.c),.int .u32 (un h.d),.int .u32 (un h.e),.int .u32 (un h.f),.int .u32 (un h.g),.int .u32 (un h.z)],.slice at0 xs.length cap] w fun e w' =>
     e=.returned (.agg (hv (taken h xs)).toArray)∧Below w.heap.size w w':=by
 have HL:=Lib.hid hl
 have HX:=Lib.hid hx
 have HS:=Lib.hid hL
 have HI:=Lib.hid hi
 clear hl hx hL hi
 go_enter Tryz.func110,Tryz.ntmps110
 go_wp2_with fail
 refine (schedule_any at0 cap xs _ ((HI.out.alloc _).alloc _) HL.out HX.out).mono ?_
 rintro e w1 ⟨rfl,hb⟩
 have hB1:Below w.heap.size w w1:=below_thru (by go_grown) hb
 have hxh:Box w1 w.heap.size (hv h):=Box.below (Box.alloc (Box.newc rfl rfl) _) hb
 have hxr:Box w1 (w.heap.size + 1) (List.replicate 8 (.int .u32 0)):=Box.below (Box.newc rfl (by simp)) hb
 have hz:=hxr.lt
 have hs1:=hB1.size
 clear hb
 obtain ⟨R,hRe⟩:∃ R,R=(sched xs 48).map wv:=⟨_,rfl⟩
 have hRl:R.length=64:=by rw [hRe,List.length_map,sched_len]
 have hRg:∀ t,t < 64→R[t]? = some (.int .u32 (un ((sched xs 48).getD t 0))):=fun t ht=>by
   rw [hRe]
   exact getD_map_wv wv _ t (by rw [sched_len];omega)
 have hRo:R.toArray.all (·.oneCell')=true:=all_oneCell_toArray fun v hv=>by
   rw [hRe] at hv
   obtain ⟨x,_,rfl⟩:=List.mem_map.1 hv
   rfl
 rw [← hRe]
 have HRL:=Lib.hid hRl
 have HRO:=Lib.hid hRo
 have HRG:=Lib.hid hRg
 have I64:=Lib.hid (show (Tryz.prog.info? 190).map (·.size)=some R.length by rw [hRl];exact size64)
 have HZL:=Lib.hid (show ((List.replicate 64 (0:UInt32)).map wv).length=R.length by rw [hRl];rfl)
 clear hRe hRl hRo hRg
 go_wp2_with (refine wpList_store_box rfl _ _ _ rfl (Box.newc (l:=(List.replicate 64 (0:UInt32)).map wv) rfl rfl) rfl rfl I64.out HZL.out HRO.out ?_;intro W hW)
 have hB2:Below w.heap.size w W:=hW.below _ _ hs1 (hB1.alloc hs1 _)
 have hxh2:Box W w.heap.size (hv h):=hW.past _ _ (by omega) (hxh.alloc _)
 have hxr2:Box W (w.heap.size + 1) (List.replicate 8 (.int .u32 0)):=hW.past _ _ (by omega) (hxr.alloc _)
 have hxw:=hW.box
 clear hW hB1 hxh hxr
 have c0:W.cell? ⟨w.heap.size,0,none⟩=some (.int .u32 (un h.a)):=hxh2.c 0 _ rfl
 have c1:W.cell? ⟨w.heap.size,1,none⟩=some (.int .u32 (un h.b)):=hxh2.c 1 _ rfl
 have c2:W.cell? ⟨w.heap.size,2,none⟩=some (.int .u32 (un h.c)):=hxh2.c 2 _ rfl
 have c3:W.cell? ⟨w.heap.size,3,none⟩=some (.int .u32 (un h.d)):=hxh2.c 3 _ rfl
 have c4:W.cell? ⟨w.heap.size,4,none⟩=some (.int .u32 (un h.e)):=hxh2.c 4 _ rfl
 have c5:W.cell? ⟨w.heap.size,5,none⟩=some (.int .u32 (un h.f)):=hxh2.c 5 _ rfl
 have c6:W.cell? ⟨w.heap.size,6,none⟩=some (.int .u32 (un h.g)):=hxh2.c 6 _ rfl
 have c7:W.cell? ⟨w.heap.size,7,none⟩=some (.int .u32 (un h.z)):=hxh2.c 7 _ rfl
 go_wp2_with fail
 go_quiet (fail)
 go_wp2_with fail
 clear c0 c1 c2 c3 c4 c5 c6 c7
 go_loopw [6,7,8,9,10,11,12,13,35] (fun a b c d e f g z i wr=>∃ (t:Nat) (s:W8),t≤64∧i=.int .i64 t∧s=rounds (sched xs 48) h t∧a=.int .u32 (un s.a)∧b=.int .u32 (un s.b)∧c=.int .u32 (un s.c)∧d=.int .u32 (un s.d)∧e=.int .u32 (un s.e)∧f=.int .u32 (un s.f)∧g=.int .u32 (un s.g)∧z=.int .u32 (un s.z) ∧
   Box wr w.heap.size (hv h)∧Box wr (w.heap.size + 1) (List.replicate 8 (.int .u32 0))∧Box wr w1.heap.size R∧Below w.heap.size w wr) (fun _ _ _ _ _ _ _ _ i _=>64 - (intOf i).toNat)
 case atStart=>exact ⟨0,h,by omega,rfl,rfl,rfl,rfl,rfl,rfl,rfl,rfl,rfl,rfl,hxh2.drewN _,hxr2.drewN _,hxw.drewN _,below_drewN hB2 _⟩
 case round =>
   clear hxh2 hxr2 hxw hB2
   obtain ⟨t,s,ht,rfl,hs,rfl,rfl,rfl,rfl,rfl,rfl,rfl,rfl,hxh,hxr,hxw,hB⟩:=hrel
   have HS':=Lib.hid hs
   clear hs
   by_cases hlt:t < 64
   · have ck:=(HS.out.below hB).k t hlt
     have cw:=hxw.c t _ (HRG.out t hlt)
     have X:=un_xor
     have A:=un_addm
     have N:=un_and
     have V:∀ b,bits .xor .u32 IntKind.u32.max (un b)=un (~~~ b):=un_not
     have S:=Lib.hid (show rounds (sched xs 48) h (t + 1)=rnd (rounds (sched xs 48) h t) (shaK.getD t 0) ((sched xs 48).getD t 0) from rfl)
     rw [← HS'.out] at S
     generalize shaK.getD t 0=kt at *
     generalize (sched xs 48).getD t 0=wt at *
     go_wp2_with fail
     go_quiet ((go_at_call 113;exact Calls.quiet_of_same (turned_q s.e 6 11 25 _ _ _ (Lib.hid rfl) (Lib.hid rfl) (Lib.hid rfl) (by decide) _)))
     go_wp2_with fail
     refine (turned_q s.a 2 13 22 _ _ _ (Lib.hid rfl) (Lib.hid rfl) (Lib.hid rfl) (by decide) _).mono ?_
     rintro e w' ⟨rfl,rfl⟩
     go_wp2_with fail
     go_roundw
     case rel =>
       refine ⟨t + 1,rnd s kt wt,by omega,by go_num,S.out.symm,?_,?_,?_,?_,?_,?_,?_,?_,hxh.drewN _,hxr.drewN _,hxw.drewN _,below_drewN hB _⟩
       all_goals first | rfl | (refine congrArg (Value.int .u32) ?_;simp only [rnd,un,UInt32.toNat_add];omega)
     case measure=>simp [intOf];omega
   · obtain rfl:t=64:=by omega
     clear hlt ht
     have HT:=Lib.hid (show taken h xs=plus h s by rw [HS'.out];rfl)
     have A:=un_addm
     have c0:wr.cell? ⟨w.heap.size,0,none⟩=some (.int .u32 (un h.a)):=hxh.c 0 _ rfl
     have c1:wr.cell? ⟨w.heap.size,1,none⟩=some (.int .u32 (un h.b)):=hxh.c 1 _ rfl
     have c2:wr.cell? ⟨w.heap.size,2,none⟩=some (.int .u32 (un h.c)):=hxh.c 2 _ rfl
     have c3:wr.cell? ⟨w.heap.size,3,none⟩=some (.int .u32 (un h.d)):=hxh.c 3 _ rfl
     have c4:wr.cell? ⟨w.heap.size,4,none⟩=some (.int .u32 (un h.e)):=hxh.c 4 _ rfl
     have c5:wr.cell? ⟨w.heap.size,5,none⟩=some (.int .u32 (un h.f)):=hxh.c 5 _ rfl
     have c6:wr.cell? ⟨w.heap.size,6,none⟩=some (.int .u32 (un h.g)):=hxh.c 6 _ rfl
     have c7:wr.cell? ⟨w.heap.size,7,none⟩=some (.int .u32 (un h.z)):=hxh.c 7 _ rfl
     go_upto_region 10 with fail
     go_wp2_with (refine wpList_store_box (cs:=hv (plus h s)) rfl _ _ _ rfl hxr rfl rfl size8 rfl (hv_one _) ?_;intro W3 hW3)
     exact bodyPost_ret (v:=.agg (hv (plus h s)).toArray) (results_box Tryz.results110 hW3.box rfl Tryz.underlying164 rfl size8) rfl ⟨by rw [HT.out],hW3.below _ _ (Nat.le_succ _) hB⟩
end Go.Proofs.YtnfejdfjlnpldaaGreatDoor
namespace Go.Proofs.YtnfejdfjlnpldaaGreatDoor
open Go.RowKit
def cntB (n:Int):Bool:=decide (0≤n) && decide (n≤128000)
theorem countable_any (n:Int) (w:World) (h1:-9223372036854775808≤n) (h2:n≤9223372036854775807) :
   Calls Tryz.prog 109 #[.int .i64 n] w fun e w'=>e=.returned (.bool (cntB n))∧w=w':=by
 have _:=h1
 have _:=h2
 by_cases a:0≤n
 · by_cases b:n≤128000
   · have H:=Lib.hid (show cntB n=true by simp [cntB,a,b])
     go_enter Tryz.func109,Tryz.ntmps109
     go_wp2
     go_returns
     exact ⟨by rw [H.out];rfl,rfl⟩
   · have H:=Lib.hid (show cntB n=false by simp [cntB,b])
     have b':decide (n≤128000)=false:=decide_eq_false b
     clear b
     go_enter Tryz.func109,Tryz.ntmps109
     go_wp2
     go_returns
     exact ⟨by rw [H.out];rfl,rfl⟩
 · have H:=Lib.hid (show cntB n=false by simp [cntB,a])
   have a':decide (0≤n)=false:=decide_eq_false a
   clear a
   go_enter Tryz.func109,Tryz.ntmps109
   go_wp2
   go_returns
   exact ⟨by rw [H.out];rfl,rfl⟩
theorem countable_b {n:Int} {b:Bool} (w:World) (h1:-9223372036854775808≤n) (h2:n≤9223372036854775807) (h:Hid (cntB n=b)) :
   Calls Tryz.prog 109 #[.int .i64 n] w fun e w'=>e=.returned (.bool b)∧w=w':=by
 rw [← h.out];exact countable_any n w h1 h2
def vldH (n:Int) (len:Nat):Bool:=cntB n && decide ((len:Int)=n % 64)
set_option maxRecDepth 100000 in
theorem valid_any (h:W8) (at0:Option Addr) (len cap:Nat) (n:Int) (b:Bool) (hb:Hid (vldH n len=b)) (w:World) (h1:-9223372036854775808≤n) (h2:n≤9223372036854775807) (hm:len≤9223372036854775807) :
   Calls Tryz.prog 101 #[.agg #[.int .u32 (un h.a),.int .u32 (un h.b),.int .u32 (un h.c),.int .u32 (un h.d),.int .u32 (un h.e),.int .u32 (un h.f),.int .u32 (un h.g),.int .u32 (un h.z),.slice at0 len cap,.int .i64 n]] w fun e w' =>
     e=.returned (.bool b)∧Below w.heap.size w w':=by
 have _:=hm
 rcases hc:cntB n with _ | _
 · have HC:=Lib.hid hc
   obtain rfl:b=false:=by rw [← hb.out];simp [vldH,hc]
   clear hc hb
   go_enter Tryz.func101,Tryz.ntmps101
   go_wp2_with fail
   refine (countable_b _ h1 h2 HC).mono ?_
   rintro e w' ⟨rfl,rfl⟩
   go_wp2_with fail
   go_returns
   exact ⟨rfl,(Below.refl _ _).alloc (Nat.le_refl _) _⟩
 · have HC:=Lib.hid hc
   have hn:0≤n∧n≤128000:=by simpa [cntB] using hc
   have HB:=Lib.hid (show decide ((len:Int)=n % 64)=b by rw [← hb.out];simp [vldH,hc])
   clear hc hb
   have a1:=hn.1
   have a2:=hn.2
   clear hn
   by_cases e:(len:Int)=n % 64
   · obtain rfl:b=true:=by rw [← HB.out];exact decide_eq_true e
     clear HB
     go_enter Tryz.func101,Tryz.ntmps101
     go_wp2_with fail
     refine (countable_b _ h1 h2 HC).mono ?_
     rintro e w' ⟨rfl,rfl⟩
     go_wp2_with fail
     go_returns
     exact ⟨rfl,(Below.refl _ _).alloc (Nat.le_refl _) _⟩
   · obtain rfl:b=false:=by rw [← HB.out];exact decide_eq_false e
     clear HB
     have e':((len:Int) == n % 64)=false:=by simpa using e
     clear e
     go_enter Tryz.func101,Tryz.ntmps101
     go_wp2_with fail
     refine (countable_b _ h1 h2 HC).mono ?_
     rintro e w' ⟨rfl,rfl⟩
     go_wp2_with fail
     go_returns
     exact ⟨rfl,(Below.refl _ _).alloc (Nat.le_refl _) _⟩
set_option maxRecDepth 100000 in
set_option maxHeartbeats 800000 in
theorem padding_any (n:Nat) (w:World) (hn:n≤128000) :
   Calls Tryz.prog 104 #[.int .i64 (n:Int)] w fun e w'=>∃ v,e=.returned v∧IsL w' .u8 v (padL n)∧Below w.heap.size w w':=by
 obtain ⟨z,hz⟩:∃ z:Nat,z=63 - (n + 8) % 64:=⟨_,rfl⟩
 have e1:((n:Int) + 8) % 64=63 - (z:Int):=by omega
 have e2:(63:Int) - (63 - (z:Int))=(z:Int):=by omega
 have hz2:z≤63:=by omega
 have HZ:=Lib.hid hz
 clear hz
 have hmk:=make_bytes (1 + z + 8) (by omega)
 rw [show ((1 + z + 8:Nat):Int)=1 + (z:Int) + 8 by omega] at hmk
 go_enter Tryz.func104,Tryz.ntmps104
 go_upto_region 3 with fail
 clear hmk e1 e2
 go_cut [4] (fun p wx=>p=.slice (some ⟨w.heap.size,0,none⟩) (1 + z + 8) (1 + z + 8)∧Box wx w.heap.size ((padS z n 0).map (Value.int .u8))∧Below w.heap.size w wx)
 case first =>
   have hb:Box (w.alloc (.cells (zb (1 + z + 8)) 5)) w.heap.size ((List.replicate (1 + z + 8) (0:Int)).map (Value.int .u8)):=Box.newc rfl rfl
   have g0:((List.replicate (1 + z + 8) (0:Int)).map (Value.int .u8))[0]? = some (.int .u8 0):=by rw [List.getElem?_map,List.getElem?_replicate,if_pos (by omega)];rfl
   have c0:=hb.c 0 _ g0
   have f0:=hb.f 0 _ g0
   have hB:Below w.heap.size w (w.alloc (.cells (zb (1 + z + 8)) 5)):=(Below.refl _ _).alloc (Nat.le_refl _) _
   have hs:w.heap.size < (w.alloc (.cells (zb (1 + z + 8)) 5)).heap.size:=by simp
   obtain ⟨w1,h9⟩:∃ W,w.alloc (.cells (zb (1 + z + 8)) 5)=W:=⟨_,rfl⟩
   rw [h9] at hb c0 f0 hB hs ⊢
   clear h9 g0
   go_wp2_with fail
   go_meet
   refine ⟨rfl,?_,hB.setCell (Nat.le_refl _) _⟩
   rw [← padS_zero,List.map_set]
   exact hb.set 0 _
 case rest =>
   obtain ⟨rfl,hX,hB⟩:=hcut
   obtain ⟨w1,rfl⟩:∃ u:World,u=wc:=⟨_,rfl⟩
   go_wp2_with fail
   go_loopw [16] (fun i wr=>∃ k:Nat,k≤8∧i=.int .i64 k∧Box wr w.heap.size ((padS z n k).map (Value.int .u8))∧Below w.heap.size w wr) (fun i _=>8 - (intOf i).toNat)
   case atStart=>exact ⟨0,by omega,rfl,hX,hB⟩
   case round =>
     clear hX hB
     obtain ⟨k,hk,rfl,hX,hB⟩:=hrel
     have z1:=hX.lt
     by_cases hlt:k < 8
     · have c1:=hX.c (1 + z + 7 - k) _ (nth_get (1 + z + 7 - k) (by rw [padS_len];omega))
       have f1:=hX.f (1 + z + 7 - k) _ (nth_get (1 + z + 7 - k) (by rw [padS_len];omega))
       have E:=byteOf_is n k
       go_wp2_with fail
       go_roundw
       case rel =>
         refine ⟨k + 1,by omega,by go_num,?_,hB.setCell (Nat.le_refl _) _⟩
         rw [← padS_succ z n k hlt,List.map_set]
         exact hX.set (1 + z + 7 - k) _
       case measure=>simp [intOf];omega
     · obtain rfl:k=8:=by omega
       go_wp2_with fail
       go_ret
       rw [padS_all z n HZ.out] at hX
       have hlen:(padL n).length=1 + z + 8:=by rw [← padS_all z n HZ.out,padS_len]
       refine ⟨_,rfl,⟨some ⟨w.heap.size,0,none⟩,1 + z + 8,by rw [hlen];rfl,⟨by omega,by omega,fun _=>⟨w.heap.size,0,rfl,fun i hi=>?_⟩⟩,fun h=>by cases h⟩,hB⟩
       rw [Nat.zero_add]
       exact hX.c i _ (nth_get i hi)
end Go.Proofs.YtnfejdfjlnpldaaGreatDoor
namespace Go.Proofs.YtnfejdfjlnpldaaGreatDoor
open Go.RowKit
def bytesL (xs:List Int):Prop:=∀ k,k < xs.length→0≤nth xs k∧nth xs k < 256
theorem bytesL.append {xs ys:List Int} (h1:bytesL xs) (h2:bytesL ys):bytesL (xs ++ ys):=by
 intro k hk
 rw [List.length_append] at hk
 by_cases h:k < xs.length
 · rw [nth_append_left h];exact h1 k h
 · rw [nth_append_right (by omega)];exact h2 _ (by omega)
theorem bytesL.drop {xs:List Int} (h:bytesL xs) (m:Nat):bytesL (xs.drop m):=by
 intro k hk
 rw [nth_drop]
 rw [List.length_drop] at hk
 exact h _ (by omega)
theorem bytesL.take {xs:List Int} (h:bytesL xs) (m:Nat):bytesL (xs.take m):=by
 intro k hk
 rw [List.length_take] at hk
 rw [nth_take (by omega)]
 exact h _ (by omega)
theorem bytesL.nil:bytesL []:=fun k hk=>by simp at hk
theorem bytesL.of_all {xs:List Int} (h:∀ x ∈ xs,0≤x∧x < 256):bytesL xs:=nth_all h
theorem padL_bytes (n:Nat):bytesL (padL n):=bytesL.of_all fun x hx=>by
 unfold padL at hx
 rcases List.mem_cons.1 hx with rfl | hx
 · omega
 · rcases List.mem_append.1 hx with hx | hx
   · rw [List.eq_of_mem_replicate hx];omega
   · obtain ⟨i,_,rfl⟩:=List.mem_map.1 hx
     unfold padB
     omega
theorem dig_bytes (h:W8):bytesL (dig h):=bytesL.of_all fun x hx=>by
 obtain ⟨i,_,rfl⟩:=List.mem_map.1 hx
 unfold digB
 omega
theorem block_is {h T:W8} {v:Value} {xs:List Int} (w:World) (hT:Hid (taken h xs=T)) (hi:IsL w .u8 v xs) (hl:Hid (xs.length=64)) (hx:Hid (bytesL xs)) (hL:LaidS w) :
   Calls Tryz.prog 110 #[.agg #[.int .u32 (un h.a),.int .u32 (un h.b),.int .u32 (un h.c),.int .u32 (un h.d),.int .u32 (un h.e),.int .u32 (un h.f),.int .u32 (un h.g),.int .u32 (un h.z)],v] w fun e w'=>e=.returned (.agg (hv T).toArray)∧Below w.heap.size w w':=by
 obtain ⟨at0,cap,rfl,hi,h0⟩:=hi
 rw [← hT.out]
 exact block_any h at0 cap xs w hi hl.out (by have:=hx.out;unfold bytesL at this;rw [hl.out] at this;exact this) hL
end Go.Proofs.YtnfejdfjlnpldaaGreatDoor
namespace Go.Proofs.YtnfejdfjlnpldaaGreatDoor
open Go.RowKit
def dv (D:List Int):Value:=.agg (D.map (Value.int .u8)).toArray
theorem size32:(Tryz.prog.info? 23).map (·.size)=some 32:=by kernel_rfl
theorem hv_get (h:W8) (i:Nat) (hi:i < 8):(hv h)[i]? = some (.int .u32 (un (h.l.getD i 0))):=getD_map_wv (fun x=>Value.int .u32 (un x)) h.l i hi
set_option maxRecDepth 100000 in
set_option maxHeartbeats 1600000 in
theorem digest_any (h:W8) (w:World):Calls Tryz.prog 105 #[.agg (hv h).toArray] w fun e w'=>e=.returned (dv (dig h))∧Below w.heap.size w w':=by
 obtain ⟨V,hV⟩:∃ V,V=hv h:=⟨_,rfl⟩
 have hVg:∀ i,i < 8→V[i]? = some (.int .u32 (un (h.l.getD i 0))):=by rw [hV];exact hv_get h
 rw [← hV]
 have HG:=Lib.hid hVg
 clear hVg hV
 go_enter Tryz.func105,Tryz.ntmps105
 go_upto_region 1 with fail
 go_cut [1,2,3] (fun p q r wx=>p=.pointer (some ⟨w.heap.size,0,none⟩)∧q=.pointer (some ⟨w.heap.size + 1,0,none⟩)∧r=.pointer (some ⟨w.heap.size + 2,0,none⟩)∧Box wx w.heap.size V∧Box wx (w.heap.size + 1) ((List.replicate 32 (0:Int)).map (Value.int .u8))∧Box wx (w.heap.size + 2) ((digS h 0).map (Value.int .u8))∧Below w.heap.size w wx)
 case first =>
   go_wp2_with fail
   go_meet
   refine ⟨rfl,rfl,rfl,Box.alloc (Box.alloc (Box.newc (by simp) rfl) _) _,Box.alloc (Box.newc rfl (by simp)) _,Box.newc (by rw [digS_zero];rfl) (by simp),?_⟩
   go_grown
 case rest =>
   obtain ⟨rfl,rfl,rfl,hV,hR,hX,hB⟩:=hcut
   obtain ⟨w1,rfl⟩:∃ u:World,u=wc:=⟨_,rfl⟩
   go_wp2_with fail
   go_loopw [5] (fun i wr=>∃ k:Nat,k≤32∧i=.int .i64 k∧Box wr w.heap.size V∧Box wr (w.heap.size + 1) ((List.replicate 32 (0:Int)).map (Value.int .u8))∧Box wr (w.heap.size + 2) ((digS h k).map (Value.int .u8))∧Below w.heap.size w wr) (fun i _=>32 - (intOf i).toNat)
   case atStart=>exact ⟨0,by omega,rfl,hV,hR,hX,hB⟩
   case round =>
     clear hV hR hX hB
     obtain ⟨k,hk,rfl,hV,hR,hX,hB⟩:=hrel
     have z1:=hX.lt
     by_cases hlt:k < 32
     · have c0:=hV.c (k / 4) _ (HG.out (k / 4) (by omega))
       have c1:=hX.c k _ (nth_get k (by rw [digS_len];omega))
       have f1:=hX.f k _ (nth_get k (by rw [digS_len];omega))
       obtain ⟨s,hs⟩:∃ s:Nat,s=24 - k % 4 * 8:=⟨_,rfl⟩
       have e1:(24:Int) - (k:Int) % 4 * 8=(s:Int):=by omega
       have s1:s≤24:=by omega
       have E:un (h.l.getD (k / 4) 0) / 2 ^ s % 256=digB h k:=by rw [hs];rfl
       have S:=Lib.hid (digS_succ h k hlt)
       clear hs
       generalize h.l.getD (k / 4) 0=v at *
       generalize digB h k=D at *
       go_wp2_with fail
       go_roundw
       case rel =>
         refine ⟨k + 1,by omega,by go_num,hV.other (by show w.heap.size + 2 ≠ w.heap.size;omega) _,hR.other (by show w.heap.size + 2 ≠ w.heap.size + 1;omega) _,?_,hB.setCell (show w.heap.size≤w.heap.size + 2 by omega) _⟩
         rw [← S.out,List.map_set]
         exact hX.set k _
       case measure=>simp [intOf];omega
     · obtain rfl:k=32:=by omega
       obtain ⟨R,hRe⟩:∃ R,R=(digS h 32).map (Value.int .u8):=⟨_,rfl⟩
       have hRl:R.length=32:=by rw [hRe,List.length_map,digS_len]
       have hRo:R.toArray.all (·.oneCell')=true:=by rw [hRe];exact oneCell_ints _
       have HRE:=Lib.hid (show (Value.agg R.toArray)=dv (dig h) by rw [hRe,digS_all];rfl)
       rw [← hRe] at hX
       clear hRe hlt hk
       have I32:=Lib.hid (show (Tryz.prog.info? 23).map (·.size)=some R.length by rw [hRl];exact size32)
       have HLL:=Lib.hid (show ((List.replicate 32 (0:Int)).map (Value.int .u8)).length=R.length by rw [hRl];rfl)
       have HRO:=Lib.hid hRo
       clear hRl hRo
       go_upto_region 7 with fail
       go_wp2_with (first | (refine wpList_load_box rfl _ _ rfl hX rfl Tryz.underlying23 rfl I32.out ?_) | (refine wpList_store_box rfl _ _ _ rfl hR rfl rfl I32.out HLL.out HRO.out ?_;intro W3 hW3))
       exact bodyPost_ret (v:=.agg R.toArray) (results_box Tryz.results105 hW3.box rfl Tryz.underlying23 rfl I32.out) rfl ⟨by rw [HRE.out],hW3.below _ _ (by omega) hB⟩
def hashV (h:W8) (v:Value) (n:Int):List Value:=[.int .u32 (un h.a),.int .u32 (un h.b),.int .u32 (un h.c),.int .u32 (un h.d),.int .u32 (un h.e),.int .u32 (un h.f),.int .u32 (un h.g),.int .u32 (un h.z),v,.int .i64 n]
theorem size10:(Tryz.prog.info? 166).map (·.size)=some 10:=by kernel_rfl
set_option maxRecDepth 100000 in
theorem start_any (w:World) (hL:LaidS w):Calls Tryz.prog 93 #[] w fun e w'=>e=.returned (.agg (hashV first (.slice none 0 0) 0).toArray)∧Below w.heap.size w w':=by
 have c0:w.cell? ⟨0,0,none⟩=some (.int .u32 (un first.a)):=hL.f 0 (by omega)
 have c1:w.cell? ⟨0,1,none⟩=some (.int .u32 (un first.b)):=hL.f 1 (by omega)
 have c2:w.cell? ⟨0,2,none⟩=some (.int .u32 (un first.c)):=hL.f 2 (by omega)
 have c3:w.cell? ⟨0,3,none⟩=some (.int .u32 (un first.d)):=hL.f 3 (by omega)
 have c4:w.cell? ⟨0,4,none⟩=some (.int .u32 (un first.e)):=hL.f 4 (by omega)
 have c5:w.cell? ⟨0,5,none⟩=some (.int .u32 (un first.f)):=hL.f 5 (by omega)
 have c6:w.cell? ⟨0,6,none⟩=some (.int .u32 (un first.g)):=hL.f 6 (by omega)
 have c7:w.cell? ⟨0,7,none⟩=some (.int .u32 (un first.z)):=hL.f 7 (by omega)
 have hz:0 < w.heap.size:=lt_of_cell c0
 clear hL
 generalize first=h at *
 go_enter Tryz.func93,Tryz.ntmps93
 go_wp2_with fail
 refine bodyPost_ret (v:=.agg (hashV h (.slice none 0 0) 0).toArray) (by simp [results,Tryz.results93,go_sem,hashV]) rfl ⟨rfl,?_⟩
 go_grown
def Takes (T:W8) (v0:Value) (rs:List Int) (w:World) (e:Ending) (w':World):Prop:=∃ v,e=.returned (.tuple #[.agg (hv T).toArray,v])∧IsL w' .u8 v rs∧v.ownBlock=v0.ownBlock∧Below w.heap.size w w'
def lenOf:Value→Nat
 | .slice _ n _=>n
 | _=>0
theorem IsL.cut {w:World} {k:IntKind} {at0:Option Addr} {n c:Nat} {xs:List Int} (h:IsL w k (.slice at0 n c) xs) (m:Nat) (hm:0 < m) (hl:m≤n) :
   ∃ b off,at0=some ⟨b,off,Option.none⟩∧n=xs.length∧n≤c∧c≤9223372036854775807∧IsL w k (.slice (some ⟨b,off,Option.none⟩) m c) (xs.take m) ∧
     IsL w k (.slice (if c=m then some ⟨b,off,Option.none⟩ else some ⟨b,off + m,Option.none⟩) (n - m) (c - m)) (xs.drop m):=by
 obtain ⟨a',c',e,hi,h0⟩:=h
 injection e with e1 e2 e3
 subst e2 e3 e1
 have hr:=hi.room
 have hM:=hi.most
 obtain ⟨b,off,rfl,hc⟩:=hi.cells (by omega)
 refine ⟨b,off,rfl,rfl,hr,hM,⟨_,_,by rw [List.length_take,Nat.min_eq_left hl],hi.take m hl,fun q=>by cases q⟩,⟨_,_,by rw [List.length_drop],⟨by rw [List.length_drop];omega,by omega,fun h1=>?_⟩,fun q=>by split at q <;> cases q⟩⟩
 rw [List.length_drop] at h1
 refine ⟨b,off + m,by rw [if_neg (by omega)],fun i hi2=>?_⟩
 rw [List.length_drop] at hi2
 rw [nth_drop,Nat.add_assoc]
 exact hc (m + i) (by omega)
theorem after_step (h:W8) (xs:List Int) (hl:64≤xs.length):after (taken h (xs.take 64)) (xs.drop 64)=after h xs:=by
 unfold after
 rw [List.length_drop,show xs.length / 64=(xs.length - 64) / 64 + 1 by omega]
 rfl
theorem rest_step (xs:List Int) (hl:64≤xs.length):restOf (xs.drop 64)=restOf xs:=by
 unfold restOf
 rw [List.length_drop,List.drop_drop]
 congr 1
 omega
set_option maxRecDepth 100000 in
theorem takeIn_any (h:W8) (v:Value) (xs:List Int) (w:World) (hi:IsL w .u8 v xs) (hx:bytesL xs) (hL:LaidS w) :
   Calls Tryz.prog 102 #[.agg (hv h).toArray,v] w (Takes (after h xs) v (restOf xs) w):=by
 have HX:=Lib.hid hx
 have HS:=Lib.hid hL
 have HI:=Lib.hid hi
 clear hx hL hi
 obtain ⟨V,hV⟩:∃ V,V=hv h:=⟨_,rfl⟩
 rw [← hV]
 have HV:=Lib.hid hV
 clear hV
 go_enter Tryz.func102,Tryz.ntmps102
 go_wp2_with fail
 go_loopw [1] (fun u wr=>∃ (T:W8) (zs:List Int),Hid (IsL w .u8 u zs)∧Hid (u.ownBlock=v.ownBlock)∧Hid (bytesL zs)∧Hid (after T zs=after h xs)∧Hid (restOf zs=restOf xs)∧Box wr w.heap.size (hv T)∧Box wr (w.heap.size + 1) (List.replicate 8 (.int .u32 0))∧Below w.heap.size w wr) (fun u _=>lenOf u)
 case atStart=>exact ⟨h,xs,HI,Lib.hid rfl,HX,Lib.hid rfl,Lib.hid rfl,Box.alloc (Box.newc (by rw [HV.out]) rfl) _,Box.newc rfl (by simp),by go_grown⟩
 case round =>
   obtain ⟨T,zs,hi,hob,hx,hA,hR,hT,hO,hB⟩:=hrel
   obtain ⟨at0,cap,e,hin,h0⟩:=hi.out
   subst e
   have hr:=hin.room
   have hm:=hin.most
   clear hin h0
   by_cases hge:64≤zs.length
   · obtain ⟨b,off,rfl,hn,hr2,hm2,hI1,hI2⟩:=hi.out.cut 64 (by omega) hge
     clear hn hr2 hm2
     have q1:=Lib.hid hI1
     have q2:=Lib.hid hI2
     clear hI1 hI2
     generalize hn:zs.length=n at *
     have HN:=Lib.hid hn
     clear hn
     obtain ⟨p,hp⟩:∃ p:Option Addr,(if cap=64 then some (⟨b,off,none⟩:Addr) else some ⟨b,off + 64,none⟩)=p:=⟨_,rfl⟩
     rw [hp] at q2
     have hob2:=Lib.hid (show (Value.slice p (n - 64) (cap - 64)).ownBlock=v.ownBlock by rw [← hob.out,← hp];split <;> rfl)
     have hcap:(64:Int)≤(cap:Int):=by omega
     go_wp2_with fail
     refine wp_region_any (by kernel_rfl) ?_
     try (change wpAny _ _ _ _ _ _ _ (World.drew _))
     refine wpAny_take (i:=1) (v:=.slice (some ⟨b,off,none⟩) n cap) rfl (by kernel_rfl) (by kernel_rfl) (by kernel_rfl) (fun _ _ _ h=>h) (Or.inl ⟨by rfl,?_⟩) ?_
     · intro w;go_simp
     refine wpAny_take (i:=2) (v:=.slice (some ⟨b,off,none⟩) 64 cap) rfl (by kernel_rfl) (by kernel_rfl) (by kernel_rfl) (fun _ _ _ h=>h) (Or.inl ⟨by rfl,?_⟩) ?_
     · intro w;go_simp
     refine wpAny_take (i:=4) (v:=.slice (some ⟨b,off,none⟩) n cap) rfl (by kernel_rfl) (by kernel_rfl) (by kernel_rfl) (fun _ _ _ h=>h) (Or.inl ⟨by rfl,?_⟩) ?_
     · intro w;go_simp
     refine wpAny_take (i:=5) (v:=.slice p (n - 64) (cap - 64)) rfl (by kernel_rfl) (by kernel_rfl) (by kernel_rfl) (fun _ _ _ h=>h) (Or.inl ⟨by rfl,?_⟩) ?_
     · intro w;go_simp
     refine wpAny_ready (rs:=[0]) (by kernel_rfl) (by simp) (AllReady.cons rfl (fun K hK=>?_) AllReady.nil)
     refine step_load_box rfl _ _ rfl hT.drew rfl Tryz.underlying164 rfl size8 ?_
     refine hK _ _ ?_;clear hK K
     refine wpAny_ready (rs:=[3]) (by kernel_rfl) (by simp) (AllReady.cons rfl (fun K hK=>?_) AllReady.nil)
     go_simp
     have hT1:=Lib.hid (show after (taken T (zs.take 64)) (zs.drop 64)=after h xs by rw [after_step _ _ (by have:=HN.out;omega)];exact hA.out)
     have hR1:=Lib.hid (show restOf (zs.drop 64)=restOf xs by rw [rest_step _ (by have:=HN.out;omega)];exact hR.out)
     have hx1:=Lib.hid (hx.out.take 64)
     have hx2:=Lib.hid (hx.out.drop 64)
     have hl1:=Lib.hid (show (zs.take 64).length=64 by rw [List.length_take];have:=HN.out;omega)
     obtain ⟨T1,hTe⟩:∃ T1,taken T (zs.take 64)=T1:=⟨_,rfl⟩
     rw [hTe] at hT1
     have HTe:=Lib.hid hTe
     clear hTe
     refine (block_is _ HTe (q1.out.below hB).drew hl1 hx1 (HS.out.below hB).drew).mono ?_
     rintro e w1 ⟨rfl,hb⟩
     refine hK _ _ ?_;clear hK K
     have hB1:Below w.heap.size w w1:=below_thru hB.drew hb
     have hT2:Box w1 w.heap.size (hv T):=hT.drew.below hb
     have hO2:Box w1 (w.heap.size + 1) (List.replicate 8 (.int .u32 0)):=hO.drew.below hb
     clear hb
     refine wpAny_ready (rs:=[6]) (by kernel_rfl) (by simp) (AllReady.cons rfl (fun K hK=>?_) AllReady.nil)
     refine step_store_box (cs:=hv T1) rfl _ _ _ rfl hT2 rfl rfl size8 rfl (hv_one _) ?_
     intro W hW
     refine hK _ _ ?_;clear hK K
     refine wpAny_ready (rs:=[7]) (by kernel_rfl) (by simp) (AllReady.cons rfl (fun K hK=>?_) AllReady.nil)
     go_simp
     refine hK _ _ ?_;clear hK K
     refine wpAny_done (by kernel_rfl) ?_ _
     go_wp2_with fail
     go_roundw
     case rel=>exact ⟨T1,zs.drop 64,q2,hob2,hx2,hT1,hR1,hW.box,hW.past _ _ (by omega) hO2,hW.below _ _ (Nat.le_refl _) hB1⟩
     case measure=>simp [lenOf];omega
   · have hA2:T=after h xs:=by
       rw [← hA.out]
       unfold after
       rw [show zs.length / 64=0 by omega]
       rfl
     have hR2:zs=restOf xs:=by
       rw [← hR.out]
       unfold restOf
       rw [show zs.length / 64 * 64=0 by omega]
       rfl
     have HA2:=Lib.hid hA2
     have HR2:=Lib.hid hR2
     clear hA2 hR2 hA hR
     have hge':decide ((64:Int)≤(zs.length:Int))=false:=decide_eq_false (by omega)
     clear hge
     go_wp2_with (first | (refine wpList_load_box rfl _ _ rfl hT rfl Tryz.underlying164 rfl size8 ?_) | (refine wpList_store_box (cs:=hv T) rfl _ _ _ rfl hO rfl rfl size8 rfl (hv_one _) ?_;intro W hW))
     refine bodyPost_ret (v:=.tuple #[.agg (hv T).toArray,.slice at0 zs.length cap]) (results_box2 Tryz.results102 hW.box rfl rfl Tryz.underlying164 rfl size8) rfl ⟨_,by rw [← HA2.out],?_,hob.out,hW.below _ _ (Nat.le_succ _) hB⟩
     rw [← HR2.out]
     exact hi.out.below (hW.below _ _ (Nat.le_succ _) hB)
end Go.Proofs.YtnfejdfjlnpldaaGreatDoor
namespace Go.Proofs.YtnfejdfjlnpldaaGreatDoor
open Go.RowKit Go.Lib
def OwnL (w w':World) (v:Value) (xs:List Int):Prop:=w'.ownsRow w.heap.size 5 1 v xs.length (xs.map (Value.int .u8))∧Below w.heap.size w w'
set_option maxHeartbeats 1000000 in
set_option maxRecDepth 100000 in
theorem grow_nil (n:Nat) (w:World) (hn:n≤1000000000):Calls Tryz.prog 53 #[.slice none 0 0,.int .i64 (n:Int)] w fun e w'=>∃ v,e=.returned v∧OwnL w w' v []:=by
 by_cases h0:n=0
 · subst h0
   go_enter Tryz.func53,Tryz.ntmps53
   go_wp2
   go_ret
   exact ⟨_,rfl,owns_none,Below.refl _ _⟩
 · obtain ⟨i0,hi0,hz0,hz1,hz2⟩:=info_parts info_u8
   have hold:(Builtin.firstCells i0.size 0 (.slice none 0 0)).run Tryz.prog w.drew=.ok ([]:List Value).toArray w.drew:=run_firstCells_none w.drew i0.size 0 0 0
   have hrz:∀ ty,(Builtin.append_ #[43,3] ty #[.slice none 0 0,.int .i64 (n:Int)]).run Tryz.prog w =
       .ok (.slice (some ⟨w.heap.size,0,none⟩) n (grownCap w n 0 5)) (w.drew.alloc (.cells (([]:List Value).toArray ++ Builtin.zeroCells (Value.int .u8 0).cells n ++ Builtin.zeroCells (Value.int .u8 0).cells (grownCap w n 0 5 - n)) 5)):=fun ty=>by
     have h:=Lib.run_append_grow_zeros (P:=Tryz.prog) w 43 3 ty 5 i0 (.int .u8 0) .i64 .i64 Tryz.underlying43 Tryz.underlying3 hi0 hz0 none 0 0 [] hold n (by omega) (by omega) (by omega) (by omega)
       (by rw [hz2];omega) (by rw [hz2];exact growslice_fits (by omega) (by omega))
     rw [Nat.zero_add] at h
     exact h
   have hGn:n≤grownCap w n 0 5:=grownCap_ge w _ _ _
   have hG63:grownCap w n 0 5≤maxLen:=grownCap_le_maxLen w n 0 5 (by unfold maxLen;omega)
   obtain ⟨G,hG⟩:∃ G,G=grownCap w n 0 5:=⟨_,rfl⟩
   rw [← hG] at hrz hGn hG63
   obtain ⟨C,hC⟩:∃ C:Array Value,C=([]:List Value).toArray ++ Builtin.zeroCells (Value.int .u8 0).cells n ++ Builtin.zeroCells (Value.int .u8 0).cells (G - n):=⟨_,rfl⟩
   have hCs:C.size=G:=by rw [hC];simp [Builtin.zeroCells,Value.cells];omega
   rw [← hC] at hrz
   clear hG hC hold
   have hn0:¬ (n:Int)≤0:=by omega
   have hG63':=hG63
   unfold maxLen at hG63'
   go_enter Tryz.func53,Tryz.ntmps53
   go_wp2_with (at_builtin;refine Lib.wpList_append_run _ rfl _ _ _ _ rfl _ _ rfl rfl _ _ (hrz _) ?_)
   all_goals go_ret
   all_goals exact ⟨_,rfl,⟨rfl,Or.inr ⟨w.heap.size,G,C,rfl,Nat.le_refl _,heap_alloc_new w.drew _,Nat.zero_le _,hG63,by rw [hCs,Nat.mul_one],rfl⟩⟩,by go_grown⟩
theorem OwnL.more {w w1 w2:World} {v v':Value} {xs ys:List Int} (h:OwnL w w1 v xs) (h1:w2.ownsRow w.heap.size 5 1 v' (xs.length + ys.length) (xs.map (Value.int .u8) ++ ys.map (Value.int .u8))) (h2:w1.grownBy w2 v.ownBlock):OwnL w w2 v' (xs ++ ys):=by
 refine ⟨?_,h.2.grown h2 h.2.size (own_block h.1)⟩
 rw [List.length_append,List.map_append]
 exact h1
theorem IsL.parts {w:World} {k:IntKind} {a:Option Addr} {n c:Nat} {xs:List Int} (h:IsL w k (.slice a n c) xs):Ints w k a c xs∧(a=Option.none→c=0):=by
 obtain ⟨a',c',e,hi,h0⟩:=h
 injection e with e1 e2 e3
 subst e1 e3
 exact ⟨hi,h0⟩
theorem OwnL.is {w w1:World} {v:Value} {xs:List Int} (h:OwnL w w1 v xs):IsL w1 .u8 v xs:=IsL.own h.1 rfl
set_option maxHeartbeats 1000000 in
set_option maxRecDepth 100000 in
theorem concat_any (b:Nat) (v1 v2:Value) (xs ys:List Int) (w:World) (h0:w.cell? ⟨b,0,none⟩=some v1) (h1:w.cell? ⟨b,1,none⟩=some v2) (hx:IsL w .u8 v1 xs) (hy:IsL w .u8 v2 ys) (hl:xs.length + ys.length≤1000000000) :
   Calls Tryz.prog 21 #[.slice (some ⟨b,0,none⟩) 2 2] w fun e w'=>∃ v,e=.returned v∧OwnL w w' v (xs ++ ys):=by
 have HX:=Lib.hid hx
 have HY:=Lib.hid hy
 obtain ⟨a1,c1,rfl,i1,n1⟩:=hx
 obtain ⟨a2,c2,rfl,i2,n2⟩:=hy
 clear i1 i2 n1 n2
 go_enter Tryz.func21,Tryz.ntmps21
 go_wp2_with fail
 refine wp_loop_rounds 3 ?_
 rw [rounds_succ];go_wp2_with fail
 rw [rounds_succ];go_wp2_with fail
 rw [rounds_succ];go_wp2_with fail
 rw [show (xs.length:Int) + (ys.length:Int)=((xs.length + ys.length:Nat):Int) by omega]
 refine (grow_nil _ _ hl).mono ?_
 rintro e w1 ⟨v,rfl,hO⟩
 have k0:=cell_below hO.2 h0
 have k1:=cell_below hO.2 h1
 have HX1:=Lib.hid (HX.out.below hO.2)
 have HY1:=Lib.hid (HY.out.below hO.2)
 have HO:=Lib.hid hO
 have HK0:=Lib.hid h0
 have HK1:=Lib.hid h1
 clear h0 h1 hO
 obtain ⟨i0,hi0,hz0,hz1,hz2⟩:=info_parts info_u8
 go_wp2_with fail
 refine wp_loop_rounds 3 ?_
 rw [rounds_succ]
 go_wp2_with (at_builtin;refine wpList_append_ints rfl (.tmp 31) (.tmp 32) 43 rfl w.heap.size 5 i0 (.int .u8 0) 1 .u8 Tryz.underlying43 hi0 hz0 hz1 hz2 rfl v 0 [] rfl HO.out.1 a1 c1 xs rfl HX1.out.parts.1 HX1.out.parts.2 (by unfold maxLen;omega) (by omega) HO.out.2.size ?_;intro v' w2 hw2 hg2)
 have HO2:=Lib.hid (HO.out.more hw2 hg2)
 clear hw2 hg2
 have k0':=cell_below HO2.out.2 HK0.out
 have k1':=cell_below HO2.out.2 HK1.out
 have HY2:=Lib.hid (HY.out.below HO2.out.2)
 clear k0 k1 HO HX1 HY1
 rw [rounds_succ]
 go_wp2_with (at_builtin;refine wpList_append_ints rfl (.tmp 31) (.tmp 32) 43 rfl w.heap.size 5 i0 (.int .u8 0) 1 .u8 Tryz.underlying43 hi0 hz0 hz1 hz2 rfl v' ([] ++ xs).length (([] ++ xs).map (Value.int .u8)) rfl HO2.out.1 a2 c2 ys rfl HY2.out.parts.1 HY2.out.parts.2 (by unfold maxLen;simp;omega) (by simp;omega) HO2.out.2.size ?_;intro v2 w3 hw3 hg3)
 have HO3:=Lib.hid (HO2.out.more hw3 hg3)
 clear hw3 hg3 HO2 HY2 k0' k1'
 rw [rounds_succ]
 go_wp2_with fail
 go_ret
 exact ⟨_,rfl,HO3.out⟩
set_option maxHeartbeats 1000000 in
set_option maxRecDepth 100000 in
theorem clone_any (v:Value) (xs:List Int) (w:World) (hx:IsL w .u8 v xs) (hl:xs.length≤1000000000) :
   Calls Tryz.prog 103 #[v] w fun e w'=>∃ v',e=.returned v'∧OwnL w w' v' xs:=by
 have HX:=Lib.hid hx
 obtain ⟨a1,c1,rfl,i1,n1⟩:=hx
 cases a1 with
 | none =>
   have hc:=n1 rfl
   subst hc
   have hl0:xs=[]:=List.eq_nil_of_length_eq_zero (by have:=i1.room;omega)
   subst hl0
   clear i1 n1
   have hnil:=fun (W:World)=>Lib.run_eql_slice_nil (P:=Tryz.prog) W 43 5 none 0 0 0 0 Tryz.underlying43
   go_enter Tryz.func103,Tryz.ntmps103
   go_wp2_with fail
   go_ret
   exact ⟨_,rfl,owns_none,Below.refl _ _⟩
 | some ad =>
   clear i1 n1
   obtain ⟨i0,hi0,hz0,hz1,hz2⟩:=info_parts info_u8
   have hnil:=fun (W:World)=>Lib.run_eql_slice_nil (P:=Tryz.prog) W 43 5 (some ad) xs.length c1 0 0 Tryz.underlying43
   go_enter Tryz.func103,Tryz.ntmps103
   go_wp2_with (at_builtin;refine wpList_append_built rfl (.tmp 5) (.tmp 6) 43 rfl 5 i0 (.int .u8 0) 1 .u8 Tryz.underlying43 hi0 hz0 hz1 hz2 rfl [] xs _ _ _ 0 0 rfl rfl rfl rfl rfl rfl HX.out (by unfold maxLen;simp;omega) (by simp;omega) ?_;intro v' w1 ho hb)
   go_ret
   exact ⟨_,rfl,ho,hb⟩
end Go.Proofs.YtnfejdfjlnpldaaGreatDoor
namespace Go.Proofs.YtnfejdfjlnpldaaGreatDoor
open Go.RowKit
theorem F_alloc {F:World→Prop} {w:World} {c:Array Value} {t:TypeId} (l:List Value) (hc:c=l.toArray) (h:∀ W,Box W w.heap.size l→Below w.heap.size w W→F W):F (w.alloc (.cells c t)) :=
 h _ (Box.newc hc rfl) ((Below.refl _ _).alloc (Nat.le_refl _) _)
theorem F_drew {F:World→Prop} {w:World} (h:∀ W,Below w.heap.size w W→F W):F w.drew:=h _ (Below.refl _ _).drew
theorem Box.left {w:World} {b:Nat} {l r:List Value} (h:Box w b (l ++ r)):w.rangeAt b 0 l:=fun j v e=>by
 rw [Nat.zero_add]
 exact h.c j v (by rw [List.getElem?_append_left (List.getElem?_eq_some_iff.1 e).1];exact e)
theorem takeH {P:Program} {md:Region.Mode} {ops:Array Oper} {Q:Exit→Act→World→Prop} {S:World→Prop} (i d:Nat) {oi:Oper} {v:Value} {fuel:Nat} {listed:Array Bool} {a:Act} {w:World} (hi:ops[i]? = some oi) (hd:oi.dst=some d)
   (hs:Region.noSelect ops=true) (hf:Region.free md ops listed i=true) (hr:(Region.ready md ops listed).contains i=true)
   (hQ:∀ c a w,Q (.panic c) (a.put oi.dst v) w→Q (.panic c) a w) (hy:YieldsIf P ops S oi v a) (hS:S w)
   (h:wpAnyH P md ops Q S fuel (listed.setIfInBounds i true) (a.put (some d) v) w):wpAnyH P md ops Q S (fuel + 1) listed a w :=
 wpAnyH_take hi hs hf hr hQ hy hS (by rw [hd];exact h)
theorem step_store_box0 {P:Program} {ops:Array Oper} {o:Oper} {a:Act} {w:World} {K:Act→World→Prop} {Q:Exit→Act→World→Prop} {E:Prop} (hgd:o.guard=none) (hd:o.dst=none) (ty:TypeId) (x y:Operand) (ho:o.op=.store ty x y) {b:Nat} {us cs:List Value} (hb:Box w b us) (hx:a.eval x=.pointer (some ⟨b,0,none⟩)) (hy:a.eval y=.agg cs.toArray)
   (hi:(P.info? ty).map (·.size)=some cs.length) (hl:us.length=cs.length) (h1:cs.toArray.all (·.oneCell')=true)
   (hK:∀ W,Stored w b cs W→K a W):if Region.wanted o (yielded ops a.tmps)=true then Oper.wp P o a w K Q else E :=
 step_store_box hgd ty x y ho hb hx hy hi hl h1 fun W hW=>by rw [hd];exact hK W hW
theorem IsL.stored {w W:World} {k:IntKind} {v:Value} {xs:List Int} {b:Nat} {vs:List Value} (h:IsL w k v xs) (hs:Stored w b vs W) (hb:∀ g,v.ownBlock=some g→g ≠ b):IsL W k v xs:=by
 obtain ⟨a,c,rfl,hi,h0⟩:=h
 refine ⟨a,c,rfl,⟨hi.room,hi.most,fun hp=>?_⟩,h0⟩
 obtain ⟨g,off,rfl,hc⟩:=hi.cells hp
 exact ⟨g,off,rfl,fun i hi=>hs.cell _ _ _ (fun e=>hb g rfl e.symm) (hc i hi)⟩
theorem OwnL.stored {w0 w W:World} {v:Value} {xs:List Int} {b:Nat} {vs:List Value} (h:OwnL w0 w v xs) (hs:Stored w b vs W) (hb:b < w0.heap.size):W.ownsRow w0.heap.size 5 1 v xs.length (xs.map (Value.int .u8)):=by
 obtain ⟨e,⟨h1,h2⟩ | ⟨g,cap,cur,h1,h2,h3,h4⟩⟩:=h.1
 · exact ⟨e,Or.inl ⟨h1,h2⟩⟩
 · exact ⟨e,Or.inr ⟨g,cap,cur,h1,h2,by rw [hs.block g (by omega)];exact h3,h4⟩⟩
theorem owns_mono {w:World} {B B' e:Nat} {v:Value} {n:Nat} {l:List Value} (h:w.ownsRow B e 1 v n l) (hB:B'≤B):w.ownsRow B' e 1 v n l:=by
 obtain ⟨e,⟨h1,h2⟩ | ⟨g,cap,cur,h1,h2,h3⟩⟩:=h
 · exact ⟨e,Or.inl ⟨h1,h2⟩⟩
 · exact ⟨e,Or.inr ⟨g,cap,cur,h1,Nat.le_trans hB h2,h3⟩⟩
end Go.Proofs.YtnfejdfjlnpldaaGreatDoor
