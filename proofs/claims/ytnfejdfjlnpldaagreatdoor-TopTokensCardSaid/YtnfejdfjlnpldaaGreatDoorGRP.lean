import Derived.Test.YtnfejdfjlnpldaaGreatDoorGX1
import Derived.Test.YtnfejdfjlnpldaaGreatDoorGT2
import Derived.Test.YtnfejdfjlnpldaaGreatDoorGX3
import Derived.Test.YtnfejdfjlnpldaaGreatDoorGXP
import Derived.Test.YtnfejdfjlnpldaaGreatDoorGS2
set_option maxHeartbeats 6400000
set_option maxRecDepth 100000
namespace Go.Proofs.YtnfejdfjlnpldaaGreatDoor
open Go.ChangeShapes Go.WideShapes Go.ChangeAt Go.RowKit Go.Joins
theorem be_one {n:Int} (h:0≤n∧n≤255):be 1 n=[n]:=by unfold be be;simp;omega
end Go.Proofs.YtnfejdfjlnpldaaGreatDoor
namespace Go.Proofs.YtnfejdfjlnpldaaGreatDoor
open Go.ChangeShapes Go.WideShapes Go.ChangeAt Go.RowKit Go.Joins
structure Rep where
 c:Int
 t:Int
 a:Int
 b:Int
 d:Int
 x:Int
 hc:0≤c∧c≤255
 ht:0≤t∧t≤4294967295
 ha:0≤a∧a≤4294967295
 hb:0≤b∧b≤4294967295
 hd:0≤d∧d≤4294967295
 hx:0≤x∧x≤18446744073709551615
theorem Rep.ext' {r s:Rep} (h1:r.c=s.c) (h2:r.t=s.t) (h3:r.a=s.a) (h4:r.b=s.b) (h5:r.d=s.d) (h6:r.x=s.x):r=s:=by
 cases r;cases s;subst h1 h2 h3 h4 h5 h6;rfl
def Rep.lone (c:Int) (h:0≤c∧c≤255):Rep:=⟨c,0,0,0,0,0,h,by decide,by decide,by decide,by decide,by decide⟩
def Rep.alone (r:Rep):Rep:=Rep.lone r.c r.hc
def Rep.zero:Rep:=Rep.lone 0 (by decide)
def Rep.v (r:Rep):List Value:=[.int .u8 r.c,.int .u32 r.t,.int .u32 r.a,.int .u32 r.b,.int .u32 r.d,.int .u64 r.x]
def Sole (c:Int):Prop:=c=1∨c=4∨c=5∨c=6∨c=7∨c=8
instance (c:Int):Decidable (Sole c):=by unfold Sole;exact inferInstance
def Two (c:Int):Prop:=c=2∨c=3
instance (c:Int):Decidable (Two c):=by unfold Two;exact inferInstance
def Rep.Low (r:Rep):Prop:=r.a≤1000000000∧r.b≤1000000000∧r.d≤1000000000
def Rep.Ans (r:Rep):Prop:=r.t < 16∧r.Low
def Rep.Bare (r:Rep):Prop:=Sole r.c∧r=r.alone
def Rep.Ok (r:Rep):Prop:=(r.c=2∧r.Ans∧r.x=0)∨(r.c=3∧r.Ans∧1≤r.x)∨r.Bare
def Rep.bs (r:Rep):List Int:=r.c :: 0 :: 0 :: 0 :: (be 4 r.t ++ (be 4 r.a ++ (be 4 r.b ++ (be 4 r.d ++ (be 8 r.x ++ [0,0,0,0])))))
theorem Rep.bs_len (r:Rep):r.bs.length=32:=by unfold Rep.bs;simp [be_len]
theorem Rep.bs_byts (r:Rep):Byts r.bs:=by
 intro y hy
 unfold Rep.bs at hy
 simp only [List.mem_cons,List.mem_append,List.not_mem_nil,or_false] at hy
 rcases hy with rfl | rfl | rfl | rfl | h | h | h | h | h | rfl | rfl | rfl | rfl
 · exact r.hc
 · decide
 · decide
 · decide
 · exact be_byts _ _ y h
 · exact be_byts _ _ y h
 · exact be_byts _ _ y h
 · exact be_byts _ _ y h
 · exact be_byts _ _ y h
 · decide
 · decide
 · decide
 · decide
theorem num4 {n:Int} (h:0≤n∧n≤4294967295):num (be 4 n)=n:=num_be 4 n h.1 (by rw [p256_4];omega)
theorem num8 {n:Int} (h:0≤n∧n≤18446744073709551615):num (be 8 n)=n:=num_be 8 n h.1 (by rw [p256_8];omega)
theorem be4_inj {n m:Int} (hn:0≤n∧n≤4294967295) (hm:0≤m∧m≤4294967295) (h:be 4 n=be 4 m):n=m:=by rw [← num4 hn,← num4 hm,h]
theorem be8_inj {n m:Int} (hn:0≤n∧n≤18446744073709551615) (hm:0≤m∧m≤18446744073709551615) (h:be 8 n=be 8 m):n=m:=by rw [← num8 hn,← num8 hm,h]
theorem Rep.bs_inj {r s:Rep} (h:r.bs=s.bs):r=s:=by
 unfold Rep.bs at h
 simp only [List.cons.injEq,true_and] at h
 obtain ⟨h1,h⟩:=h
 obtain ⟨h2,h⟩:=List.append_inj h (by rw [be_len,be_len])
 obtain ⟨h3,h⟩:=List.append_inj h (by rw [be_len,be_len])
 obtain ⟨h4,h⟩:=List.append_inj h (by rw [be_len,be_len])
 obtain ⟨h5,h⟩:=List.append_inj h (by rw [be_len,be_len])
 obtain ⟨h6,_⟩:=List.append_inj h (by rw [be_len,be_len])
 exact Rep.ext' h1 (be4_inj r.ht s.ht h2) (be4_inj r.ha s.ha h3) (be4_inj r.hb s.hb h4) (be4_inj r.hd s.hd h5) (be8_inj r.hx s.hx h6)
theorem fd7_bs:(fdN 7 0).bs=[0]:=by rw [fdN_bs (by decide) (by decide) (by decide)];rfl
theorem fd7_ok:(fdN 7 0).ok=true:=fdN_ok (by decide) (by decide) (by decide) (by decide)
theorem fd7_k:(fdN 7 0).k=7:=fdN_k (by decide) (by decide)
def Rep.row (r:Rep):List Fd:=[fdN 2 r.c,fdN 7 0,fdN 7 0,fdN 7 0,fdN 4 r.t,fdN 4 r.a,fdN 4 r.b,fdN 4 r.d,fdN 5 r.x,fdN 7 0,fdN 7 0,fdN 7 0,fdN 7 0]
def kinP:List Int:=[2,7,7,7,4,4,4,4,5,7,7,7,7]
theorem Rep.row_k (r:Rep):r.row.map Fd.k=kinP:=by
 unfold Rep.row kinP
 simp only [List.map_cons,List.map_nil,fd2_k r.hc,fd7_k,fd4_k r.ht,fd4_k r.ha,fd4_k r.hb,fd4_k r.hd,fd5_k r.hx]
theorem Rep.row_all (r:Rep):∀ f ∈ r.row,f.ok=true:=by
 intro f hf
 unfold Rep.row at hf
 simp only [List.mem_cons,List.not_mem_nil,or_false] at hf
 rcases hf with rfl | rfl | rfl | rfl | rfl | rfl | rfl | rfl | rfl | rfl | rfl | rfl | rfl
 · exact fd2_ok r.hc
 · exact fd7_ok
 · exact fd7_ok
 · exact fd7_ok
 · exact fd4_ok r.ht
 · exact fd4_ok r.ha
 · exact fd4_ok r.hb
 · exact fd4_ok r.hd
 · exact fd5_ok r.hx
 · exact fd7_ok
 · exact fd7_ok
 · exact fd7_ok
 · exact fd7_ok
theorem Rep.row_e (r:Rep):rowE r.row=0:=rowE_ok (by show 13≤40;decide) r.row_all
theorem Rep.row_b (r:Rep):rowB r.row=r.bs:=by
 unfold Rep.row Rep.bs
 simp only [rowB_cons,rowB_nil,fd2_bs r.hc,fd7_bs,fd4_bs r.ht,fd4_bs r.ha,fd4_bs r.hb,fd4_bs r.hd,fd5_bs r.hx,be_one r.hc]
 simp
theorem Rep.rea (r:Rep):reaE kinP r.bs=0∧reaF kinP r.bs=r.row:=by
 have:=rea_of r.row_e
 rwa [r.row_k,r.row_b] at this
theorem Fd.of_ok {f:Fd} {k:Int} (h:f.ok=true) (hk:f.k=k) (h6:k ≠ 6):f=fdN k f.n∧f.n≤gre k:=by
 subst hk
 unfold Fd.ok at h
 simp only [Bool.and_eq_true,Bool.or_eq_true,decide_eq_true_eq] at h
 obtain ⟨⟨_,h2⟩,h3⟩:=h
 refine ⟨?_,h2⟩
 rw [fdN_is f.hk f.hn]
 exact Fd.ext' rfl rfl (by rcases h3 with h3 | h3;exact absurd h3 h6;exact h3)
theorem row_of {fs:List Fd} (hk:fs.map Fd.k=kinP) (ho:∀ f ∈ fs,f.ok=true):∃ r:Rep,fs=r.row:=by
 have hl:fs.length=13:=by rw [← List.length_map (f:=Fd.k),hk];rfl
 match fs,hl with
 | [f0,f1,f2,f3,f4,f5,f6,f7,f8,f9,f10,f11,f12],_ =>
   unfold kinP at hk
   simp only [List.map_cons,List.map_nil,List.cons.injEq,and_true] at hk
   obtain ⟨k0,k1,k2,k3,k4,k5,k6,k7,k8,k9,k10,k11,k12⟩:=hk
   simp only [List.mem_cons,List.not_mem_nil,or_false,forall_eq_or_imp,forall_eq] at ho
   obtain ⟨o0,o1,o2,o3,o4,o5,o6,o7,o8,o9,o10,o11,o12⟩:=ho
   have z:∀ {f:Fd},f.ok=true→f.k=7→f=fdN 7 0:=fun {f} h hk=>by
     obtain ⟨e,g⟩:=Fd.of_ok h hk (by decide)
     have:f.n=0:=by have:=f.hn;have g2:gre 7=0:=rfl;omega
     rw [this] at e
     exact e
   obtain ⟨e0,g0⟩:=Fd.of_ok o0 k0 (by decide)
   obtain ⟨e4,g4⟩:=Fd.of_ok o4 k4 (by decide)
   obtain ⟨e5,g5⟩:=Fd.of_ok o5 k5 (by decide)
   obtain ⟨e6,g6⟩:=Fd.of_ok o6 k6 (by decide)
   obtain ⟨e7,g7⟩:=Fd.of_ok o7 k7 (by decide)
   obtain ⟨e8,g8⟩:=Fd.of_ok o8 k8 (by decide)
   refine ⟨⟨f0.n,f4.n,f5.n,f6.n,f7.n,f8.n,⟨f0.hn.1,g0⟩,⟨f4.hn.1,g4⟩,⟨f5.hn.1,g5⟩,⟨f6.hn.1,g6⟩,⟨f7.hn.1,g7⟩,f8.hn⟩,?_⟩
   unfold Rep.row
   simp only [List.cons.injEq,and_true]
   exact ⟨e0,z o1 k1,z o2 k2,z o3 k3,e4,e5,e6,e7,e8,z o9 k9,z o10 k10,z o11 k11,z o12 k12⟩
theorem kinP_ok:kinE kinP=0:=kinE_ok (by decide) (by decide)
theorem kinP_byts:∀ k ∈ kinP,0≤k∧k≤255:=by decide
theorem rea_two (bs:List Int) (hb:Byts bs):(∃ r:Rep,r.bs=bs∧reaE kinP bs=0∧reaF kinP bs=r.row)∨(reaE kinP bs=12∧reaF kinP bs=[]∧∀ r:Rep,r.bs ≠ bs):=by
 have nn:reaE kinP bs ≠ 0→∀ r:Rep,r.bs ≠ bs:=fun h r e=>h (by rw [← e];exact r.rea.1)
 cases hr:rd kinP bs with
 | none =>
   obtain ⟨e1,_,_⟩:=fir_none kinP_ok hr
   have e4:reaE kinP bs=12:=by unfold reaE;rw [e1];rfl
   exact Or.inr ⟨e4,by unfold reaF;rw [e4];rfl,nn (by rw [e4];decide)⟩
 | some p =>
   obtain ⟨fs,rest⟩:=p
   have R:=rd_some kinP_byts hb hr
   obtain ⟨e1,e2,e3⟩:=fir_some kinP_ok R
   by_cases hz:rest=[]
   · subst hz
     obtain ⟨r,rfl⟩:=row_of R.k R.ok
     have hbs:r.bs=bs:=by rw [← r.row_b,← R.b,List.append_nil]
     exact Or.inl ⟨r,hbs,by rw [← hbs];exact r.rea.1,by rw [← hbs];exact r.rea.2⟩
   · have e4:reaE kinP bs=12:=by unfold reaE;rw [e1,e3,if_pos rfl,if_neg hz]
     exact Or.inr ⟨e4,by unfold reaF;rw [e4];rfl,nn (by rw [e4];decide)⟩
def PParse (bs:List Int) (G:Rep) (q:Int):Prop:=(q=0∧G.Ok∧G.bs=bs)∨(q=12∧G=Rep.zero∧∀ F:Rep,F.Ok→F.bs ≠ bs)
theorem PParse.uniq {bs:List Int} {G H:Rep} {p q:Int} (h1:PParse bs G p) (h2:PParse bs H q):G=H∧p=q:=by
 rcases h1 with ⟨rfl,g1,g2⟩ | ⟨rfl,rfl,g3⟩ <;> rcases h2 with ⟨rfl,k1,k2⟩ | ⟨rfl,rfl,k3⟩
 · exact ⟨Rep.bs_inj (by rw [g2,k2]),rfl⟩
 · exact absurd g2 (k3 G g1)
 · exact absurd k2 (g3 H k1)
 · exact ⟨rfl,rfl⟩
def kindsP:List IntKind:=[.u8,.u32,.u32,.u32,.u32,.u64]
theorem fit_rep (r:Rep):Fit kindsP r.v:=.cons (fitU8 r.hc) (.cons (fitU32 r.ht) (.cons (fitU32 r.ha) (.cons (fitU32 r.hb) (.cons (fitU32 r.hd) (.cons (fitU64 r.hx) trivial)))))
theorem sizeRep:(Tryz.prog.info? 50).map (·.size)=some 6:=by kernel_rfl
theorem size_rep (r:Rep):(Tryz.prog.info? 50).map (·.size)=some r.v.length:=by rw [sizeRep];rfl
theorem one_rep (r:Rep):r.v.toArray.all (·.oneCell')=true:=all_oneCell_toArray (fit_one (fit_rep r))
theorem len_rep (r s:Rep):r.v.length=s.v.length:=rfl
section
variable {H:Type} {enc:TypeId × Value→H} {W:World} {r:Reach} {b0 base:Nat} {sp:Nat→Bool} {held:Bool} {v:Value} {d:DataW H} {p:List MemPlace}
end
set_option maxRecDepth 100000 in
theorem build_rz (W:World):(Instr.build 50 #[]).run Tryz.prog W=.ok (.agg Rep.zero.v.toArray) W:=by kernel_rfl
end Go.Proofs.YtnfejdfjlnpldaaGreatDoor
namespace Go.Proofs.YtnfejdfjlnpldaaGreatDoor
open Go.RowKit
theorem rep_mid (r:Rep):r.v.drop 2=[.int .u32 r.a,.int .u32 r.b,.int .u32 r.d] ++ [.int .u64 r.x]:=rfl
end Go.Proofs.YtnfejdfjlnpldaaGreatDoor
namespace Go.Proofs.YtnfejdfjlnpldaaGreatDoor
open Go.RowKit
theorem flatR_cut3 {α:Type} {L:Lay α} {xs:List α} {k:Nat} (h:k < xs.length):flatR L xs=flatR L (xs.take k) ++ (L.f xs[k] ++ flatR L (xs.drop (k + 1))):=by
 have e0:xs=xs.take k ++ xs[k] :: xs.drop (k + 1):=by rw [← List.drop_eq_getElem_cons h,List.take_append_drop]
 have e1:=congrArg (flatR L) e0
 rw [flatR_app] at e1
 rw [e1]
 congr 1
theorem flatR_upd {α:Type} {L:Lay α} {xs:List α} {k:Nat} (h:k < xs.length) (y:α):flatR L (xs.set k y)=(flatR L xs).take (k * L.s) ++ L.f y ++ (flatR L xs).drop (k * L.s + (L.f y).length):=by
 have e1:=flatR_cut3 (L:=L) h
 have l1:(flatR L (xs.take k)).length=k * L.s:=by rw [flatR_len,List.length_take];congr 1;omega
 have e2:flatR L (xs.set k y)=flatR L (xs.take k) ++ (L.f y ++ flatR L (xs.drop (k + 1))):=by
   rw [List.set_eq_take_append_cons_drop,if_pos h,flatR_app]
   unfold flatR
   simp
 rw [e2,e1]
 generalize flatR L (xs.take k)=A at *
 generalize flatR L (xs.drop (k + 1))=C at *
 rw [List.take_left' l1,← List.drop_drop,List.drop_left' l1,List.drop_left' (by rw [L.len,L.len]),List.append_assoc]
theorem flatR_at1 {α:Type} {L:Lay α} {xs:List α} {k:Nat} {x:α} (h:xs[k]? = some x):∃ A C,flatR L xs=A ++ (L.f x ++ C)∧A.length=k * L.s:=by
 obtain ⟨hk,rfl⟩:=List.getElem?_eq_some_iff.1 h
 refine ⟨flatR L (xs.take k),flatR L (xs.drop (k + 1)),?_,by rw [flatR_len,List.length_take];congr 1;omega⟩
 exact flatR_cut3 hk
theorem flatR_set0 {xs:List Fd} {k:Nat} {x y:Fd} {v:Value} (h:xs[k]? = some x) (hy:y.v=x.v.set 0 v):(flatR LF xs).set (k * 34) v=flatR LF (xs.set k y):=by
 obtain ⟨A,C,e,l⟩:=flatR_at1 (L:=LF) h
 rw [flatR_upd (L:=LF) (List.getElem?_eq_some_iff.1 h).1 y]
 show (flatR LF xs).set (k * 34) v=(flatR LF xs).take (k * 34) ++ y.v ++ (flatR LF xs).drop (k * 34 + y.v.length)
 rw [e]
 have l2:A.length=k * 34:=l
 have l3:y.v.length=x.v.length:=by rw [hy,List.length_set]
 show (A ++ (x.v ++ C)).set (k * 34) v=(A ++ (x.v ++ C)).take (k * 34) ++ y.v ++ (A ++ (x.v ++ C)).drop (k * 34 + y.v.length)
 rw [List.take_left' l2,← List.drop_drop,List.drop_left' l2,l3,List.drop_left' rfl,← l2,List.set_append_right _ _ (Nat.le_refl _),Nat.sub_self,List.set_append_left _ _ (by rw [x.v_len];decide),← hy,List.append_assoc]
set_option maxRecDepth 100000 in
theorem index_row {xs:List Fd} (hl:xs.length=13) {k:Nat} {f:Fd} (h:xs[k]? = some f) (W:World):(Instr.index 118 (.agg (flatR LF xs).toArray) (.int .i64 k)).run Tryz.prog W=.ok (.agg f.v.toArray) W:=by
 obtain ⟨A,C,e,l⟩:=flatR_at1 (L:=LF) h
 have hk:=(List.getElem?_eq_some_iff.1 h).1
 unfold Instr.index
 have hb:(0:Int)≤(k:Int)∧(k:Int) < ((13:Nat):Int):=by omega
 simp [Sem.run_bind,go_sem,hb]
 rw [if_pos (by omega),e,List.drop_left' (show A.length=k * 34 from l),List.take_left' (show (LF.f f).length=34 from f.v_len)]
 rfl
def zrow (k:Nat):List Fd:=List.replicate k (fdN 7 0) ++ List.replicate (13 - k) Fd.zero
theorem zrow_len {k:Nat} (h:k≤13):(zrow k).length=13:=by unfold zrow;simp;omega
theorem zrow_succ {k:Nat} (h:k < 13):(zrow k)[k]? = some Fd.zero∧(zrow k).set k (fdN 7 0)=zrow (k + 1):=by
 have:k=0∨k=1∨k=2∨k=3∨k=4∨k=5∨k=6∨k=7∨k=8∨k=9∨k=10∨k=11∨k=12:=by omega
 rcases this with q | q | q | q | q | q | q | q | q | q | q | q | q <;> subst q <;> exact ⟨rfl,rfl⟩
theorem fd7_v:(fdN 7 0).v=Fd.zero.v.set 0 (.int .u8 7):=by rw [fdN_v (by decide) (by decide)];rfl
theorem zrow_put {k:Nat} (h:k < 13):(flatR LF (zrow k)).set (k * 34) (.int .u8 7)=flatR LF (zrow (k + 1)):=by
 obtain ⟨h1,h2⟩:=zrow_succ h
 rw [flatR_set0 h1 fd7_v,h2]
theorem row_size {xs:List Fd} (h:xs.length=13):(Tryz.prog.info? 118).map (·.size)=some (flatR LF xs).length:=by
 rw [flatR_len,h,show (Tryz.prog.info? 118).map (·.size)=some 442 by kernel_rfl]
 rfl
theorem flat_len {xs:List Fd} (h:xs.length=13):(flatR LF xs).length=442:=by rw [flatR_len,h];rfl
theorem flat_one (xs:List Fd):(flatR LF xs).toArray.all (·.oneCell')=true:=all_oneCell_toArray fun _ h=>flatR_ones h
set_option maxRecDepth 100000 in
theorem zero_row (W:World):(zeroValue 118).run Tryz.prog W=.ok (.agg (flatR LF (zrow 0)).toArray) W:=by kernel_rfl
set_option maxRecDepth 100000 in
set_option maxHeartbeats 1600000 in
theorem put_is {b:Nat} {fs:List Fd} (hl:fs.length=13) (k:Nat) (hk:k < 13) (K n:Int) (hK:0≤K∧K≤255) (hn:0≤n∧n≤18446744073709551615) (w:World) (hb:Box w b (flatR LF fs)) :
   Calls Tryz.prog 82 #[.int .i64 k,.int .u8 K,.int .u64 n,.pointer (some ⟨b,0,none⟩)] w fun e w'=>e=.returned (.tuple #[])∧Stored w b (flatR LF (fs.set k (fdN K n))) w':=by
 have HU:=Lib.hid (flatR_upd (L:=LF) (xs:=fs) (k:=k) (by omega) (fdN K n))
 have HV:LF.f (fdN K n)=fcell K n zeroD:=fdN_v hK hn
 rw [HV] at HU
 have BF:=fun W=>bfld K n W
 have SF:=Lib.hid (sizeC K n zeroD rfl)
 have OF:=Lib.hid (oneC K n zeroD)
 have LN:Hid ((fcell K n zeroD).length=34):=Lib.hid (fcell_len _ _ _ rfl)
 have LL:=Lib.hid (flat_len hl)
 have hb2:=hb
 obtain ⟨C,hC⟩:∃ C,fcell K n zeroD=C:=⟨_,rfl⟩
 obtain ⟨R,hR⟩:∃ R,flatR LF fs=R:=⟨_,rfl⟩
 obtain ⟨R2,hR2⟩:∃ R,flatR LF (fs.set k (fdN K n))=R:=⟨_,rfl⟩
 rw [hC] at HU BF SF OF LN
 rw [hR] at HU LL hb hb2
 rw [hR2] at HU ⊢
 have i3:(k:Int) < 13:=by omega
 have i4:(0:Int)≤(k:Int):=by omega
 have zb:=hb.lt
 clear HV hC hR hR2 hl
 go_enter Tryz.func82,Tryz.ntmps82
 go_wp2_with (first | (refine wpList_build9 rfl 88 _ rfl (us:=#[(0,.int .u8 K),(1,.int .u64 n)]) (by rfl) (BF _) ?_) | (refine wpList_store_part (k:=k * 34) (cs:=C) (ws:=R2) rfl _ _ _ rfl hb2 rfl rfl SF.out (by rw [LN.out,LL.out];omega) HU.out OF.out ?_;intro w1 hW1))
 go_returns
 exact ⟨rfl,hW1⟩
set_option maxRecDepth 100000 in
set_option maxHeartbeats 6400000 in
theorem rowof_is (r:Rep) (w:World):Calls Tryz.prog 57 #[.agg r.v.toArray] w fun e w'=>e=.returned (.agg (flatR LF r.row).toArray)∧Below w.heap.size w w':=by
 have SV:=Lib.hid (size_rep r)
 have DM:=Lib.hid (rep_mid r)
 have v0:r.v[0]? = some (.int .u8 r.c):=rfl
 have v1:r.v[1]? = some (.int .u32 r.t):=rfl
 have v5:r.v[5]? = some (.int .u64 r.x):=rfl
 have HZ:=fun W=>zero_row W
 have HP:=Lib.hid (fun (k:Nat) (h:k < 13)=>zrow_put h)
 have HL:=Lib.hid (fun (k:Nat) (h:k≤13)=>flat_len (zrow_len h))
 have hmf:∀ (fn:Fn) (first cap:Array Value) (w:World),(Instr.makeFunc fn first cap).run Tryz.prog w=.ok (.func fn first cap) w:=fun _ _ _ _=>rfl
 have wr_c:IntKind.u64.wrap r.c=r.c:=by have:=r.hc;rw [IntKind.wrap_u64];omega
 have wr_t:IntKind.u64.wrap r.t=r.t:=by have:=r.ht;rw [IntKind.wrap_u64];omega
 have wr_a:IntKind.u64.wrap r.a=r.a:=by have:=r.ha;rw [IntKind.wrap_u64];omega
 have wr_b:IntKind.u64.wrap r.b=r.b:=by have:=r.hb;rw [IntKind.wrap_u64];omega
 have wr_d:IntKind.u64.wrap r.d=r.d:=by have:=r.hd;rw [IntKind.wrap_u64];omega
 obtain ⟨f0,hf0⟩:∃ f,zrow 13=f:=⟨_,rfl⟩
 have n0:f0.length=13:=by rw [← hf0];rfl
 obtain ⟨f1,hf1⟩:∃ f,f0.set 0 (fdN 2 r.c)=f:=⟨_,rfl⟩
 have n1:f1.length=13:=by rw [← hf1,List.length_set,n0]
 have P0:=fun (W:World) (b:Nat) (h:Box W b (flatR LF f0))=>put_is n0 0 (by decide) 2 r.c (by decide) (k8 r.hc) W h
 rw [hf1] at P0
 obtain ⟨f2,hf2⟩:∃ f,f1.set 4 (fdN 4 r.t)=f:=⟨_,rfl⟩
 have n2:f2.length=13:=by rw [← hf2,List.length_set,n1]
 have P1:=fun (W:World) (b:Nat) (h:Box W b (flatR LF f1))=>put_is n1 4 (by decide) 4 r.t (by decide) (k32 r.ht) W h
 rw [hf2] at P1
 obtain ⟨f3,hf3⟩:∃ f,f2.set 5 (fdN 4 r.a)=f:=⟨_,rfl⟩
 have n3:f3.length=13:=by rw [← hf3,List.length_set,n2]
 have P2:=fun (W:World) (b:Nat) (h:Box W b (flatR LF f2))=>put_is n2 5 (by decide) 4 r.a (by decide) (k32 r.ha) W h
 rw [hf3] at P2
 obtain ⟨f4,hf4⟩:∃ f,f3.set 6 (fdN 4 r.b)=f:=⟨_,rfl⟩
 have n4:f4.length=13:=by rw [← hf4,List.length_set,n3]
 have P3:=fun (W:World) (b:Nat) (h:Box W b (flatR LF f3))=>put_is n3 6 (by decide) 4 r.b (by decide) (k32 r.hb) W h
 rw [hf4] at P3
 obtain ⟨f5,hf5⟩:∃ f,f4.set 7 (fdN 4 r.d)=f:=⟨_,rfl⟩
 have n5:f5.length=13:=by rw [← hf5,List.length_set,n4]
 have P4:=fun (W:World) (b:Nat) (h:Box W b (flatR LF f4))=>put_is n4 7 (by decide) 4 r.d (by decide) (k32 r.hd) W h
 rw [hf5] at P4
 obtain ⟨f6,hf6⟩:∃ f,f5.set 8 (fdN 5 r.x)=f:=⟨_,rfl⟩
 have n6:f6.length=13:=by rw [← hf6,List.length_set,n5]
 have P5:=fun (W:World) (b:Nat) (h:Box W b (flatR LF f5))=>put_is n5 8 (by decide) 5 r.x (by decide) r.hx W h
 rw [hf6] at P5
 have hrow:f6=r.row:=by rw [← hf6,← hf5,← hf4,← hf3,← hf2,← hf1,← hf0];rfl
 rw [← hrow]
 obtain ⟨R0,hR0⟩:∃ R,flatR LF f0=R:=⟨_,rfl⟩
 obtain ⟨R1,hR1⟩:∃ R,flatR LF f1=R:=⟨_,rfl⟩
 obtain ⟨R2,hR2⟩:∃ R,flatR LF f2=R:=⟨_,rfl⟩
 obtain ⟨R3,hR3⟩:∃ R,flatR LF f3=R:=⟨_,rfl⟩
 obtain ⟨R4,hR4⟩:∃ R,flatR LF f4=R:=⟨_,rfl⟩
 obtain ⟨R5,hR5⟩:∃ R,flatR LF f5=R:=⟨_,rfl⟩
 obtain ⟨R6,hR6⟩:∃ R,flatR LF f6=R:=⟨_,rfl⟩
 have SR:=Lib.hid (row_size n6);have OR:=Lib.hid (flat_one f6);have LR:Hid ((flatR LF (zrow 0)).length=(flatR LF f6).length):=Lib.hid (by rw [flat_len n6];rfl);have S0:=Lib.hid (row_size (xs:=zrow 0) rfl)
 rw [hR0,hR1] at P0
 rw [hR1,hR2] at P1
 rw [hR2,hR3] at P2
 rw [hR3,hR4] at P3
 rw [hR4,hR5] at P4
 rw [hR5,hR6] at P5
 rw [hR6] at SR OR LR ⊢
 have E13:Hid (flatR LF (zrow 13)=R0):=Lib.hid (by rw [hf0,hR0])
 have I0:∀ W:World,(Instr.index 48 (.agg #[.int .u32 r.a,.int .u32 r.b,.int .u32 r.d]) (.int .i64 0)).run Tryz.prog W=.ok (.int .u32 r.a) W:=fun W=>by kernel_rfl
 have I1:∀ W:World,(Instr.index 48 (.agg #[.int .u32 r.a,.int .u32 r.b,.int .u32 r.d]) (.int .i64 1)).run Tryz.prog W=.ok (.int .u32 r.b) W:=fun W=>by kernel_rfl
 have I2:∀ W:World,(Instr.index 48 (.agg #[.int .u32 r.a,.int .u32 r.b,.int .u32 r.d]) (.int .i64 2)).run Tryz.prog W=.ok (.int .u32 r.d) W:=fun W=>by kernel_rfl
 have SM:(Tryz.prog.info? 48).map (·.size)=some [Value.int .u32 r.a,Value.int .u32 r.b,Value.int .u32 r.d].length:=by kernel_rfl
 have SM:=Lib.hid SM
 clear hf0 hR0 n0 hf1 hR1 n1 hf2 hR2 n2 hf3 hR3 n3 hf4 hR4 n4 hf5 hR5 n5 hf6 hR6 n6 hrow
 obtain ⟨zc,hzc⟩:∃ z,r.c=z:=⟨_,rfl⟩
 obtain ⟨zt,hzt⟩:∃ z,r.t=z:=⟨_,rfl⟩
 obtain ⟨za,hza⟩:∃ z,r.a=z:=⟨_,rfl⟩
 obtain ⟨zb,hzb⟩:∃ z,r.b=z:=⟨_,rfl⟩
 obtain ⟨zd,hzd⟩:∃ z,r.d=z:=⟨_,rfl⟩
 obtain ⟨zx,hzx⟩:∃ z,r.x=z:=⟨_,rfl⟩
 rw [hzc] at v0 wr_c P0;rw [hzt] at v1 wr_t P1;rw [hza] at DM wr_a P2 I0 I1 I2 SM;rw [hzb] at DM wr_b P3 I0 I1 I2 SM;rw [hzd] at DM wr_d P4 I0 I1 I2 SM;rw [hzx] at v5 DM P5
 obtain ⟨V,hV⟩:∃ V,r.v=V:=⟨_,rfl⟩
 rw [hV] at SV v0 v1 v5 DM ⊢
 clear hV hzc hzt hza hzb hzd hzx
 obtain ⟨Z,hZ⟩:∃ Z,flatR LF (zrow 0)=Z:=⟨_,rfl⟩
 rw [hZ] at HZ LR S0
 have EZ:=Lib.hid hZ.symm
 clear hZ
 go_enter Tryz.func57,Tryz.ntmps57
 go_upto_region 1 with fail
 refine F_gen (F:=fun W=>Code.wp _ _ _ _ W) (J:=fun W=>Box W (w.heap.size) (V)∧Box W (w.heap.size + 1) (Z)∧Below w.heap.size w W) (And.intro (Box.alloc (Box.newc rfl rfl) _) (And.intro (Box.newc rfl (by simp)) (by go_grown))) ?_
 intro w0 ⟨e_r,e_q,hB0⟩
 have hs0:=hB0.size
 have x_r0:=e_r;clear e_r
 have x_q0:=e_q;clear e_q
 go_upto_region 2 with fail
 have hn0:Box (w0.alloc (.cells Z.toArray 118)) w0.heap.size Z:=Box.newc rfl rfl
 have hbn:Below w0.heap.size w0 (w0.alloc (.cells Z.toArray 118)):=(Below.refl _ _).alloc (Nat.le_refl _) _
 obtain ⟨w1,hw1⟩:∃ W,w0.alloc (.cells Z.toArray 118)=W:=⟨_,rfl⟩
 obtain ⟨b3,hb3⟩:∃ b,w0.heap.size=b:=⟨_,rfl⟩
 have lo3:w.heap.size + 1 < b3:=by rw [← hb3];exact (x_q0).lt
 rw [hw1,hb3] at hn0;rw [hw1] at hbn ⊢;rw [hb3]
 have hB1:Below w.heap.size w w1:=below_thru hB0 hbn
 have hs1:=hB1.size
 have x_r1:Box w1 (w.heap.size) (V):=Box.below x_r0 hbn
 have x_q1:Box w1 (w.heap.size + 1) (Z):=Box.below x_q0 hbn
 clear hB0 hs0 x_r0 x_q0
 clear hbn hw1 hb3
 have x_n1:Box w1 (b3) (Z):=hn0
 clear hn0
 go_wp2_with fail
 go_loopw [8] (fun s8 wr=>∃ k:Nat,s8=.int .i64 k∧k≤13∧Box wr w.heap.size V∧Box wr (w.heap.size + 1) Z∧Box wr b3 (flatR LF (zrow k))∧Below w.heap.size w wr) (fun s8 _=>13 - (intOf s8).toNat)
 case atStart=>exact ⟨0,rfl,by omega,x_r1,x_q1,by rw [← EZ.out];exact x_n1,hB1⟩
 case round =>
   clear x_r1 x_q1 x_n1 hB1 hs1
   obtain ⟨k,rfl,hk,hR,hQ,hN,hB⟩:=hrel
   have z1:=hR.lt;have z2:=hQ.lt;have z3:=hN.lt
   by_cases hlt:k < 13
   · have HS:=Lib.hid (HP.out k hlt)
     have HK:=Lib.hid (HL.out k hk)
     have i3:(k:Int) < 13:=by omega
     have i4:(0:Int)≤(k:Int):=by omega
     obtain ⟨A,hA⟩:∃ A,flatR LF (zrow k)=A:=⟨_,rfl⟩
     obtain ⟨A2,hA2⟩:∃ A,flatR LF (zrow (k + 1))=A:=⟨_,rfl⟩
     rw [hA] at hN HS HK
     rw [hA2] at HS
     have hU:=Lib.hid hA2.symm
     clear hA hA2
     go_wp2_with (refine wpList_store_cell (k:=k * 34) (ws:=A2) (v:=.int .u8 7) rfl _ _ _ rfl hN rfl rfl rfl rfl size_u8n (by rw [HK.out];omega) HS.out.symm ?_;intro S1 hS1)
     go_roundw
     case rel=>exact ⟨k + 1,by go_num,by omega,hS1.past _ _ (by omega) hR,hS1.past _ _ (by omega) hQ,by rw [← hU.out];exact hS1.box,hS1.below _ _ (by omega) hB⟩
     case measure=>simp [intOf];omega
   · skip
     obtain rfl:k=13:=by omega
     rw [E13.out] at hN
     clear hlt hk EZ HP HL E13 z1 z2 z3
     have x_r2:=hR;have x_q2:=hQ;have x_n2:=hN;have hB2:=hB;have hs2:=hB.size;clear hR hQ hN hB
     clear HZ
     have ca:=(x_r2).c 0 _ v0
     have za:=(x_r2).lt
     go_wp2_with fail
     refine (P0 _ _ x_n2).mono ?_
     rintro e p3 ⟨rfl,hS⟩
     have lr:=(x_r2).lt;have lq:=(x_q2).lt;have ln:=(x_n2).lt
     have x_r3:Box p3 w.heap.size V:=hS.past _ _ (by omega) x_r2;have x_q3:Box p3 (w.heap.size + 1) Z:=hS.past _ _ (by omega) x_q2;have x_n3:Box p3 b3 R1:=hS.box;have hB3:=hS.below _ _ (by omega) hB2;have hs3:=hB3.size
     clear hS lr lq ln x_r2 x_q2 x_n2 hB2 hs2 P0
     clear ca za
     have ca:=(x_r3).c 1 _ v1
     have za:=(x_r3).lt
     go_wp2_with fail
     refine (P1 _ _ x_n3).mono ?_
     rintro e p4 ⟨rfl,hS⟩
     have lr:=(x_r3).lt;have lq:=(x_q3).lt;have ln:=(x_n3).lt
     have x_r4:Box p4 w.heap.size V:=hS.past _ _ (by omega) x_r3;have x_q4:Box p4 (w.heap.size + 1) Z:=hS.past _ _ (by omega) x_q3;have x_n4:Box p4 b3 R2:=hS.box;have hB4:=hS.below _ _ (by omega) hB3;have hs4:=hB4.size
     clear hS lr lq ln x_r3 x_q3 x_n3 hB3 hs3 P1
     clear ca za
     go_upto_region 11 with (refine wpList_load_rangew rfl _ _ rfl (Box.rangeMid x_r4 2 ([.int .u32 za,.int .u32 zb,.int .u32 zd]) (_) DM.out) rfl Tryz.underlying48 rfl SM.out ?_)
     refine wp_loop_rounds 5 ?_
     rw [rounds_succ]
     go_wp2_with fail
     refine (P2 _ _ x_n4).mono ?_
     rintro e p5 ⟨rfl,hS⟩
     have lr:=(x_r4).lt;have lq:=(x_q4).lt;have ln:=(x_n4).lt
     have x_r5:Box p5 w.heap.size V:=hS.past _ _ (by omega) x_r4;have x_q5:Box p5 (w.heap.size + 1) Z:=hS.past _ _ (by omega) x_q4;have x_n5:Box p5 b3 R3:=hS.box;have hB5:=hS.below _ _ (by omega) hB4;have hs5:=hB5.size
     clear hS lr lq ln x_r4 x_q4 x_n4 hB4 hs4 P2
     go_wp2_with fail
     rw [rounds_succ]
     go_wp2_with fail
     refine (P3 _ _ x_n5).mono ?_
     rintro e p6 ⟨rfl,hS⟩
     have lr:=(x_r5).lt;have lq:=(x_q5).lt;have ln:=(x_n5).lt
     have x_r6:Box p6 w.heap.size V:=hS.past _ _ (by omega) x_r5;have x_q6:Box p6 (w.heap.size + 1) Z:=hS.past _ _ (by omega) x_q5;have x_n6:Box p6 b3 R4:=hS.box;have hB6:=hS.below _ _ (by omega) hB5;have hs6:=hB6.size
     clear hS lr lq ln x_r5 x_q5 x_n5 hB5 hs5 P3
     go_wp2_with fail
     rw [rounds_succ]
     go_wp2_with fail
     refine (P4 _ _ x_n6).mono ?_
     rintro e p7 ⟨rfl,hS⟩
     have lr:=(x_r6).lt;have lq:=(x_q6).lt;have ln:=(x_n6).lt
     have x_r7:Box p7 w.heap.size V:=hS.past _ _ (by omega) x_r6;have x_q7:Box p7 (w.heap.size + 1) Z:=hS.past _ _ (by omega) x_q6;have x_n7:Box p7 b3 R5:=hS.box;have hB7:=hS.below _ _ (by omega) hB6;have hs7:=hB7.size
     clear hS lr lq ln x_r6 x_q6 x_n6 hB6 hs6 P4
     go_wp2_with fail
     rw [rounds_succ]
     have ca:=(x_r7).c 5 _ v5
     have za:=(x_r7).lt
     go_wp2_with fail
     refine (P5 _ _ x_n7).mono ?_
     rintro e p8 ⟨rfl,hS⟩
     have lr:=(x_r7).lt;have lq:=(x_q7).lt;have ln:=(x_n7).lt
     have x_r8:Box p8 w.heap.size V:=hS.past _ _ (by omega) x_r7;have x_q8:Box p8 (w.heap.size + 1) Z:=hS.past _ _ (by omega) x_q7;have x_n8:Box p8 b3 R6:=hS.box;have hB8:=hS.below _ _ (by omega) hB7;have hs8:=hB8.size
     clear hS lr lq ln x_r7 x_q7 x_n7 hB7 hs7 P5
     clear ca za
     have lq:=(x_q8).lt
     go_wp2_with (first | (refine wpList_load_box9 rfl _ _ rfl x_n8 rfl Tryz.underlying118 rfl SR.out ?_) | (refine wpList_store_box (cs:=R6) rfl _ _ _ rfl x_q8 rfl rfl SR.out LR.out OR.out ?_;intro W9 hW9))
     exact bodyPost_ret (results_box Tryz.results57 hW9.box rfl Tryz.underlying118 rfl SR.out) rfl ⟨rfl,hW9.below _ _ (by omega) hB8⟩
end Go.Proofs.YtnfejdfjlnpldaaGreatDoor
namespace Go.Proofs.YtnfejdfjlnpldaaGreatDoor
open Go.RowKit
def krow (k:Nat):List Int:=kinP.take k ++ List.replicate (13 - k) 0
theorem krow_len {k:Nat} (h:k≤13):(krow k).length=13:=by unfold krow;simp [kinP];omega
theorem krow_succ {k:Nat} (h:k < 13):(krow k).set k (nth kinP k)=krow (k + 1):=by
 have:k=0∨k=1∨k=2∨k=3∨k=4∨k=5∨k=6∨k=7∨k=8∨k=9∨k=10∨k=11∨k=12:=by omega
 rcases this with q | q | q | q | q | q | q | q | q | q | q | q | q <;> subst q <;> rfl
theorem row_at (r:Rep) {k:Nat} (h:k < 13):∃ f,r.row[k]? = some f∧f.k=nth kinP k:=by
 have hl:k < r.row.length:=h
 refine ⟨r.row[k],List.getElem?_eq_getElem hl,?_⟩
 have e:(r.row.map Fd.k)[k]? = some (r.row[k].k):=by rw [List.getElem?_map,List.getElem?_eq_getElem hl];rfl
 rw [r.row_k] at e
 unfold nth
 rw [List.getD_eq_getElem?_getD,e]
 rfl
theorem kin_size {xs:List Int} (h:xs.length=13):(Tryz.prog.info? 74).map (·.size)=some (xs.map (Value.int .u8)).length:=by
 rw [List.length_map,h]
 kernel_rfl
set_option maxRecDepth 100000 in
set_option maxHeartbeats 6400000 in
theorem kinds_is (w:World):Calls Tryz.prog 24 #[] w fun e w'=>e=.returned (.agg (kinP.map (Value.int .u8)).toArray)∧Below w.heap.size w w':=by
 have CR:=fun W=>rowof_is Rep.zero W
 have BR:=fun W=>build_rz W
 have HI:=Lib.hid (fun (k:Nat) (f:Fd) (h:Rep.zero.row[k]? = some f) (W:World)=>index_row (xs:=Rep.zero.row) rfl h W)
 have HK:=Lib.hid (fun (k:Nat) (h:k < 13)=>krow_succ h)
 have HL:=Lib.hid (fun (k:Nat) (h:k≤13)=>krow_len h)
 have S0:=Lib.hid (kin_size (xs:=krow 0) rfl)
 have SK:=Lib.hid (kin_size (xs:=kinP) rfl)
 have OK:=Lib.hid (oneCell_ints (k:=.u8) kinP)
 have LK:Hid (((krow 0).map (Value.int .u8)).length=(kinP.map (Value.int .u8)).length):=Lib.hid rfl
 have E13:Hid (krow 13=kinP):=Lib.hid rfl
 obtain ⟨U,hU⟩:∃ U,Rep.zero.v=U:=⟨_,rfl⟩
 obtain ⟨F,hF⟩:∃ U,flatR LF Rep.zero.row=U:=⟨_,rfl⟩
 rw [hU] at CR BR
 rw [hF] at CR HI
 clear hU hF
 go_enter Tryz.func24,Tryz.ntmps24
 go_upto_region 2 with fail
 refine F_gen (F:=fun W=>Code.wp _ _ _ _ W) (J:=fun W=>Box W (w.heap.size) ((krow 0).map (Value.int .u8))∧Box W (w.heap.size + 1) ((krow 0).map (Value.int .u8))∧Below w.heap.size w W) (And.intro (Box.alloc (Box.newc rfl rfl) _) (And.intro (Box.newc rfl (by simp)) (by go_grown))) ?_
 intro w0 ⟨e_q,e_n,hB0⟩
 have hs0:=hB0.size
 have x_q0:=e_q;clear e_q
 have x_n0:=e_n;clear e_n
 go_wp2_with (refine wpList_build9 rfl 50 _ rfl (us:=#[]) (by rfl) (BR _) ?_)
 refine (CR _).mono ?_
 rintro e w1 ⟨rfl,hb⟩
 clear CR BR
 have hB1:Below w.heap.size w w1:=below_thru hB0 hb
 have hs1:=hB1.size
 have x_q1:Box w1 (w.heap.size) ((krow 0).map (Value.int .u8)):=Box.below x_q0 hb
 have x_n1:Box w1 (w.heap.size + 1) ((krow 0).map (Value.int .u8)):=Box.below x_n0 hb
 clear hB0 hs0 x_q0 x_n0
 clear hb
 go_wp2_with fail
 go_loopw [6] (fun s6 wr=>∃ k:Nat,s6=.int .i64 k∧k≤13∧Box wr w.heap.size ((krow 0).map (Value.int .u8))∧Box wr (w.heap.size + 1) ((krow k).map (Value.int .u8))∧Below w.heap.size w wr) (fun s6 _=>13 - (intOf s6).toNat)
 case atStart=>exact ⟨0,rfl,by omega,x_q1,x_n1,hB1⟩
 case round =>
   clear x_q1 x_n1 hB1 hs1
   obtain ⟨k,rfl,hk,hQ,hN,hB⟩:=hrel
   have z2:=hQ.lt;have z3:=hN.lt;have hs:=hB.size
   by_cases hlt:k < 13
   · obtain ⟨f,hf,hfk⟩:=row_at Rep.zero hlt
     have I0:=fun W=>HI.out k f hf W
     have HS:=HK.out k hlt
     rw [← hfk] at HS
     have HSM:((krow k).map (Value.int .u8)).set k (.int .u8 f.k)=(krow (k + 1)).map (Value.int .u8):=by rw [← HS,List.map_set]
     have HSH:=Lib.hid HSM
     have LKK:Hid (((krow k).map (Value.int .u8)).length=13):=Lib.hid (by rw [List.length_map];exact HL.out k hk)
     have hS:=Lib.hid (lenFld f);have h1:=Lib.hid (oneFld f);have hz:Hid (Fd.zero.v.length=f.v.length):=Lib.hid (by rw [f.v_len,Fd.v_len])
     have v0:f.v[0]? = some (.int .u8 f.k):=rfl
     obtain ⟨V,hV⟩:∃ V,f.v=V:=⟨_,rfl⟩
     rw [hV] at I0 hS h1 hz v0
     obtain ⟨K,hKK⟩:∃ K,f.k=K:=⟨_,rfl⟩
     rw [hKK] at v0 HSH
     obtain ⟨A,hA⟩:∃ A,(krow k).map (Value.int .u8)=A:=⟨_,rfl⟩
     obtain ⟨A2,hA2⟩:∃ A,(krow (k + 1)).map (Value.int .u8)=A:=⟨_,rfl⟩
     rw [hA] at hN HSH LKK
     rw [hA2] at HSH
     have hU:=Lib.hid hA2.symm
     have i3:(k:Int) < 13:=by omega
     have i4:(0:Int)≤(k:Int):=by omega
     clear hf hfk HS HSM hV hKK hA hA2
     go_upto_region 5 with (refine wpList_store_box (cs:=V) rfl _ _ _ rfl (Box.newc (l:=Fd.zero.v) rfl rfl) rfl rfl hS.out hz.out h1.out ?_;intro W1 hW1)
     have hQ1:Box W1 w.heap.size ((krow 0).map (Value.int .u8)):=hW1.past _ _ (by omega) (Box.alloc hQ _)
     have hN1:Box W1 (w.heap.size + 1) A:=hW1.past _ _ (by omega) (Box.alloc hN _)
     have hB1:=hW1.below _ _ (by omega) (hB.alloc hs (.cells Fd.zero.v.toArray 88))
     have hF1:=hW1.box
     have c0:=hF1.c 0 _ v0
     have z4:=hF1.lt
     clear hW1 hQ hN hB
     go_wp2_with (refine wpList_store_cell (k:=k) (ws:=A2) (v:=.int .u8 K) rfl _ _ _ rfl hN1 rfl rfl rfl rfl size_u8n (by rw [LKK.out];omega) HSH.out.symm ?_;intro S1 hS1)
     go_roundw
     case rel=>exact ⟨k + 1,by go_num,by omega,hS1.past _ _ (by omega) hQ1,by rw [← hU.out];exact hS1.box,hS1.below _ _ (by omega) hB1⟩
     case measure=>simp [intOf];omega
   · skip
     obtain rfl:k=13:=by omega
     rw [E13.out] at hN
     clear hlt hk HK HL E13 HI
     have x_q2:=hQ;have x_n2:=hN;have hB2:=hB;have hs2:=hs;clear hQ hN hB hs
     go_wp2_with (first | (refine wpList_load_box9 rfl _ _ rfl x_n2 rfl Tryz.underlying74 rfl SK.out ?_) | (refine wpList_store_box (cs:=kinP.map (Value.int .u8)) rfl _ _ _ rfl x_q2 rfl rfl SK.out LK.out OK.out ?_;intro W9 hW9))
     exact bodyPost_ret (results_box Tryz.results24 hW9.box rfl Tryz.underlying74 rfl SK.out) rfl ⟨rfl,hW9.below _ _ (by omega) hB2⟩
end Go.Proofs.YtnfejdfjlnpldaaGreatDoor
namespace Go.Proofs.YtnfejdfjlnpldaaGreatDoor
open Go.RowKit
set_option maxRecDepth 100000 in
set_option maxHeartbeats 6400000 in
theorem par_n {bs:List Int} (hb:Byts bs) (he:reaE kinP bs=12) (hf:reaF kinP bs=[]) {v:Value} (w:World) (h1:IsL w .u8 v bs):Calls Tryz.prog 9 #[v] w fun e w'=>e=.returned (.tuple #[.agg Rep.zero.v.toArray,.int .i64 12])∧Below w.heap.size w w':=by
 obtain ⟨a0,c0,rfl,hr,_⟩:=id h1
 have i1:=hr.room
 have i2:=hr.most
 clear hr
 have CK:=fun W=>kinds_is W
 have RD:=fun (W:World) (a b:Value) (h1:IsL W .u8 a kinP) (h2:IsL W .u8 b bs)=>read_is W h1 h2 kinP_byts hb
 rw [he,hf] at RD
 have SK:=Lib.hid (kin_size (xs:=kinP) rfl);have OK:=Lib.hid (oneCell_ints (k:=.u8) kinP);have LK:Hid (((krow 0).map (Value.int .u8)).length=(kinP.map (Value.int .u8)).length):=Lib.hid rfl
 have SZ:=Lib.hid (size_rep Rep.zero);have OZ:=Lib.hid (one_rep Rep.zero);have BZ:=fun W=>build_rz W
 have HV:=Lib.hid h1
 clear h1 he hf hb
 obtain ⟨KV,hKV⟩:∃ X,kinP.map (Value.int .u8)=X:=⟨_,rfl⟩
 have HKV:=Lib.hid hKV
 rw [hKV] at CK SK OK LK
 clear hKV
 go_enter Tryz.func9,Tryz.ntmps9
 go_upto_region 1 with fail
 refine F_gen (F:=fun W=>Code.wp _ _ _ _ W) (J:=fun W=>Box W (w.heap.size) (Rep.zero.v)∧Below w.heap.size w W) (And.intro (Box.newc rfl rfl) (by go_grown)) ?_
 intro w0 ⟨e_r,hB0⟩
 have hs0:=hB0.size
 have x_r0:=e_r;clear e_r
 go_wp2_with fail
 refine (CK _).mono ?_
 rintro e w1 ⟨rfl,hb⟩
 have hB1:Below w.heap.size w w1:=below_thru hB0 hb
 have hs1:=hB1.size
 have x_r1:Box w1 (w.heap.size) (Rep.zero.v):=Box.below x_r0 hb
 clear hB0 hs0 x_r0
 clear hb
 have d_k_r:=(x_r1).lt
 have d_k_0:=hs1
 go_upto_region 2 with (refine wpList_store_box (cs:=KV) rfl _ _ _ rfl (Box.newc (l:=(krow 0).map (Value.int .u8)) rfl rfl) rfl rfl SK.out LK.out OK.out ?_;intro W1_0 hW1_0)
 have hN:Below w1.heap.size w1 W1_0:=(hW1_0.below _ _ (by omega) ((Below.refl _ w1).alloc (Nat.le_refl _) _))
 have x_k2:Box W1_0 (w1.heap.size) (KV):=hW1_0.box
 have hB2:Below w.heap.size w W1_0:=below_thru hB1 hN
 have hs2:=hB2.size
 have x_r2:Box W1_0 (w.heap.size) (Rep.zero.v):=Box.below x_r1 hN
 clear hB1 hs1 x_r1
 clear hN hW1_0
 have HI:IsL W1_0 .u8 (.slice (some ⟨w1.heap.size,0,none⟩) 13 13) kinP:=IsL.boxed 13 rfl (by rw [HKV.out];exact x_k2) (by decide)
 go_wp2_with fail
 refine (RD _ _ _ HI (HV.out.below hB2)).mono ?_
 rintro e w4 ⟨vr,rfl,ho,hb⟩
 clear HI RD
 clear x_k2
 clear ho
 have hB3:Below w.heap.size w w4:=below_thru hB2 hb
 have hs3:=hB3.size
 have x_r3:Box w4 (w.heap.size) (Rep.zero.v):=Box.below x_r2 hb
 clear hB2 hs2 x_r2
 clear hb
 have lq:=(x_r3).lt
 go_wp2_with (first | (refine wpList_build9 rfl 50 _ rfl (us:=#[]) (by rfl) (BZ _) ?_) | (refine wpList_store_box (cs:=Rep.zero.v) rfl _ _ _ rfl x_r3 rfl rfl SZ.out (len_rep Rep.zero Rep.zero) OZ.out ?_;intro W99 hW99))
 exact bodyPost_ret (results_box2 Tryz.results9 hW99.box rfl rfl Tryz.underlying50 rfl SZ.out) rfl ⟨rfl,hW99.below _ _ (by omega) hB3⟩
def CodeOf (n:Int) (G:Rep) (q:Int):Prop:=(q=0∧Sole n∧∃ h,G=Rep.lone n h)∨(q=2∧¬ Sole n∧G=Rep.zero)
theorem CodeOf.uniq {n:Int} {G H:Rep} {p q:Int} (h1:CodeOf n G p) (h2:CodeOf n H q):G=H∧p=q:=by
 rcases h1 with ⟨rfl,h1,_,rfl⟩ | ⟨rfl,h1,rfl⟩ <;> rcases h2 with ⟨rfl,h2,_,rfl⟩ | ⟨rfl,h2,rfl⟩
 · exact ⟨rfl,rfl⟩
 · exact absurd h1 h2
 · exact absurd h2 h1
 · exact ⟨rfl,rfl⟩
end Go.Proofs.YtnfejdfjlnpldaaGreatDoor
