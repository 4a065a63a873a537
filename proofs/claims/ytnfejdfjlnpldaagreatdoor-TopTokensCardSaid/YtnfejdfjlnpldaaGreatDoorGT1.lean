import Derived.Test.YtnfejdfjlnpldaaGreatDoorGF2
import Derived.Test.YtnfejdfjlnpldaaGreatDoorGB1
set_option maxHeartbeats 3200000
set_option maxRecDepth 100000
namespace Go.Proofs.YtnfejdfjlnpldaaGreatDoor
open Go.ChangeShapes Go.WideShapes Go.ChangeAt Go.RowKit Go.Joins
structure Nums where
 t:Int
 u:Int
 e:Int
 x:Int
 ht:0≤t∧t≤4294967295
 hu:0≤u∧u≤4294967295
 he:0≤e∧e≤4294967295
 hx:0≤x∧x≤18446744073709551615
theorem Nums.ext' {k l:Nums} (h1:k.t=l.t) (h2:k.u=l.u) (h3:k.e=l.e) (h4:k.x=l.x):k=l:=by
 cases k;cases l;simp_all
def Nums.msg (k:Nums):List Int:=be 4 k.t ++ (be 4 k.u ++ (be 4 k.e ++ be 8 k.x))
theorem Nums.msg_len (k:Nums):k.msg.length=20:=by unfold Nums.msg;simp [be_len]
theorem Nums.msg_byts (k:Nums):Byts k.msg:=(be_byts 4 _).append ((be_byts 4 _).append ((be_byts 4 _).append (be_byts 8 _)))
theorem Nums.msg_inj {k l:Nums} (h:k.msg=l.msg):k=l:=by
 unfold Nums.msg at h
 obtain ⟨h1,h⟩:=List.append_inj h (by rw [be_len,be_len])
 obtain ⟨h2,h⟩:=List.append_inj h (by rw [be_len,be_len])
 obtain ⟨h3,h4⟩:=List.append_inj h (by rw [be_len,be_len])
 have n4:∀ {a b:Int},0≤a∧a≤4294967295→0≤b∧b≤4294967295→be 4 a=be 4 b→a=b:=fun {a b} ha hb q=>by
   have:=congrArg num q
   rwa [num_be 4 a ha.1 (by show a < 4294967296;omega),num_be 4 b hb.1 (by show b < 4294967296;omega)] at this
 have n8:∀ {a b:Int},0≤a∧a≤18446744073709551615→0≤b∧b≤18446744073709551615→be 8 a=be 8 b→a=b:=fun {a b} ha hb q=>by
   have:=congrArg num q
   rwa [num_be 8 a ha.1 (by show a < 18446744073709551616;omega),num_be 8 b hb.1 (by show b < 18446744073709551616;omega)] at this
 exact Nums.ext' (n4 k.ht l.ht h1) (n4 k.hu l.hu h2) (n4 k.he l.he h3) (n8 k.hx l.hx h4)
theorem Nums.of_bytes {bs:List Int} (hl:bs.length=20) (hb:Byts bs):∃ k:Nums,k.msg=bs∧k.t=Go.Proofs.YtnfejdfjlnpldaaGreatDoor.num (bs.take 4)∧k.u=Go.Proofs.YtnfejdfjlnpldaaGreatDoor.num ((bs.take 8).drop 4)∧k.e=Go.Proofs.YtnfejdfjlnpldaaGreatDoor.num ((bs.take 12).drop 8)∧k.x=Go.Proofs.YtnfejdfjlnpldaaGreatDoor.num ((bs.take 20).drop 12):=by
 have l1:(bs.take 4).length=4:=by rw [List.length_take];omega
 have l2:((bs.take 8).drop 4).length=4:=by rw [List.length_drop,List.length_take];omega
 have l3:((bs.take 12).drop 8).length=4:=by rw [List.length_drop,List.length_take];omega
 have l4:((bs.take 20).drop 12).length=8:=by rw [List.length_drop,List.length_take];omega
 have b1:=num_bound 4 _ l1 (hb.take 4)
 have b2:=num_bound 4 _ l2 ((hb.take 8).drop 4)
 have b3:=num_bound 4 _ l3 ((hb.take 12).drop 8)
 have b4:=num_bound 8 _ l4 ((hb.take 20).drop 12)
 have p4:(256:Int) ^ 4=4294967296:=by decide
 have p8:(256:Int) ^ 8=18446744073709551616:=by decide
 rw [p4] at b1 b2 b3
 rw [p8] at b4
 refine ⟨⟨num (bs.take 4),num ((bs.take 8).drop 4),num ((bs.take 12).drop 8),num ((bs.take 20).drop 12),by omega,by omega,by omega,by omega⟩,?_,rfl,rfl,rfl,rfl⟩
 unfold Nums.msg
 show be 4 (num (bs.take 4)) ++ (be 4 (num ((bs.take 8).drop 4)) ++ (be 4 (num ((bs.take 12).drop 8)) ++ be 8 (num ((bs.take 20).drop 12))))=bs
 rw [be_num 4 _ l1 (hb.take 4),be_num 4 _ l2 ((hb.take 8).drop 4),be_num 4 _ l3 ((hb.take 12).drop 8),be_num 8 _ l4 ((hb.take 20).drop 12)]
 have e3:(bs.take 12).drop 8 ++ (bs.take 20).drop 12=(bs.take 20).drop 8:=by
   conv=>rhs;rw [← List.take_append_drop 4 ((bs.take 20).drop 8)]
   rw [List.drop_drop,List.take_drop,List.take_take]
   rfl
 have e2:(bs.take 8).drop 4 ++ (bs.take 20).drop 8=(bs.take 20).drop 4:=by
   conv=>rhs;rw [← List.take_append_drop 4 ((bs.take 20).drop 4)]
   rw [List.drop_drop,List.take_drop,List.take_take]
   rfl
 have e1:bs.take 20=bs:=List.take_of_length_le (by omega)
 rw [e3,e2,e1,List.take_append_drop]
def Nums.row (k:Nums):List Fd:=[.num 4 k.t (by decide) ⟨k.ht.1,by have:=k.ht.2;omega⟩,.num 4 k.u (by decide) ⟨k.hu.1,by have:=k.hu.2;omega⟩,.num 4 k.e (by decide) ⟨k.he.1,by have:=k.he.2;omega⟩,.num 5 k.x (by decide) k.hx]
theorem Nums.row_b (k:Nums):rowB k.row=k.msg:=by
 show be 4 k.t ++ (be 4 k.u ++ (be 4 k.e ++ (be 8 k.x ++ [])))=_
 rw [List.append_nil]
 rfl
theorem num_ok {k n:Int} (hk:0≤k∧k≤255) (hn:0≤n∧n≤18446744073709551615) (hw:wid k ≠ 0) (hg:n≤gre k):(Fd.num k n hk hn).ok=true:=by
 show (decide (wid k ≠ 0) && decide (n≤gre k) && (decide (k=6) || decide (zeroD=zeroD)))=true
 rw [decide_eq_true hw,decide_eq_true hg]
 simp
theorem Nums.row_e (k:Nums):rowE k.row=0:=rowE_ok (by show 4≤40;decide) (fun f hf=>by
 unfold Nums.row at hf
 simp only [List.mem_cons,List.not_mem_nil,or_false] at hf
 rcases hf with rfl | rfl | rfl | rfl
 · exact num_ok _ _ (by decide) k.ht.2
 · exact num_ok _ _ (by decide) k.hu.2
 · exact num_ok _ _ (by decide) k.he.2
 · exact num_ok _ _ (by decide) k.hx.2)
theorem Nums.row_k (k:Nums):k.row.map Fd.k=[4,4,4,5]:=rfl
theorem rea_of {fs:List Fd} (h:rowE fs=0):reaE (fs.map Fd.k) (rowB fs)=0∧reaF (fs.map Fd.k) (rowB fs)=fs:=by
 obtain ⟨hl,ho⟩:=rowE_zero h
 have hk:kinE (fs.map Fd.k)=0:=kinE_ok (by rw [List.length_map];exact hl) (fun k hk=>by
   obtain ⟨f,hf,rfl⟩:=List.mem_map.1 hk
   have:=ho f hf
   unfold Fd.ok at this
   simp only [Bool.and_eq_true,decide_eq_true_eq] at this
   exact this.1.1)
 obtain ⟨e1,e2,e3⟩:=fir_some hk (show Rd (fs.map Fd.k) (rowB fs) fs [] from ⟨rfl,ho,List.append_nil _⟩)
 have e4:reaE (fs.map Fd.k) (rowB fs)=0:=by unfold reaE;rw [e1,e3];rfl
 exact ⟨e4,by unfold reaF;rw [e4,if_pos rfl,e2]⟩
theorem Nums.rea (k:Nums):reaE [4,4,4,5] k.msg=0∧reaF [4,4,4,5] k.msg=k.row:=by
 have:=rea_of k.row_e
 rwa [k.row_k,k.row_b] at this
def tcell (k:Nums) (g:List Int):List Value:=.int .u32 k.t :: .int .u32 k.u :: .int .u32 k.e :: .int .u64 k.x :: g.map (Value.int .u8)
theorem tcell_len (k:Nums) {g:List Int} (h:g.length=32):(tcell k g).length=36:=by simp [tcell,h]
theorem tcell_one (k:Nums) (g:List Int):(tcell k g).toArray.all (·.oneCell')=true:=all_oneCell_toArray (fun u hu=>by
 simp [tcell] at hu
 rcases hu with rfl | rfl | rfl | rfl | ⟨y,_,rfl⟩ <;> rfl)
theorem tcell_drop (k:Nums) (g:List Int):(tcell k g).drop 4=g.map (Value.int .u8):=rfl
theorem u8_inj:∀ {xs ys:List Int},xs.map (Value.int .u8)=ys.map (Value.int .u8)→xs=ys
 | [],[],_=>rfl
 | [],_ :: _,h=>by cases h
 | _ :: _,[],h=>by cases h
 | x :: xs,y :: ys,h=>by simp at h;rw [h.1,u8_inj (xs:=xs) (ys:=ys) (by simpa using h.2)]
theorem tcell_inj {k l:Nums} {g h:List Int} (q:tcell k g=tcell l h):k=l∧g=h:=by
 unfold tcell at q
 simp only [List.cons.injEq,Value.int.injEq,true_and] at q
 exact ⟨Nums.ext' q.1 q.2.1 q.2.2.1 q.2.2.2.1,u8_inj q.2.2.2.2⟩
def Nums.zero:Nums:=⟨0,0,0,0,by decide,by decide,by decide,by decide⟩
theorem sizeTok:(Tryz.prog.info? 27).map (·.size)=some 36:=by kernel_rfl
theorem size_tok (k:Nums) {g:List Int} (h:g.length=32):(Tryz.prog.info? 27).map (·.size)=some (tcell k g).length:=by rw [sizeTok,tcell_len k h]
theorem len_tok (k l:Nums) {g h:List Int} (hg:g.length=32) (hh:h.length=32):(tcell k g).length=(tcell l h).length:=by rw [tcell_len k hg,tcell_len l hh]
end Go.Proofs.YtnfejdfjlnpldaaGreatDoor
namespace Go.Proofs.YtnfejdfjlnpldaaGreatDoor
open Go.RowKit
def eqT (k l:Nums) (g h:List Int):Bool:=(k.t == l.t) && ((k.u == l.u) && ((k.e == l.e) && ((k.x == l.x) && decide (g=h))))
theorem eqT_iff {k l:Nums} {g h:List Int}:eqT k l g h=true↔k=l∧g=h:=by
 unfold eqT
 simp only [Bool.and_eq_true,beq_iff_eq,decide_eq_true_eq]
 constructor
 · intro ⟨h1,h2,h3,h4,h5⟩
   exact ⟨Nums.ext' h1 h2 h3 h4,h5⟩
 · intro ⟨h1,h2⟩
   rw [h1,h2]
   exact ⟨rfl,rfl,rfl,rfl,rfl⟩
theorem noStoodT:Tryz.prog.stoodInHeld 27=false:=by kernel_rfl
theorem partT_0 (k:Nums) (g:List Int) (W:World):(Go.part 24 (tcell k g).toArray 0).run Tryz.prog W=.ok (.int .u32 k.t) W:=by
 unfold Go.part
 simp [Sem.run_bind,tcell]
theorem partT_1 (k:Nums) (g:List Int) (W:World):(Go.part 24 (tcell k g).toArray 1).run Tryz.prog W=.ok (.int .u32 k.u) W:=by
 unfold Go.part
 simp [Sem.run_bind,tcell]
theorem partT_2 (k:Nums) (g:List Int) (W:World):(Go.part 24 (tcell k g).toArray 2).run Tryz.prog W=.ok (.int .u32 k.e) W:=by
 unfold Go.part
 simp [Sem.run_bind,tcell]
theorem partT_3 (k:Nums) (g:List Int) (W:World):(Go.part 25 (tcell k g).toArray 3).run Tryz.prog W=.ok (.int .u64 k.x) W:=by
 unfold Go.part
 simp [Sem.run_bind,tcell]
set_option maxRecDepth 100000 in
theorem partT_4 (k:Nums) {g:List Int} (hg:g.length=32) (W:World):(Go.part 23 (tcell k g).toArray 4).run Tryz.prog W=.ok (.agg (g.map (Value.int .u8)).toArray) W:=by
 unfold Go.part
 simp [Sem.run_bind,tcell]
 rw [List.take_of_length_le (by simp [hg])]
set_option maxRecDepth 100000 in
theorem eqF_cons {P:Program} {w:World} {d:Nat} {xs ys:Array Value} {f:Field} {fs:List Field} {a b:Value} {r:Bool} (hn:f.name ≠ "_") (ha:(Go.part f.type xs f.offset).run P w=.ok a w) (hb:(Go.part f.type ys f.offset).run P w=.ok b w)
   (hr:(Op.equalIn d f.type a b).run P w=.ok r w):(Op.eqFields d xs ys (f :: fs)).run P w=if r=true then (Op.eqFields d xs ys fs).run P w else .ok false w:=by
 rw [Op.eqFields,if_pos hn]
 simp only [Sem.run_bind,ha,hb,hr,Result.andThen_ok]
 cases r
 · rfl
 · rfl
theorem and_run {w:World} {r s:Bool} {x:Result Bool} (h:x=.ok s w):(if r=true then x else .ok false w)=.ok (r && s) w:=by
 cases r
 · rfl
 · exact h
set_option maxRecDepth 100000 in
theorem eq_tok (k l:Nums) {g h:List Int} (hg:g.length=32) (hh:h.length=32) (W:World):(Op.equalIn 10000 27 (.agg (tcell k g).toArray) (.agg (tcell l h).toArray)).run Tryz.prog W=.ok (eqT k l g h) W:=by
 rw [show (10000:Nat)=9999 + 1 from rfl,run_equalIn_struct W 9999 27 _ _ Tryz.underlying27 noStoodT]
 have E:=eq_ints (P:=Tryz.prog) W 9997 Tryz.underlying23 Tryz.underlying5 size_u8' g h hg hh
 have A0:=run_equalIn_int (P:=Tryz.prog) W 9998 24 .u32 .u32 k.t l.t Tryz.underlying24
 have A1:=run_equalIn_int (P:=Tryz.prog) W 9998 24 .u32 .u32 k.u l.u Tryz.underlying24
 have A2:=run_equalIn_int (P:=Tryz.prog) W 9998 24 .u32 .u32 k.e l.e Tryz.underlying24
 have A3:=run_equalIn_int (P:=Tryz.prog) W 9998 25 .u64 .u64 k.x l.x Tryz.underlying25
 have D1:=partT_4 k hg W
 have D2:=partT_4 l hh W
 simp only [Program.fieldsOf,Tryz.underlying27]
 unfold eqT
 refine (eqF_cons (by decide) (partT_0 k g W) (partT_0 l h W) A0).trans (and_run ?_)
 refine (eqF_cons (by decide) (partT_1 k g W) (partT_1 l h W) A1).trans (and_run ?_)
 refine (eqF_cons (by decide) (partT_2 k g W) (partT_2 l h W) A2).trans (and_run ?_)
 refine (eqF_cons (by decide) (partT_3 k g W) (partT_3 l h W) A3).trans (and_run ?_)
 refine (eqF_cons (by decide) D1 D2 E).trans ?_
 cases decide (g=h)
 · rfl
 · rfl
theorem eq_tok_self (k:Nums) {g:List Int} (hg:g.length=32) (W:World):(Op.equalIn 10000 27 (.agg (tcell k g).toArray) (.agg (tcell k g).toArray)).run Tryz.prog W=.ok true W:=by
 rw [eq_tok k k hg hg,eqT_iff.2 ⟨rfl,rfl⟩]
end Go.Proofs.YtnfejdfjlnpldaaGreatDoor
namespace Go.Proofs.YtnfejdfjlnpldaaGreatDoor
open Go.RowKit
section
variable {P:Program} {ops:Array Oper} {o:Oper} {a:Act} {w:World} {K:Act→World→Prop} {Q:Exit→Act→World→Prop} {E:Prop}
theorem step_bsliceH (d:Nat) (hd:o.dst=some d) (hgd:o.guard=none) (t:TypeId) (n:Nat) (xs:Array (Nat × Operand)) (ho:o.op=.buildSlice t n xs) {v:Value} {us:Array (Nat × Value)} {w':World} (hx':(xs.toList.map fun p=>(p.1,a.eval p.2))=us.toList) (hr:(Instr.buildSlice t n us).run P w=.ok v w')
   (h:K (a.put (some d) v) w'):if Region.wanted o (yielded ops a.tmps)=true then Oper.wp P o a w K Q else E:=by
 rw [if_pos (by simp [Region.wanted,hgd])]
 exact wp_bsliceN t n xs ho hx' hr (by rw [hd];exact h)
end
theorem F_both {F J J2:World→Prop} {w:World} (h1:J w) (h2:J2 w) (h:∀ W,J W→J2 W→F W):F w:=h _ h1 h2
def zero20:List Value:=(List.replicate 20 (0:Int)).map (Value.int .u8)
theorem size20:(Tryz.prog.info? 89).map (·.size)=some 20:=by kernel_rfl
theorem size_msg {M:List Int} (h:M.length=20):(Tryz.prog.info? 89).map (·.size)=some (M.map (Value.int .u8)).length:=by rw [List.length_map,h];exact size20
theorem len_msg {M:List Int} (h:M.length=20):zero20.length=(M.map (Value.int .u8)).length:=by rw [List.length_map,h];rfl
theorem bz5 (n:Int) (W:World):(Instr.build 88 #[(0,.int .u8 5),(1,.int .u64 n)]).run Tryz.prog W=.ok (.agg (fcell 5 n zeroD).toArray) W:=by kernel_rfl
set_option maxRecDepth 100000 in
set_option maxHeartbeats 1600000 in
theorem word_is {n:Int} (h:0≤n∧n≤4294967295) (w:World):Calls Tryz.prog 65 #[.int .u32 n] w fun e w'=>e=.returned (.agg (fcell 4 n zeroD).toArray)∧Below w.heap.size w w':=by
 have hw:IntKind.u64.wrap n=n:=by rw [IntKind.wrap_u64];omega
 go_enter Tryz.func65,Tryz.ntmps65
 go_wp2_with (refine wpList_store_box (cs:=fcell 4 n zeroD) rfl _ _ _ rfl (Box.newc (l:=Fd.zero.v) rfl rfl) rfl rfl (sizeC _ _ _ rfl) rfl (oneC _ _ _) ?_;intro w1 hW1)
 refine bodyPost_ret (results_box (b:=w.heap.size) (cs:=fcell 4 n zeroD) Tryz.results65 hW1.box rfl Tryz.underlying88 rfl (sizeC _ _ _ rfl)) rfl ⟨rfl,hW1.below _ _ (Nat.le_refl _) (by go_grown)⟩
set_option maxRecDepth 100000 in
set_option maxHeartbeats 3200000 in
theorem bytes_is (k:Nums) {g:List Int} (w:World):Calls Tryz.prog 33 #[.agg (tcell k g).toArray] w fun e w'=>e=.returned (.agg (k.msg.map (Value.int .u8)).toArray)∧Below w.heap.size w w':=by
 obtain ⟨ti,hin,hz0,hz1,hz2⟩:=info_parts info_fld
 have A1:=fun W=>word_is k.ht W
 have A2:=fun W=>word_is k.hu W
 have A3:=fun W=>word_is k.he W
 have A4:=fun W=>bz5 k.x W
 have HF:Hid (fcell 4 k.t zeroD ++ (fcell 4 k.u zeroD ++ (fcell 4 k.e zeroD ++ fcell 5 k.x zeroD))=flatR LF k.row):=Lib.hid rfl
 have l1:(fcell 4 k.t zeroD).length=34:=rfl
 have l2:(fcell 4 k.u zeroD).length=34:=rfl
 have l3:(fcell 4 k.e zeroD).length=34:=rfl
 have l4:(fcell 5 k.x zeroD).length=34:=rfl
 obtain ⟨V1,e1⟩:∃ V,fcell 4 k.t zeroD=V:=⟨_,rfl⟩
 obtain ⟨V2,e2⟩:∃ V,fcell 4 k.u zeroD=V:=⟨_,rfl⟩
 obtain ⟨V3,e3⟩:∃ V,fcell 4 k.e zeroD=V:=⟨_,rfl⟩
 obtain ⟨V4,e4⟩:∃ V,fcell 5 k.x zeroD=V:=⟨_,rfl⟩
 rw [e1] at A1 l1 HF
 rw [e2] at A2 l2 HF
 rw [e3] at A3 l3 HF
 rw [e4] at A4 l4 HF
 have E4:=Lib.hid e4
 have HBS:=Lib.hid (fun W=>run_bsliceN (P:=Tryz.prog) (n:=4) W 76 88 ti _ 34 Tryz.underlying76 hin hz0 hz1 rfl [V1,V2,V3,V4] (by simp [l1,l2,l3,l4]) (by decide) (by simp) #[(0,.agg V1.toArray),(1,.agg V2.toArray),(2,.agg V3.toArray),(3,.agg V4.toArray)] rfl rfl (by decide))
 have WR:=fun (W:World) (v:Value) (h:IsR LF W v k.row)=>fwrite_is W h
 rw [rowV_ok k.row_e,k.row_e,k.row_b] at WR
 have hm:=k.msg_len
 obtain ⟨M,hM⟩:∃ M,k.msg=M:=⟨_,rfl⟩
 rw [hM] at WR hm ⊢
 have HM:=Lib.hid hm
 have IM:=Lib.hid (size_msg hm)
 have LM:=Lib.hid (len_msg hm)
 obtain ⟨V,hV⟩:∃ V,tcell k g=V:=⟨_,rfl⟩
 have v0:V[0]? = some (.int .u32 k.t):=by rw [← hV];rfl
 have v1:V[1]? = some (.int .u32 k.u):=by rw [← hV];rfl
 have v2:V[2]? = some (.int .u32 k.e):=by rw [← hV];rfl
 have v3:V[3]? = some (.int .u64 k.x):=by rw [← hV];rfl
 rw [hV]
 clear hV hM hm e1 e2 e3 e4 l1 l2 l3 l4
 have hx:Box ((w.alloc (.cells V.toArray 27)).alloc (.cells zero20.toArray 89)) w.heap.size V:=Box.alloc (Box.newc rfl rfl) _
 have hr:Box ((w.alloc (.cells V.toArray 27)).alloc (.cells zero20.toArray 89)) (w.heap.size + 1) zero20:=Box.newc rfl (by simp)
 have hB:Below w.heap.size w ((w.alloc (.cells V.toArray 27)).alloc (.cells zero20.toArray 89)):=by go_grown
 go_enter Tryz.func33,Tryz.ntmps33
 go_upto_region 2 with fail
 refine wp_region_held_drew (S:=fun w'=>Box w' w.heap.size V) (by kernel_rfl) (hx.drew) (fun _=>?_)
 refine F_drew (F:=fun W=>wpAnyH _ _ _ _ _ _ _ _ W) ?_
 intro W0 hb0
 have hx0:=hx.below hb0;have hr0:=hr.below hb0;have hB0:=below_thru hB hb0
 clear hx hr hB hb0
 refine takeH 0 7 (v:=?vt0_1) rfl (by rfl) (by kernel_rfl) (by kernel_rfl) (by kernel_rfl) (fun _ _ _ h=>h) (Or.inl ⟨by rfl,?_⟩) (hx0) ?_
 rotate_left
 · intro wq hSq
   go_simp
   exact rfl
 try simp only [Act.put,qzA,qz0,qzS]
 refine takeH 1 8 (v:=?vt1_2) rfl (by rfl) (by kernel_rfl) (by kernel_rfl) (by kernel_rfl) (fun _ _ _ h=>h) (Or.inl ⟨by rfl,?_⟩) (hx0) ?_
 rotate_left
 · intro wq hSq
   go_simp
   exact rfl
 try simp only [Act.put,qzA,qz0,qzS]
 refine takeH 2 9 (v:=?vt2_3) rfl (by rfl) (by kernel_rfl) (by kernel_rfl) (by kernel_rfl) (fun _ _ _ h=>h) (Or.inl ⟨by rfl,?_⟩) (hx0) ?_
 rotate_left
 · intro wq hSq
   have cq:=hSq.c 0 _ v0
   have zq:=lt_of_cell cq
   go_simp
   exact rfl
 try simp only [Act.put,qzA,qz0,qzS]
 refine takeH 4 11 (v:=?vt4_4) rfl (by rfl) (by kernel_rfl) (by kernel_rfl) (by kernel_rfl) (fun _ _ _ h=>h) (Or.inl ⟨by rfl,?_⟩) (hx0) ?_
 rotate_left
 · intro wq hSq
   go_simp
   exact rfl
 try simp only [Act.put,qzA,qz0,qzS]
 refine takeH 5 12 (v:=?vt5_5) rfl (by rfl) (by kernel_rfl) (by kernel_rfl) (by kernel_rfl) (fun _ _ _ h=>h) (Or.inl ⟨by rfl,?_⟩) (hx0) ?_
 rotate_left
 · intro wq hSq
   go_simp
   exact rfl
 try simp only [Act.put,qzA,qz0,qzS]
 refine takeH 6 13 (v:=?vt6_6) rfl (by rfl) (by kernel_rfl) (by kernel_rfl) (by kernel_rfl) (fun _ _ _ h=>h) (Or.inl ⟨by rfl,?_⟩) (hx0) ?_
 rotate_left
 · intro wq hSq
   have cq:=hSq.c 1 _ v1
   have zq:=lt_of_cell cq
   go_simp
   exact rfl
 try simp only [Act.put,qzA,qz0,qzS]
 refine takeH 8 15 (v:=?vt8_7) rfl (by rfl) (by kernel_rfl) (by kernel_rfl) (by kernel_rfl) (fun _ _ _ h=>h) (Or.inl ⟨by rfl,?_⟩) (hx0) ?_
 rotate_left
 · intro wq hSq
   go_simp
   exact rfl
 try simp only [Act.put,qzA,qz0,qzS]
 refine takeH 9 16 (v:=?vt9_8) rfl (by rfl) (by kernel_rfl) (by kernel_rfl) (by kernel_rfl) (fun _ _ _ h=>h) (Or.inl ⟨by rfl,?_⟩) (hx0) ?_
 rotate_left
 · intro wq hSq
   go_simp
   exact rfl
 try simp only [Act.put,qzA,qz0,qzS]
 refine takeH 10 17 (v:=?vt10_9) rfl (by rfl) (by kernel_rfl) (by kernel_rfl) (by kernel_rfl) (fun _ _ _ h=>h) (Or.inl ⟨by rfl,?_⟩) (hx0) ?_
 rotate_left
 · intro wq hSq
   have cq:=hSq.c 2 _ v2
   have zq:=lt_of_cell cq
   go_simp
   exact rfl
 try simp only [Act.put,qzA,qz0,qzS]
 refine takeH 12 19 (v:=?vt12_10) rfl (by rfl) (by kernel_rfl) (by kernel_rfl) (by kernel_rfl) (fun _ _ _ h=>h) (Or.inl ⟨by rfl,?_⟩) (hx0) ?_
 rotate_left
 · intro wq hSq
   go_simp
   exact rfl
 try simp only [Act.put,qzA,qz0,qzS]
 refine takeH 13 20 (v:=?vt13_11) rfl (by rfl) (by kernel_rfl) (by kernel_rfl) (by kernel_rfl) (fun _ _ _ h=>h) (Or.inl ⟨by rfl,?_⟩) (hx0) ?_
 rotate_left
 · intro wq hSq
   have cq:=hSq.c 3 _ v3
   have zq:=lt_of_cell cq
   go_simp
   exact rfl
 try simp only [Act.put,qzA,qz0,qzS]
 refine takeH 14 21 (v:=.agg V4.toArray) rfl (by rfl) (by kernel_rfl) (by kernel_rfl) (by kernel_rfl) (fun _ _ _ h=>h) (Or.inl ⟨by rfl,?_⟩) (hx0) ?_
 · intro wq hSq
   go_simp
   exact E4.out
 try simp only [Act.put,qzA,qz0,qzS]
 refine wpAnyH_ready (rs:=[3]) (by kernel_rfl) (by simp) (AllReadyH.cons rfl (fun K hK=>?_) AllReadyH.nil)
 go_simp
 refine (A1 _).mono ?_
 rintro e W12 ⟨rfl,hb12⟩
 have hx12:=Box.below hx0 hb12;have hr12:=Box.below hr0 hb12;have hB12:=below_thru hB0 hb12
 have sz12:=hr12.lt
 refine hK.out _ _ hx12 (fun _=>?_);clear hK K
 refine wpAnyH_ready (rs:=[7]) (by kernel_rfl) (by simp) (AllReadyH.cons rfl (fun K hK=>?_) AllReadyH.nil)
 go_simp
 refine (A2 _).mono ?_
 rintro e W13 ⟨rfl,hb13⟩
 have hx13:=Box.below hx12 hb13;have hr13:=Box.below hr12 hb13;have hB13:=below_thru hB12 hb13
 have sz13:=hr13.lt
 refine hK.out _ _ hx13 (fun _=>?_);clear hK K
 refine wpAnyH_ready (rs:=[11]) (by kernel_rfl) (by simp) (AllReadyH.cons rfl (fun K hK=>?_) AllReadyH.nil)
 go_simp
 refine (A3 _).mono ?_
 rintro e W14 ⟨rfl,hb14⟩
 have hx14:=Box.below hx13 hb14;have hr14:=Box.below hr13 hb14;have hB14:=below_thru hB13 hb14
 have sz14:=hr14.lt
 refine hK.out _ _ hx14 (fun _=>?_);clear hK K
 refine wpAnyH_ready (rs:=[15]) (by kernel_rfl) (by simp) (AllReadyH.cons rfl (fun K hK=>?_) AllReadyH.nil)
 refine step_bsliceH 22 rfl rfl 76 4 _ rfl (us:=#[(0,.agg V1.toArray),(1,.agg V2.toArray),(2,.agg V3.toArray),(3,.agg V4.toArray)]) (by rfl) (HBS.out _) ?_
 refine hK.out _ _ (Box.alloc hx14 _) (fun _=>?_);clear hK K
 refine F_both (F:=fun W=>wpAnyH _ _ _ _ _ _ _ _ W) (J:=fun W=>IsR LF W (.slice (some ⟨W14.heap.size,0,none⟩) 4 4) k.row) (J2:=fun W=>Below W14.heap.size W14 W) (IsR.built (L:=LF) (w:=W14) (t:=88) k.row rfl (by rw [← HF.out];simp) rfl rfl (by show 4≤1000;decide)) ((Below.refl _ _).alloc (Nat.le_refl _) _) ?_
 intro W15 hrow hb15
 have hx15:=Box.below hx14 hb15;have hr15:=Box.below hr14 hb15;have hB15:=below_thru hB14 hb15
 have sz15:=hr15.lt
 refine wpAnyH_ready (rs:=[16]) (by kernel_rfl) (by simp) (AllReadyH.cons rfl (fun K hK=>?_) AllReadyH.nil)
 go_simp
 refine (WR _ _ hrow).mono ?_
 rintro e W16 ⟨vm,rfl,hm,hb16⟩
 have hx16:=Box.below hx15 hb16;have hr16:=Box.below hr15 hb16;have hB16:=below_thru hB15 hb16
 have sz16:=hr16.lt
 obtain ⟨am,cm,rfl,im,_⟩:=id hm
 obtain ⟨bm,om,rfl,hrm⟩:=IsL.rangeOf hm (by have:=HM.out;omega)
 have hcm:=im.room
 rw [HM.out] at hcm ⊢
 have hA:∀ W,(Instr.arrayAt 89 (.slice (some ⟨bm,om,none⟩) 20 cm)).run Tryz.prog W=.ok (.pointer (some ⟨bm,om,none⟩)) W:=fun W=>run_arrayAt W 89 _ 20 _ 20 _ Tryz.underlying89 (Nat.le_refl _)
 clear im hm
 refine hK.out _ _ hx16 (fun _=>?_);clear hK K
 refine takeH 17 6 (v:=?vt17_17) rfl (by rfl) (by kernel_rfl) (by kernel_rfl) (by kernel_rfl) (fun _ _ _ h=>h) (Or.inl ⟨by rfl,?_⟩) (hx16) ?_
 rotate_left
 · intro wq hSq
   go_simp
   exact rfl
 try simp only [Act.put,qzA,qz0,qzS]
 refine takeH 18 24 (v:=?vt18_18) rfl (by rfl) (by kernel_rfl) (by kernel_rfl) (by kernel_rfl) (fun _ _ _ h=>h) (Or.inl ⟨by rfl,?_⟩) (hx16) ?_
 rotate_left
 · intro wq hSq
   go_simp
   exact rfl
 try simp only [Act.put,qzA,qz0,qzS]
 refine takeH 19 25 (v:=?vt19_19) rfl (by rfl) (by kernel_rfl) (by kernel_rfl) (by kernel_rfl) (fun _ _ _ h=>h) (Or.inl ⟨by rfl,?_⟩) (hx16) ?_
 rotate_left
 · intro wq hSq
   go_simp
   exact rfl
 try simp only [Act.put,qzA,qz0,qzS]
 refine takeH 20 4 (v:=?vt20_20) rfl (by rfl) (by kernel_rfl) (by kernel_rfl) (by kernel_rfl) (fun _ _ _ h=>h) (Or.inl ⟨by rfl,?_⟩) (hx16) ?_
 rotate_left
 · intro wq hSq
   go_simp
   exact rfl
 try simp only [Act.put,qzA,qz0,qzS]
 refine takeH 21 5 (v:=?vt21_21) rfl (by rfl) (by kernel_rfl) (by kernel_rfl) (by kernel_rfl) (fun _ _ _ h=>h) (Or.inl ⟨by rfl,?_⟩) (hx16) ?_
 rotate_left
 · intro wq hSq
   go_simp
   exact rfl
 try simp only [Act.put,qzA,qz0,qzS]
 refine wpAnyH_done (by kernel_rfl) ?_ _
 go_wp2_with (first | (refine wpList_load_range rfl _ _ rfl hrm rfl Tryz.underlying89 rfl IM.out ?_) | (refine wpList_store_box (cs:=M.map (Value.int .u8)) rfl _ _ _ rfl hr16 rfl rfl IM.out LM.out (oneCell_ints _) ?_;intro w9 hW9))
 exact bodyPost_ret (results_box Tryz.results33 hW9.box rfl Tryz.underlying89 rfl IM.out) rfl ⟨rfl,hW9.below _ _ (by omega) hB16⟩
end Go.Proofs.YtnfejdfjlnpldaaGreatDoor
