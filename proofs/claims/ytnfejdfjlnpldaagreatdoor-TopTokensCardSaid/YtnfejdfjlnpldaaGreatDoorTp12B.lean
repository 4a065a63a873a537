import Derived.Test.YtnfejdfjlnpldaaGreatDoorTp12N
set_option maxRecDepth 100000
namespace Go.Proofs.YtnfejdfjlnpldaaGreatDoor
open Go.RowKit
set_option maxRecDepth 100000 in
theorem tp_rq0 (k:Nums) {g:List Int} (h:g.length=32) (W:World):(Instr.build 30 #[(0,.agg (tcell k g).toArray)]).run Tryz.prog W=.ok (.agg (tcell k g ++ [Value.int .u16 0,Value.int .u32 0]).toArray) W:=by
 obtain ⟨x0,x1,x2,x3,x4,x5,x6,x7,x8,x9,x10,x11,x12,x13,x14,x15,x16,x17,x18,x19,x20,x21,x22,x23,x24,x25,x26,x27,x28,x29,x30,x31,rfl⟩:=list32 h
 kernel_rfl
set_option maxRecDepth 100000 in
theorem tp_fr (k:Nums) {g:List Int} (h:g.length=32) (e c:Int) (W:World):(Instr.build 37 #[(0,.int .u8 1),(1,.agg (tcell k g ++ [Value.int .u16 e,Value.int .u32 c]).toArray)]).run Tryz.prog W=.ok (.agg (Value.int .u8 1 :: ((tcell k g ++ [Value.int .u16 e,Value.int .u32 c]) ++ ccell Cmd.zero)).toArray) W:=by
 obtain ⟨x0,x1,x2,x3,x4,x5,x6,x7,x8,x9,x10,x11,x12,x13,x14,x15,x16,x17,x18,x19,x20,x21,x22,x23,x24,x25,x26,x27,x28,x29,x30,x31,rfl⟩:=list32 h
 kernel_rfl
set_option maxRecDepth 100000 in
theorem tp_fc (op t u b0 r0 p0 b1 r1 p1 b2 r2 p2 us en x:Int) {g:List Int} (h:g.length=32) (W:World):(Instr.build 37 #[(0,.int .u8 2),(2,.agg (.int .u8 op :: .int .u32 t :: .int .u32 u :: .int .i64 b0 :: .int .i64 r0 :: .int .i64 p0 :: .int .i64 b1 :: .int .i64 r1 :: .int .i64 p1 :: .int .i64 b2 :: .int .i64 r2 :: .int .i64 p2 :: .int .u8 us :: .int .u8 en :: .int .u64 x :: g.map (Value.int .u8)).toArray)]).run Tryz.prog W =
   .ok (.agg (Value.int .u8 2 :: (rcell Req.zero ++ (.int .u8 op :: .int .u32 t :: .int .u32 u :: .int .i64 b0 :: .int .i64 r0 :: .int .i64 p0 :: .int .i64 b1 :: .int .i64 r1 :: .int .i64 p1 :: .int .i64 b2 :: .int .i64 r2 :: .int .i64 p2 :: .int .u8 us :: .int .u8 en :: .int .u64 x :: g.map (Value.int .u8)))).toArray) W:=by
 obtain ⟨x0,x1,x2,x3,x4,x5,x6,x7,x8,x9,x10,x11,x12,x13,x14,x15,x16,x17,x18,x19,x20,x21,x22,x23,x24,x25,x26,x27,x28,x29,x30,x31,rfl⟩:=list32 h
 kernel_rfl
theorem tp_mr (r:Req) (W:World):(Instr.build 37 #[(0,.int .u8 1),(1,.agg (rcell r).toArray)]).run Tryz.prog W=.ok (.agg (mcell (Frm.req r)).toArray) W:=tp_fr r.k r.hg r.ep r.co W
theorem tp_mc (c:Cmd) (W:World):(Instr.build 37 #[(0,.int .u8 2),(2,.agg (ccell c).toArray)]).run Tryz.prog W=.ok (.agg (mcell (Frm.cmd c)).toArray) W :=
 tp_fc c.op c.t c.u c.l0.b c.l0.r c.l0.p c.l1.b c.l1.r c.l1.p c.l2.b c.l2.r c.l2.p c.us c.en c.x c.hg W
def sd1:List Int:=1 :: List.replicate 31 0
theorem sd1_len:sd1.length=32:=by decide
theorem sd1_b:Byts sd1:=by show ∀ x ∈ sd1,_;decide
theorem tp_sd1 (W:World):(Instr.build 23 #[(0,.int .u8 1)]).run Tryz.prog W=.ok (.agg (sd1.map (Value.int .u8)).toArray) W:=by kernel_rfl
def nmT:Nums:=⟨2,3,4,5,by decide,by decide,by decide,by decide⟩
theorem tp_chk0:ChkD [] [] 0:=Or.inr (Or.inr (Or.inr ⟨rfl,by decide,fun _ h=>by simp at h,fun _ h=>by simp at h,fun _ _ _ _ _ h=>by simp at h,fun _ _ _ _ _ h=>by simp at h⟩))
theorem tp_chk_t (t:Tk) (h:t.k.t < 16):ChkD [t] [] 0:=tp_chk0.put_t (t:=t) h (fun _ h=>by simp at h)
theorem tp_chk_c (c:Cmd) (h:c.Ok):ChkD [] [c] 0:=tp_chk0.put_c (c:=c) h (fun _ h=>by simp at h)
theorem tp_put_t (t:Tk) (h:t.k.t < 16):PutT [] [] t [t] [] 0:=Or.inr ⟨tp_chk0,_,Or.inr ⟨h,Or.inr (Or.inr ⟨fun _ h=>by simp at h,Or.inr ⟨rfl,by decide,rfl⟩⟩)⟩,Or.inr ⟨rfl,rfl⟩⟩
theorem tp_put_c (c:Cmd) (h:c.Ok):PutC [] [] c [] [c] 0:=Or.inr ⟨tp_chk0,_,Or.inr ⟨h,Or.inr (Or.inr ⟨fun _ h=>by simp at h,Or.inr ⟨rfl,by decide,rfl⟩⟩)⟩,Or.inr ⟨rfl,rfl⟩⟩
theorem tp_acp_t (r:Req) (h:r.k.t < 16):AcpD [r.tk] [] (Frm.req r) true 0:=Or.inr (Or.inr ⟨rfl,tp_chk_t _ h,Frm.req_ok h,⟨fun _=>(AccD.of1 (f:=Frm.req r) (show (1:Int) ≠ 2 by decide)).2 (List.mem_singleton.2 rfl),fun _=>rfl⟩⟩)
theorem tp_acp_0 (f:Frm) (h:f.Ok):AcpD [] [] f false 0:=Or.inr (Or.inr ⟨rfl,tp_chk0,h,⟨fun h=>(Bool.false_ne_true h).elim,fun g=>by
 by_cases q:f.kd=2
 · exact absurd (g.1 q) (by simp)
 · exact absurd (g.2 q) (by simp)⟩⟩)
theorem tp_acp_c (c:Cmd) (h:c.Ok):AcpD [] [c] (Frm.cmd c) true 0:=Or.inr (Or.inr ⟨rfl,tp_chk_c _ h,Frm.cmd_ok h,⟨fun _=>(AccD.of2 (f:=Frm.cmd c) (show (2:Int)=2 from rfl)).2 (List.mem_singleton.2 rfl),fun _=>rfl⟩⟩)
theorem tp_acp_n (c d:Cmd) (h:c.Ok) (h':d.Ok) (hne:d ≠ c):AcpD [] [c] (Frm.cmd d) false 0:=Or.inr (Or.inr ⟨rfl,tp_chk_c _ h,Frm.cmd_ok h',⟨fun h=>(Bool.false_ne_true h).elim,fun g=>absurd (List.mem_singleton.1 ((AccD.of2 (f:=Frm.cmd d) (show (2:Int)=2 from rfl)).1 g)) hne⟩⟩)
theorem tp_tok:TokOf sd1 nmT nmT (minted sd1 nmT) 0:=Or.inl ⟨rfl,⟨by decide,by decide⟩,rfl,rfl⟩
def rqT:Req:=⟨nmT,minted sd1 nmT,0,0,minted_len _ _,minted_byts _ _,by decide,by decide⟩
theorem tp_rig:RigOf sd1 (Frm.req rqT) true 0:=Or.inl ⟨rfl,Frm.req_ok (by decide),⟨fun _=>(Tru.of1 (f:=Frm.req rqT) (show (1:Int) ≠ 2 by decide)).2 ⟨⟨by decide,by decide⟩,rfl⟩,fun _=>rfl⟩⟩
theorem tp_xorb (x:Int):0≤bits .xor .u8 x 1∧bits .xor .u8 x 1≤255:=by
 unfold bits
 simp only [IntKind.wrap_u8]
 omega
theorem tp_xorn {x:Int} (h0:0≤x) (h1:x≤255):bits .xor .u8 x 1 ≠ x:=by
 have h:∀ n:Nat,n < 256→bits .xor .u8 (n:Int) 1 ≠ (n:Int):=by decide +kernel
 have:=h x.toNat (by omega)
 rwa [Int.toNat_of_nonneg h0] at this
theorem tp_nmem {l:List Int} {i:Nat} (h:i < l.length):nth l i ∈ l:=by
 unfold nth
 rw [List.getD_eq_getElem?_getD,List.getElem?_eq_getElem h,Option.getD_some]
 exact List.getElem_mem h
theorem tp_t15 (c:Cmd) {D:List Int} (h:D.length=32) (hb:Byts D):(ccell (c.tagged D h hb))[15]? = some (.int .u8 (nth D 0)):=by
 show (D.map (Value.int .u8))[0]? = _
 rw [List.getElem?_map]
 have h:0 < D.length:=by rw [h];decide
 unfold nth
 rw [List.getD_eq_getElem?_getD,List.getElem?_eq_getElem h]
 rfl
theorem tp_tset (c:Cmd) {D E:List Int} (h:D.length=32) (hb:Byts D) (h2:E.length=32) (hb2:Byts E) {x:Int} (e:E=D.set 0 x):ccell (c.tagged E h2 hb2)=(ccell (c.tagged D h hb)).set 15 (.int .u8 x):=by
 subst e
 show _ :: _ :: _ :: _ :: _ :: _ :: _ :: _ :: _ :: _ :: _ :: _ :: _ :: _ :: _ :: (D.set 0 x).map (Value.int .u8)=_ :: _ :: _ :: _ :: _ :: _ :: _ :: _ :: _ :: _ :: _ :: _ :: _ :: _ :: _ :: (D.map (Value.int .u8)).set 0 _
 rw [List.map_set]
 rfl
def tpf (g:List Int):List Int:=g.set 0 (bits .xor .u8 (nth g 0) 1)
theorem tpf_len (c:Cmd):(tpf c.g).length=32:=by unfold tpf;rw [List.length_set,c.hg]
theorem tpf_b (c:Cmd):Byts (tpf c.g):=fun x hx=>by
 rcases List.mem_or_eq_of_mem_set hx with h | rfl
 · exact c.hgb _ h
 · exact tp_xorb _
def tpo (c:Cmd):Cmd:=c.tagged (tpf c.g) (tpf_len c) (tpf_b c)
theorem tpo_ne (c:Cmd):tpo c ≠ c:=fun h=>by
 have e:nth (tpf c.g) 0=nth c.g 0:=congrArg (fun d:Cmd=>nth d.g 0) h
 have h0:0≤nth c.g 0∧nth c.g 0≤255:=c.hgb _ (tp_nmem (by rw [c.hg];decide))
 unfold tpf at e
 rw [show nth (c.g.set 0 (bits .xor .u8 (nth c.g 0) 1)) 0=bits .xor .u8 (nth c.g 0) 1 by
   unfold nth
   rw [List.getD_eq_getElem?_getD,List.getElem?_set_self (by rw [c.hg];decide),Option.getD_some]] at e
 exact tp_xorn h0.1 h0.2 e
theorem tpo_ok {c:Cmd} (h:c.Ok):(tpo c).Ok:=h
theorem tpc_15 (c:Cmd):(ccell c)[15]? = some (.int .u8 (nth c.g 0)):=tp_t15 c c.hg c.hgb
theorem tpc_set (c:Cmd):ccell (tpo c)=(ccell c).set 15 (.int .u8 (bits .xor .u8 (nth c.g 0) 1)):=tp_tset c c.hg c.hgb (tpf_len c) (tpf_b c) rfl
theorem tp_eqd {D E:List Int} (hD:D.length=32) (hE:E.length=32) {b:Bool} (h:b=true↔D=E) (W:World):(Op.equalIn 10000 23 (.agg (D.map (Value.int .u8)).toArray) (.agg (E.map (Value.int .u8)).toArray)).run Tryz.prog W=.ok b W:=by
 have e:decide (D=E)=b:=by cases b <;> simp_all
 rw [show (10000:Nat)=9998 + 2 from rfl,eq_ints W 9998 Tryz.underlying23 Tryz.underlying5 size_u8' D E hD hE,e]
theorem tpc_drop (c:Cmd):(ccell c).drop 15=c.g.map (Value.int .u8) ++ []:=by
 rw [List.append_nil]
 rfl
theorem tp_msg {c:Cmd} (h:c.Ok):c.msg.length=56:=Cmd.msg_len (Cmd.ok_wd h)
end Go.Proofs.YtnfejdfjlnpldaaGreatDoor
