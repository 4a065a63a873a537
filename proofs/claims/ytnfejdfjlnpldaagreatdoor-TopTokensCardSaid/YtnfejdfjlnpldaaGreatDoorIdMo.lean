import Derived.Test.YtnfejdfjlnpldaaGreatDoorIdMn
import Derived.Test.YtnfejdfjlnpldaaGreatDoorGT2
namespace Go.Proofs.YtnfejdfjlnpldaaGreatDoor
open Go.RowKit
theorem ba_loop (bs:ByteArray):∀ (n i:Nat) (r:List UInt8),bs.size - i=n→ByteArray.toList.loop bs i r=r.reverse ++ (bs.data.toList.drop i):=by
 have hs:bs.size=bs.data.toList.length:=by rw [Array.length_toList];rfl
 intro n
 induction n with
 | zero =>
   intro i r h
   rw [ByteArray.toList.loop]
   rw [if_neg (by omega),List.drop_eq_nil_of_le (by omega),List.append_nil]
 | succ n ih =>
   intro i r h
   rw [ByteArray.toList.loop]
   have hi:i < bs.data.toList.length:=by omega
   rw [if_pos (by omega),ih (i + 1) _ (by omega),List.drop_eq_getElem_cons hi]
   have:bs.get! i=bs.data.toList[i]:=by
     obtain ⟨d⟩:=bs
     show d[i]! = d.toList[i]
     rw [getElem!_pos d i (by simpa using hi)]
     simp
   rw [this]
   simp
theorem ba_list (bs:ByteArray):bs.toList=bs.data.toList:=by
 unfold ByteArray.toList
 rw [ba_loop bs _ 0 [] rfl]
 simp
theorem str_beq {xs ys:List Int} (hx:Byts xs) (hy:Byts ys) {b:Bool} (h:b=true↔xs=ys):((str xs).toList == (str ys).toList)=b:=by
 rw [ba_list,ba_list,str_data,str_data]
 cases b with
 | true =>
   rw [h.1 rfl]
   exact beq_self_eq_true _
 | false =>
   rw [beq_eq_false_iff_ne]
   intro e
   exact Bool.false_ne_true (h.2 (bytes_map_inj hx hy e))
theorem FndF.ex (ts:List Tk) (cs:List Cmd) (f:Frm):∃ b q,FndF ts cs f b q:=by
 obtain ⟨q,hq⟩:=ChkD.ex ts cs
 by_cases h:q=0
 · subst h
   by_cases hf:f.Ok
   · by_cases h1:f ∈ mnt ts cs
     · exact ⟨_,_,Or.inr (Or.inr ⟨hq,hf,Or.inl ⟨rfl,h1,rfl⟩⟩)⟩
     · by_cases h2:∃ m ∈ mnt ts cs,m.key=f.key
       · obtain ⟨m,hm,e⟩:=h2
         exact ⟨_,_,Or.inr (Or.inr ⟨hq,hf,Or.inr (Or.inl ⟨rfl,⟨m,hm,e,fun q=>h1 (q ▸ hm)⟩,rfl⟩)⟩)⟩
       · by_cases h3:ts.length + cs.length < 100
         · exact ⟨_,_,Or.inr (Or.inr ⟨hq,hf,Or.inr (Or.inr ⟨fun m hm e=>h2 ⟨m,hm,e⟩,rfl,Or.inr ⟨rfl,h3⟩⟩)⟩)⟩
         · exact ⟨_,_,Or.inr (Or.inr ⟨hq,hf,Or.inr (Or.inr ⟨fun m hm e=>h2 ⟨m,hm,e⟩,rfl,Or.inl ⟨rfl,by omega⟩⟩)⟩)⟩
   · exact ⟨_,_,Or.inr (Or.inl ⟨rfl,hq,hf,rfl⟩)⟩
 · exact ⟨_,_,Or.inl ⟨h,hq,rfl⟩⟩
theorem FndF.in {ts:List Tk} {cs:List Cmd} {f:Frm} {b:Bool} {q:Int} (h:FndF ts cs f b q) (hc:ChkD ts cs 0) (hf:f.Ok):(q=0∧f ∈ mnt ts cs∧b=true)∨(q=14∧(∃ m ∈ mnt ts cs,m.key=f.key∧m ≠ f)∧b=false)∨((∀ m ∈ mnt ts cs,m.key ≠ f.key)∧b=false∧((q=4∧100≤ts.length + cs.length)∨(q=0∧ts.length + cs.length < 100))):=by
 rcases h with ⟨h,hq,_⟩ | ⟨_,_,h,_⟩ | ⟨_,_,h⟩
 · exact absurd (hq.uniq hc) h
 · exact absurd hf h
 · exact h
theorem FndF.hit {ts:List Tk} {cs:List Cmd} {f:Frm} {b:Bool} {q:Int} (h:FndF ts cs f b q) (hc:ChkD ts cs 0) (hf:f.Ok) (hm:f ∈ mnt ts cs):true=b∧(0:Int)=q:=by
 rcases h.in hc hf with ⟨rfl,_,rfl⟩ | ⟨_,⟨m,h1,h2,h3⟩,_⟩ | ⟨h1,_⟩
 · exact ⟨rfl,rfl⟩
 · exact absurd (nodup_inj12 hc.zero_inv.2.2 h1 hm h2) h3
 · exact absurd rfl (h1 f hm)
theorem FndF.twice {ts:List Tk} {cs:List Cmd} {f:Frm} {b:Bool} {q:Int} (h:FndF ts cs f b q) (hc:ChkD ts cs 0) (hf:f.Ok) {m:Frm} (hm:m ∈ mnt ts cs) (e:m.key=f.key) (hn:m ≠ f):false=b∧(14:Int)=q:=by
 rcases h.in hc hf with ⟨_,h1,_⟩ | ⟨rfl,_,rfl⟩ | ⟨h1,_⟩
 · exact absurd (nodup_inj12 hc.zero_inv.2.2 hm h1 e) hn
 · exact ⟨rfl,rfl⟩
 · exact absurd e (h1 m hm)
theorem FndF.none {ts:List Tk} {cs:List Cmd} {f:Frm} {b:Bool} {q:Int} (h:FndF ts cs f b q) (hc:ChkD ts cs 0) (hf:f.Ok) (hn:∀ m ∈ mnt ts cs,m.key ≠ f.key):false=b∧((100≤ts.length + cs.length∧(4:Int)=q)∨(ts.length + cs.length < 100∧(0:Int)=q)):=by
 rcases h.in hc hf with ⟨_,h1,_⟩ | ⟨_,⟨m,h1,h2,_⟩,_⟩ | ⟨_,rfl,⟨rfl,hs⟩ | ⟨rfl,hs⟩⟩
 · exact absurd rfl (hn f h1)
 · exact absurd h2 (hn m h1)
 · exact ⟨rfl,Or.inl ⟨hs,rfl⟩⟩
 · exact ⟨rfl,Or.inr ⟨hs,rfl⟩⟩
theorem FndF.bad {ts:List Tk} {cs:List Cmd} {f:Frm} {b:Bool} {q qa qb qr:Int} (h:FndF ts cs f b q) (ha:ChkD ts cs qa) (hb:(qb=0∧f.Ok)∨(qb=8∧¬ f.Ok)) (hr:(qa ≠ 0∧qr=qa)∨(qa=0∧qr=qb)) (hn:qr ≠ 0):false=b∧qr=q:=by
 rcases h with ⟨h,hq,rfl⟩ | ⟨rfl,hq,hf,rfl⟩ | ⟨hq,hf,_⟩
 · have e:=hq.uniq ha
   subst e
   rcases hr with ⟨_,rfl⟩ | ⟨h0,_⟩
   · exact ⟨rfl,rfl⟩
   · exact absurd h0 h
 · have e:=hq.uniq ha
   subst e
   rcases hr with ⟨h0,_⟩ | ⟨_,rfl⟩
   · exact absurd rfl h0
   · rcases hb with ⟨h0,_⟩ | ⟨h8,_⟩
     · exact absurd h0 hn
     · exact ⟨rfl,h8⟩
 · have e:=hq.uniq ha
   subst e
   rcases hr with ⟨h0,_⟩ | ⟨_,rfl⟩
   · exact absurd rfl h0
   · rcases hb with ⟨h0,_⟩ | ⟨_,h8⟩
     · exact absurd h0 hn
     · exact absurd hf h8
theorem both_ok12 {ts:List Tk} {cs:List Cmd} {f:Frm} {qa qb qr:Int} (ha:ChkD ts cs qa) (hb:(qb=0∧f.Ok)∨(qb=8∧¬ f.Ok)) (hr:(qa ≠ 0∧qr=qa)∨(qa=0∧qr=qb)) (h0:qr=0):ChkD ts cs 0∧f.Ok:=by
 subst h0
 rcases hr with ⟨h,e⟩ | ⟨rfl,e⟩
 · exact absurd e.symm h
 · subst e
   rcases hb with ⟨_,h⟩ | ⟨h,_⟩
   · exact ⟨ha,h⟩
   · cases h
theorem frm_err (f:Frm):∃ q:Int,(q=0∧f.Ok)∨(q=8∧¬ f.Ok):=by
 by_cases h:f.Ok
 · exact ⟨_,Or.inl ⟨rfl,h⟩⟩
 · exact ⟨_,Or.inr ⟨rfl,h⟩⟩
theorem or_err (x y:Int):∃ r:Int,(x ≠ 0∧r=x)∨(x=0∧r=y):=by
 by_cases h:x=0
 · exact ⟨_,Or.inr ⟨h,rfl⟩⟩
 · exact ⟨_,Or.inl ⟨h,rfl⟩⟩
theorem AcpD.bad {ts:List Tk} {cs:List Cmd} {f:Frm} {b:Bool} {q qa qb qr:Int} (h:AcpD ts cs f b q) (ha:ChkD ts cs qa) (hb:(qb=0∧f.Ok)∨(qb=8∧¬ f.Ok)) (hr:(qa ≠ 0∧qr=qa)∨(qa=0∧qr=qb)) (hn:qr ≠ 0):false=b∧qr=q:=by
 rcases h with ⟨h,hq,rfl⟩ | ⟨rfl,hq,hf,rfl⟩ | ⟨_,hq,hf,_⟩
 · have e:=hq.uniq ha
   subst e
   rcases hr with ⟨_,rfl⟩ | ⟨h0,_⟩
   · exact ⟨rfl,rfl⟩
   · exact absurd h0 h
 · have e:=hq.uniq ha
   subst e
   rcases hr with ⟨h0,_⟩ | ⟨_,rfl⟩
   · exact absurd rfl h0
   · rcases hb with ⟨h0,_⟩ | ⟨h8,_⟩
     · exact absurd h0 hn
     · exact ⟨rfl,h8⟩
 · have e:=hq.uniq ha
   subst e
   rcases hr with ⟨h0,_⟩ | ⟨_,rfl⟩
   · exact absurd rfl h0
   · rcases hb with ⟨h0,_⟩ | ⟨_,h8⟩
     · exact absurd h0 hn
     · exact absurd hf h8
theorem AcpD.in {ts:List Tk} {cs:List Cmd} {f:Frm} {b:Bool} {q:Int} (h:AcpD ts cs f b q) (hc:ChkD ts cs 0) (hf:f.Ok):(0:Int)=q∧(b=true↔f.flat ∈ mnt ts cs):=by
 rcases h with ⟨h,hq,_⟩ | ⟨_,_,h,_⟩ | ⟨rfl,_,_,h⟩
 · exact absurd (hq.uniq hc) h
 · exact absurd hf h
 · exact ⟨rfl,h.trans (acc_flat hf)⟩
theorem AcpD.hit {ts:List Tk} {cs:List Cmd} {f:Frm} {b:Bool} {q:Int} (h:AcpD ts cs f b q) (hc:ChkD ts cs 0) (hf:f.Ok) (hm:f.flat ∈ mnt ts cs):true=b∧(0:Int)=q:=⟨((h.in hc hf).2.2 hm).symm,(h.in hc hf).1⟩
theorem AcpD.none {ts:List Tk} {cs:List Cmd} {f:Frm} {b:Bool} {q:Int} (h:AcpD ts cs f b q) (hc:ChkD ts cs 0) (hf:f.Ok) (hm:f.flat ∉ mnt ts cs):false=b∧(0:Int)=q:=by
 refine ⟨?_,(h.in hc hf).1⟩
 cases b with
 | false=>rfl
 | true=>exact absurd ((h.in hc hf).2.1 rfl) hm
theorem flat_cells (f:Frm):((mcell f).set 37 (.int .u16 0)).set 38 (.int .u32 0)=mcell f.flat:=by
 obtain ⟨kd,⟨k,g,ep,co,hg,hgb,hep,hco⟩,c,hkd⟩:=f
 obtain ⟨x0,x1,x2,x3,x4,x5,x6,x7,x8,x9,x10,x11,x12,x13,x14,x15,x16,x17,x18,x19,x20,x21,x22,x23,x24,x25,x26,x27,x28,x29,x30,x31,rfl⟩:=list32 hg
 rfl
end Go.Proofs.YtnfejdfjlnpldaaGreatDoor
