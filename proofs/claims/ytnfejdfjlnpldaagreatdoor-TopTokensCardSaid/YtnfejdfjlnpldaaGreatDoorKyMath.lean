import Derived.Test.YtnfejdfjlnpldaaGreatDoorGX1
import Derived.Test.YtnfejdfjlnpldaaGreatDoorTokF
import Derived.Test.YtnfejdfjlnpldaaGreatDoorGT1
namespace Go.Proofs.YtnfejdfjlnpldaaGreatDoor
open Go.RowKit
def keyMsg (t e:Int):List Int:=107 :: (be 4 t ++ be 4 e)
theorem keyMsg_len (t e:Int):(keyMsg t e).length=9:=by unfold keyMsg;simp [be_len]
theorem keyMsg_byts (t e:Int):Byts (keyMsg t e):=fun x hx=>by
 rcases List.mem_cons.1 hx with rfl | h
 · exact ⟨by decide,by decide⟩
 · exact ((be_byts 4 _).append (be_byts 4 _)) x h
def tkeyL (S:List Int) (t e:Int):List Int:=tagL S (keyMsg t e)
theorem tkeyL_len (S:List Int) (t e:Int):(tkeyL S t e).length=32:=tagL_len _ _
theorem tkeyL_byts (S:List Int) (t e:Int):Byts (tkeyL S t e):=tagL_byts _ _
def HasKey (t e:Int):Prop:=t < 16∧e≤1000000
def ordL (S:List Int):List Int:=tagL S [97]
theorem ordL_len (S:List Int):(ordL S).length=32:=tagL_len _ _
theorem ordL_byts (S:List Int):Byts (ordL S):=tagL_byts _ _
def cmdTag (S:List Int) (c:Cmd):List Int:=tagL (ordL S) c.msg
theorem cmdTag_len (S:List Int) (c:Cmd):(cmdTag S c).length=32:=tagL_len _ _
theorem cmdTag_byts (S:List Int) (c:Cmd):Byts (cmdTag S c):=tagL_byts _ _
def Cmd.tagged (c:Cmd) (g:List Int) (h:g.length=32) (hb:Byts g):Cmd:={ c with g:=g,hg:=h,hgb:=hb }
def Cmd.sgn (S:List Int) (c:Cmd):Cmd:=c.tagged (cmdTag S c) (cmdTag_len S c) (cmdTag_byts S c)
def TenOf (S:List Int) (t e:Int) (D:List Int) (q:Int):Prop:=(q=0∧HasKey t e∧D=tkeyL S t e)∨(q=2∧¬ HasKey t e∧D=zeroD)
theorem TenOf.ex (S:List Int) (t e:Int):∃ D q,TenOf S t e D q:=by
 by_cases h:HasKey t e
 · exact ⟨_,_,Or.inl ⟨rfl,h,rfl⟩⟩
 · exact ⟨_,_,Or.inr ⟨rfl,h,rfl⟩⟩
theorem TenOf.len {S:List Int} {t e:Int} {D:List Int} {q:Int} (h:TenOf S t e D q):D.length=32:=by
 rcases h with ⟨_,_,rfl⟩ | ⟨_,_,rfl⟩
 · exact tkeyL_len _ _ _
 · exact zeroD_len
def minted (S:List Int) (k:Nums):List Int:=tagL (tkeyL S k.t k.e) k.msg
theorem minted_len (S:List Int) (k:Nums):(minted S k).length=32:=tagL_len _ _
theorem minted_byts (S:List Int) (k:Nums):Byts (minted S k):=tagL_byts _ _
def TokOf (S:List Int) (k:Nums) (l:Nums) (g:List Int) (q:Int):Prop:=(q=0∧HasKey k.t k.e∧l=k∧g=minted S k)∨(q=2∧¬ HasKey k.t k.e∧l=Nums.zero∧g=zeroD)
theorem TokOf.ex (S:List Int) (k:Nums):∃ l g q,TokOf S k l g q:=by
 by_cases h:HasKey k.t k.e
 · exact ⟨_,_,_,Or.inl ⟨rfl,h,rfl,rfl⟩⟩
 · exact ⟨_,_,_,Or.inr ⟨rfl,h,rfl,rfl⟩⟩
theorem TokOf.len {S:List Int} {k l:Nums} {g:List Int} {q:Int} (h:TokOf S k l g q):g.length=32:=by
 rcases h with ⟨_,_,_,rfl⟩ | ⟨_,_,_,rfl⟩
 · exact minted_len _ _
 · exact zeroD_len
def SigOf (S:List Int) (c d:Cmd) (q:Int):Prop:=(q=0∧c.Ok∧d=c.sgn S)∨(q=8∧¬ c.Ok∧d=Cmd.zero)
theorem SigOf.ex (S:List Int) (c:Cmd):∃ d q,SigOf S c d q:=by
 by_cases h:c.Ok
 · exact ⟨_,_,Or.inl ⟨rfl,h,rfl⟩⟩
 · exact ⟨_,_,Or.inr ⟨rfl,h,rfl⟩⟩
def TruT (S:List Int) (k:Nums) (g:List Int):Prop:=HasKey k.t k.e∧minted S k=g
def TruC (S:List Int) (c:Cmd):Prop:=cmdTag S c=c.g
def Tru (S:List Int) (f:Frm):Prop:=(f.kd=2→TruC S f.c)∧(f.kd ≠ 2→TruT S f.r.k f.r.g)
theorem Tru.of2 {S:List Int} {f:Frm} (h:f.kd=2):Tru S f↔TruC S f.c:=⟨fun g=>g.1 h,fun g=>⟨fun _=>g,fun n=>absurd h n⟩⟩
theorem Tru.of1 {S:List Int} {f:Frm} (h:f.kd ≠ 2):Tru S f↔TruT S f.r.k f.r.g:=⟨fun g=>g.2 h,fun g=>⟨fun n=>absurd n h,fun _=>g⟩⟩
def RigOf (S:List Int) (f:Frm) (b:Bool) (q:Int):Prop:=(q=0∧f.Ok∧(b=true↔Tru S f))∨(q=8∧¬ f.Ok∧b=false)
theorem bool_ex (p:Prop):∃ b:Bool,b=true↔p:=by
 by_cases h:p
 · exact ⟨true,fun _=>h,fun _=>rfl⟩
 · exact ⟨false,fun g=>(Bool.false_ne_true g).elim,fun g=>absurd g h⟩
theorem bool_iff {p:Prop} {b c:Bool} (h1:b=true↔p) (h2:c=true↔p):b=c:=by
 by_cases h:p
 · rw [h1.2 h,h2.2 h]
 · cases b <;> cases c <;> simp_all
theorem RigOf.ex (S:List Int) (f:Frm):∃ b q,RigOf S f b q:=by
 by_cases h:f.Ok
 · obtain ⟨b,hb⟩:=bool_ex (Tru S f)
   exact ⟨b,_,Or.inl ⟨rfl,h,hb⟩⟩
 · exact ⟨_,_,Or.inr ⟨rfl,h,rfl⟩⟩
theorem has_tt {t e:Int} (h:HasKey t e):decide (t < 16)=true∧decide (e≤1000000)=true:=⟨decide_eq_true h.1,decide_eq_true h.2⟩
theorem has_no {t e:Int} (h:¬ HasKey t e):decide (t < 16)=false∨(decide (t < 16)=true∧decide (e≤1000000)=false):=by
 by_cases h1:t < 16
 · exact Or.inr ⟨decide_eq_true h1,decide_eq_false fun h2=>h ⟨h1,h2⟩⟩
 · exact Or.inl (decide_eq_false h1)
def krowK (t e:Int):List Fd:=[fdN 2 107,fdN 4 t,fdN 4 e]
theorem krowK_e {t e:Int} (ht:0≤t∧t≤4294967295) (he:0≤e∧e≤4294967295):rowE (krowK t e)=0:=rowE_ok (by show 3≤40;decide) (fun f hf=>by
 simp [krowK] at hf
 rcases hf with rfl | rfl | rfl
 · exact fd2_ok (by decide)
 · exact fd4_ok ht
 · exact fd4_ok he)
theorem krowK_b {t e:Int} (ht:0≤t∧t≤4294967295) (he:0≤e∧e≤4294967295):rowB (krowK t e)=keyMsg t e:=by
 show (fdN 2 107).bs ++ ((fdN 4 t).bs ++ ((fdN 4 e).bs ++ []))=_
 rw [fd2_bs (by decide),fd4_bs ht,fd4_bs he,List.append_nil]
 rfl
end Go.Proofs.YtnfejdfjlnpldaaGreatDoor
