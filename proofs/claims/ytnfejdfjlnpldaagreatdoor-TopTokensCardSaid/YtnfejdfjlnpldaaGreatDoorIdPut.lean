import Derived.Test.YtnfejdfjlnpldaaGreatDoorIdMath
namespace Go.Proofs.YtnfejdfjlnpldaaGreatDoor
open Go.RowKit
theorem Dst.snoc {α β:Type} {f:α→β} {l:List α} {x:α} (h:Dst f l l.length) (hx:∀ y ∈ l,f y ≠ f x):Dst f (l ++ [x]) (l ++ [x]).length:=by
 intro i j a b hij hj ha hb
 rw [List.length_append,List.length_singleton] at hj
 have hil:i < l.length:=by omega
 rw [List.getElem?_append_left hil] at ha
 by_cases hjl:j < l.length
 · rw [List.getElem?_append_left hjl] at hb
   exact h i j a b hij hjl ha hb
 · obtain rfl:j=l.length:=by omega
   rw [List.getElem?_append_right (Nat.le_refl _),Nat.sub_self] at hb
   cases hb
   exact hx a (List.mem_of_getElem? ha)
def PutX {α β:Type} (f:α→β) (good:Prop) (l:List α) (m:Nat) (x:α) (r:Option (List α)) (q:Int):Prop :=
 (q=8∧¬ good∧r=none)∨(good∧((q=14∧(∃ u ∈ l,f u=f x∧u ≠ x)∧r=none)∨(q=0∧x ∈ l∧r=some l)∨((∀ u ∈ l,f u ≠ f x)∧((q=4∧100≤m∧r=none)∨(q=0∧m < 100∧r=some (l ++ [x]))))))
theorem PutX.ex {α β:Type} (f:α→β) (good:Prop) (l:List α) (m:Nat) (x:α):∃ r q,PutX f good l m x r q:=by
 by_cases h1:good
 · by_cases h2:x ∈ l
   · exact ⟨_,_,Or.inr ⟨h1,Or.inr (Or.inl ⟨rfl,h2,rfl⟩)⟩⟩
   · by_cases h3:∀ u ∈ l,f u ≠ f x
     · by_cases h4:m < 100
       · exact ⟨_,_,Or.inr ⟨h1,Or.inr (Or.inr ⟨h3,Or.inr ⟨rfl,h4,rfl⟩⟩)⟩⟩
       · exact ⟨_,_,Or.inr ⟨h1,Or.inr (Or.inr ⟨h3,Or.inl ⟨rfl,by omega,rfl⟩⟩)⟩⟩
     · have:∃ u ∈ l,f u=f x∧u ≠ x:=Classical.byContradiction fun n=>h3 fun u hu e=>n ⟨u,hu,e,fun q=>h2 (q ▸ hu)⟩
       exact ⟨_,_,Or.inr ⟨h1,Or.inl ⟨rfl,this,rfl⟩⟩⟩
 · exact ⟨_,_,Or.inl ⟨rfl,h1,rfl⟩⟩
theorem ChkD.put_t {ts:List Tk} {cs:List Cmd} {t:Tk} (h:ChkD ts cs 0) (hg:t.k.t < 16) (hn:∀ u ∈ ts,u.bare ≠ t.bare):ChkD (ts ++ [t]) cs (if ts.length + cs.length < 100 then 0 else 4):=by
 rcases h with ⟨h,_⟩ | ⟨h,_⟩ | ⟨h,_⟩ | ⟨_,h0,h1,h2,h3,h4⟩
 · cases h
 · cases h
 · cases h
 · by_cases hm:ts.length + cs.length < 100
   · rw [if_pos hm]
     exact Or.inr (Or.inr (Or.inr ⟨rfl,by simp;omega,fun u hu=>by
       rcases List.mem_append.1 hu with q | q
       · exact h1 u q
       · rw [List.mem_singleton.1 q];exact hg,h2,Dst.snoc h3 hn,h4⟩))
   · rw [if_neg hm]
     exact Or.inl ⟨rfl,by simp;omega⟩
theorem ChkD.put_c {ts:List Tk} {cs:List Cmd} {c:Cmd} (h:ChkD ts cs 0) (hg:c.Ok) (hn:∀ u ∈ cs,u.bare ≠ c.bare):ChkD ts (cs ++ [c]) (if ts.length + cs.length < 100 then 0 else 4):=by
 rcases h with ⟨h,_⟩ | ⟨h,_⟩ | ⟨h,_⟩ | ⟨_,h0,h1,h2,h3,h4⟩
 · cases h
 · cases h
 · cases h
 · by_cases hm:ts.length + cs.length < 100
   · rw [if_pos hm]
     exact Or.inr (Or.inr (Or.inr ⟨rfl,by simp;omega,h1,fun u hu=>by
       rcases List.mem_append.1 hu with q | q
       · exact h2 u q
       · rw [List.mem_singleton.1 q];exact hg,h3,Dst.snoc h4 hn⟩))
   · rw [if_neg hm]
     exact Or.inl ⟨rfl,by simp;omega⟩
def PutT (ts:List Tk) (cs:List Cmd) (t:Tk) (us:List Tk) (ds:List Cmd) (q:Int):Prop :=
 (q ≠ 0∧ChkD ts cs q∧us=[]∧ds=[])∨(ChkD ts cs 0∧∃ r,PutX Tk.bare (t.k.t < 16) ts (ts.length + cs.length) t r q∧((r=none∧us=[]∧ds=[])∨(r=some us∧ds=cs)))
def PutC (ts:List Tk) (cs:List Cmd) (c:Cmd) (us:List Tk) (ds:List Cmd) (q:Int):Prop :=
 (q ≠ 0∧ChkD ts cs q∧us=[]∧ds=[])∨(ChkD ts cs 0∧∃ r,PutX Cmd.bare c.Ok cs (ts.length + cs.length) c r q∧((r=none∧us=[]∧ds=[])∨(r=some ds∧us=ts)))
theorem PutT.ex (ts:List Tk) (cs:List Cmd) (t:Tk):∃ us ds q,PutT ts cs t us ds q:=by
 obtain ⟨q,hq⟩:=ChkD.ex ts cs
 by_cases h:q=0
 · subst h
   obtain ⟨r,p,hp⟩:=PutX.ex Tk.bare (t.k.t < 16) ts (ts.length + cs.length) t
   cases r with
   | none=>exact ⟨_,_,p,Or.inr ⟨hq,_,hp,Or.inl ⟨rfl,rfl,rfl⟩⟩⟩
   | some us=>exact ⟨us,_,p,Or.inr ⟨hq,_,hp,Or.inr ⟨rfl,rfl⟩⟩⟩
 · exact ⟨_,_,q,Or.inl ⟨h,hq,rfl,rfl⟩⟩
theorem PutC.ex (ts:List Tk) (cs:List Cmd) (c:Cmd):∃ us ds q,PutC ts cs c us ds q:=by
 obtain ⟨q,hq⟩:=ChkD.ex ts cs
 by_cases h:q=0
 · subst h
   obtain ⟨r,p,hp⟩:=PutX.ex Cmd.bare c.Ok cs (ts.length + cs.length) c
   cases r with
   | none=>exact ⟨_,_,p,Or.inr ⟨hq,_,hp,Or.inl ⟨rfl,rfl,rfl⟩⟩⟩
   | some ds=>exact ⟨_,ds,p,Or.inr ⟨hq,_,hp,Or.inr ⟨rfl,rfl⟩⟩⟩
 · exact ⟨_,_,q,Or.inl ⟨h,hq,rfl,rfl⟩⟩
end Go.Proofs.YtnfejdfjlnpldaaGreatDoor
