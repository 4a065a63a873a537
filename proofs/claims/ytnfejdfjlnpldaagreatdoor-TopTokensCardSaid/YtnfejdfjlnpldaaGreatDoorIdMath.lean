import Derived.Test.YtnfejdfjlnpldaaGreatDoorGX1
import Derived.Test.YtnfejdfjlnpldaaGreatDoorGT1
import Derived.Test.YtnfejdfjlnpldaaGreatDoorGT2
import Derived.Test.YtnfejdfjlnpldaaGreatDoorGF1
namespace Go.Proofs.YtnfejdfjlnpldaaGreatDoor
open Go.RowKit
theorem ret_i12 {a b:Int} (h:a=b):Ending.returned (.int .i64 a)=.returned (.int .i64 b):=by rw [h]
structure Tk where
 k:Nums
 g:List Int
 hg:g.length=32
 hgb:Byts g
theorem Tk.ext' {s t:Tk} (h1:s.k=t.k) (h2:s.g=t.g):s=t:=by
 cases s;cases t;simp only at h1 h2;subst h1 h2;rfl
def Tk.v (t:Tk):List Value:=tcell t.k t.g
theorem Tk.v_len (t:Tk):t.v.length=36:=tcell_len t.k t.hg
def Tk.bare (t:Tk):Tk:=⟨t.k,zeroD,zeroD_len,zeroD_byts⟩
def Cmd.bare (c:Cmd):Cmd:={ c with g:=zeroD,hg:=zeroD_len,hgb:=zeroD_byts }
def Req.tk (r:Req):Tk:=⟨r.k,r.g,r.hg,r.hgb⟩
def LT:Lay Tk:=⟨Tk.v,36,by decide,Tk.v_len,fun t=>fit_one (fit_tok t.k t.hg t.hgb)⟩
def LC:Lay Cmd:=⟨ccell,47,by decide,ccell_len,fun c=>fit_one (fit_cmd c)⟩
theorem size_tk (t:Tk):(Tryz.prog.info? 27).map (·.size)=some t.v.length:=size_tok t.k t.hg
theorem one_tk (t:Tk):t.v.toArray.all (·.oneCell')=true:=tcell_one t.k t.g
theorem tk_bare_iff {s t:Tk}:s.bare=t.bare↔s.k=t.k:=⟨fun h=>by
 show s.bare.k=t.bare.k
 rw [h],fun h=>Tk.ext' h rfl⟩
theorem bool_of (p:Prop):∃ b:Bool,b=true↔p:=by
 by_cases h:p
 · exact ⟨true,fun _=>h,fun _=>rfl⟩
 · exact ⟨false,fun g=>(Bool.false_ne_true g).elim,fun g=>absurd g h⟩
def Fnd {α:Type} (p:α→Prop) (l:List α) (i:Int):Prop:=(∃ n:Nat,i=n∧(∃ x,l[n]? = some x∧p x)∧∀ m y,m < n→l[m]? = some y→¬ p y)∨(i = -1∧∀ (m:Nat) (y:α),l[m]? = some y→¬ p y)
theorem Fnd.uniq {α:Type} {p:α→Prop} {l:List α} {i j:Int} (h1:Fnd p l i) (h2:Fnd p l j):i=j:=by
 rcases h1 with ⟨n,rfl,⟨x,hx,px⟩,hn⟩ | ⟨rfl,h1⟩ <;> rcases h2 with ⟨m,rfl,⟨y,hy,py⟩,hm⟩ | ⟨rfl,h2⟩
 · rcases Nat.lt_trichotomy n m with q | q | q
   · exact absurd px (hm n x q hx)
   · rw [q]
   · exact absurd py (hn m y q hy)
 · exact absurd px (h2 n x hx)
 · exact absurd py (h1 m y hy)
 · rfl
def NoUpto {α:Type} (p:α→Prop) (l:List α) (k:Nat):Prop:=∀ (m:Nat) (y:α),m < k→l[m]? = some y→¬ p y
theorem NoUpto.zero {α:Type} (p:α→Prop) (l:List α):NoUpto p l 0:=fun _ _ h=>absurd h (Nat.not_lt_zero _)
theorem NoUpto.succ {α:Type} {p:α→Prop} {l:List α} {k:Nat} (h:NoUpto p l k) (hk:k < l.length) (hp:¬ p l[k]):NoUpto p l (k + 1):=fun m y hm hy=>by
 rcases Nat.lt_or_ge m k with q | q
 · exact h m y q hy
 · obtain rfl:m=k:=by omega
   rw [List.getElem?_eq_getElem hk] at hy
   cases hy
   exact hp
theorem NoUpto.here {α:Type} {p:α→Prop} {l:List α} {k:Nat} (h:NoUpto p l k) (hk:k < l.length) (hp:p l[k]):Fnd p l k:=Or.inl ⟨k,rfl,⟨l[k],List.getElem?_eq_getElem hk,hp⟩,h⟩
theorem NoUpto.all {α:Type} {p:α→Prop} {l:List α} {k:Nat} (h:NoUpto p l k) (hk:l.length≤k):Fnd p l (-1):=Or.inr ⟨rfl,fun m y hy=>h m y (by
 have:=(List.getElem?_eq_some_iff.1 hy).1
 omega) hy⟩
theorem Fnd.ex {α:Type} (p:α→Prop) (l:List α):∃ i,Fnd p l i:=by
 have:∀ k,k≤l.length→(∃ i,Fnd p l i)∨NoUpto p l k:=fun k=>by
   induction k with
   | zero=>exact fun _=>Or.inr (NoUpto.zero p l)
   | succ k ih =>
     intro hk
     rcases ih (by omega) with h | h
     · exact Or.inl h
     · by_cases hp:p (l[k]'(by omega))
       · exact Or.inl ⟨_,h.here (by omega) hp⟩
       · exact Or.inr (h.succ (by omega) hp)
 rcases this l.length (Nat.le_refl _) with h | h
 · exact h
 · exact ⟨_,h.all (Nat.le_refl _)⟩
theorem Fnd.pos {α:Type} {p:α→Prop} {l:List α} {i:Int} (h:Fnd p l i) (hi:0≤i):∃ n x,i=((n:Nat):Int)∧l[n]? = some x∧p x:=by
 rcases h with ⟨n,rfl,⟨x,hx,px⟩,_⟩ | ⟨rfl,h⟩
 · exact ⟨n,x,rfl,hx,px⟩
 · omega
def Dst {α β:Type} (f:α→β) (l:List α) (k:Nat):Prop:=∀ (i j:Nat) (x y:α),i < j→j < k→l[i]? = some x→l[j]? = some y→f x ≠ f y
theorem Dst.zero {α β:Type} (f:α→β) (l:List α):Dst f l 0:=fun _ _ _ _ _ h=>absurd h (Nat.not_lt_zero _)
theorem Dst.succ {α β:Type} {f:α→β} {l:List α} {k:Nat} (hk:k < l.length) {i:Int} (h:Fnd (fun x=>f x=f l[k]) l i):Dst f l (k + 1)↔Dst f l k∧(k:Int)≤i:=by
 constructor
 · intro hd
   refine ⟨fun a b x y h1 h2=>hd a b x y h1 (by omega),Int.not_lt.1 fun hlt=>?_⟩
   rcases h with ⟨n,rfl,⟨x,hx,px⟩,_⟩ | ⟨rfl,h⟩
   · exact hd n k x l[k] (by omega) (by omega) hx (List.getElem?_eq_getElem hk) px
   · exact h k l[k] (List.getElem?_eq_getElem hk) rfl
 · rintro ⟨hd,hn⟩ a b x y h1 h2 hx hy e
   rcases Nat.lt_or_ge b k with q | q
   · exact hd a b x y h1 q hx hy e
   · obtain rfl:b=k:=by omega
     rw [List.getElem?_eq_getElem hk] at hy
     cases hy
     rcases h with ⟨n,rfl,_,hm⟩ | ⟨rfl,h⟩
     · exact hm a x (by omega) hx e
     · exact h a x hx e
def IsD (w:World) (v:Value) (ts:List Tk) (cs:List Cmd):Prop:=∃ a b,v=.agg #[a,b]∧IsR LT w a ts∧IsR LC w b cs
theorem IsD.below {w w':World} {v:Value} {ts:List Tk} {cs:List Cmd} (h:IsD w v ts cs) (hb:Below w.heap.size w w'):IsD w' v ts cs :=
 let ⟨a,b,e,h1,h2⟩:=h;⟨a,b,e,h1.below hb,h2.below hb⟩
def GoodT (ts:List Tk):Prop:=∀ t ∈ ts,t.k.t < 16
def GoodC (cs:List Cmd):Prop:=∀ c ∈ cs,c.Ok
def DstT (ts:List Tk):Prop:=Dst Tk.bare ts ts.length
def DstC (cs:List Cmd):Prop:=Dst Cmd.bare cs cs.length
def ChkD (ts:List Tk) (cs:List Cmd) (q:Int):Prop :=
 (q=4∧100 < ts.length + cs.length)∨(q=8∧ts.length + cs.length≤100∧¬ (GoodT ts∧GoodC cs))∨(q=14∧ts.length + cs.length≤100∧GoodT ts∧GoodC cs∧¬ (DstT ts∧DstC cs))∨(q=0∧ts.length + cs.length≤100∧GoodT ts∧GoodC cs∧DstT ts∧DstC cs)
theorem ChkD.ex (ts:List Tk) (cs:List Cmd):∃ q,ChkD ts cs q:=by
 by_cases h1:ts.length + cs.length≤100
 · by_cases h2:GoodT ts∧GoodC cs
   · by_cases h3:DstT ts∧DstC cs
     · exact ⟨_,Or.inr (Or.inr (Or.inr ⟨rfl,h1,h2.1,h2.2,h3.1,h3.2⟩))⟩
     · exact ⟨_,Or.inr (Or.inr (Or.inl ⟨rfl,h1,h2.1,h2.2,h3⟩))⟩
   · exact ⟨_,Or.inr (Or.inl ⟨rfl,h1,h2⟩)⟩
 · exact ⟨_,Or.inl ⟨rfl,by omega⟩⟩
theorem ChkD.uniq {ts:List Tk} {cs:List Cmd} {p q:Int} (h1:ChkD ts cs p) (h2:ChkD ts cs q):p=q:=by
 rcases h1 with ⟨rfl,a⟩ | ⟨rfl,a,b⟩ | ⟨rfl,a,b,c,d⟩ | ⟨rfl,a,b,c,d,e⟩ <;> rcases h2 with ⟨rfl,a'⟩ | ⟨rfl,a',b'⟩ | ⟨rfl,a',b',c',d'⟩ | ⟨rfl,a',b',c',d',e'⟩ <;> first | rfl | omega | (exfalso;simp_all;done)
end Go.Proofs.YtnfejdfjlnpldaaGreatDoor
