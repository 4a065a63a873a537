import Derived.Test.YtnfejdfjlnpldaaGreatDoorGB1
namespace Go.Proofs.YtnfejdfjlnpldaaGreatDoor
theorem count_setw {l:List Bool} {i:Nat} (h:l[i]? = some false):(l.set i true).count true=l.count true + 1:=by
 induction l generalizing i with
 | nil=>simp at h
 | cons x l ih =>
   cases i with
   | zero =>
     simp at h
     subst h
     simp
   | succ i =>
     simp at h
     have:=ih h
     rw [List.set_cons_succ,List.count_cons,List.count_cons]
     omega
theorem all_true_w:∀ (l:List Bool),l.length≤l.count true→∀ b ∈ l,b=true
 | [],_,b,h=>by cases h
 | x :: l,h,b,hb=>by
   have h1:l.count true≤l.length:=List.count_le_length
   rw [List.count_cons,List.length_cons] at h
   cases x with
   | false=>simp at h;omega
   | true =>
     rcases List.mem_cons.1 hb with rfl | hb
     · rfl
     · exact all_true_w l (by simp at h;omega) b hb
section
variable {P:Program} {ops:Array Oper} {Q:Exit→Act→World→Prop} {md:Region.Mode}
def StepsIn (P:Program) (md:Region.Mode) (Q:Exit→Act→World→Prop) (I:(Nat→Prop)→Act→World→Prop) (ops:Array Oper) (k:Nat) (l:List Oper):Prop :=
 ∀ (i:Nat) (o:Oper),l[i]? = some o→∀ (D:Nat→Prop) (a:Act) (w:World),I D a w→¬ D (k + i)→(∀ e ∈ o.after,Region.binds md e=true→D e.on)→wpOp P ops Q (k + i) (fun a' w'=>I (fun j=>D j∨j=k + i) a' w') a w
theorem StepsIn.nil {I:(Nat→Prop)→Act→World→Prop} {k:Nat}:StepsIn P md Q I ops k []:=fun i o h=>by simp at h
theorem StepsIn.cons {I:(Nat→Prop)→Act→World→Prop} {k:Nat} {o:Oper} {l:List Oper} (ho:ops[k]? = some o)
   (h:∀ (D:Nat→Prop) (a:Act) (w:World),I D a w→¬ D k→(∀ e ∈ o.after,Region.binds md e=true→D e.on)→∀ K:Act→World→Prop,Shut (∀ a' w',I (fun j=>D j∨j=k) a' w'→K a' w')→if Region.wanted o (yielded ops a.tmps)=true then Oper.wp P o a w K Q else K (a.put o.dst undef) w)
   (hl:StepsIn P md Q I ops (k + 1) l):StepsIn P md Q I ops k (o :: l):=fun i o' hi D a w hI hn he=>by
 cases i with
 | zero =>
   cases hi
   exact wpOp_step ho fun K hK=>h D a w hI hn he K hK
 | succ i =>
   have:=hl i o' (by simpa using hi) D a w hI (by rw [show k + 1 + i=k + (i + 1) by omega];exact hn) he
   rw [show k + 1 + i=k + (i + 1) by omega] at this
   exact this
def putsL (a:Act):List (Nat × Nat)→(Nat→Value)→Act
 | [],_=>a
 | (d,j) :: r,us=>(putsL a r us).put (some d) (us j)
end
end Go.Proofs.YtnfejdfjlnpldaaGreatDoor
