/-
  A region that draws its order, by an invariant that speaks of the region's start and of what is still to come.
-/
import Derived.Test.YtjhlpkkefdohjaaKit
namespace Go.Proofs.Ytjhlpkkefdohjaa

theorem count_setw {l : List Bool} {i : Nat} (h : l[i]? = some false) : (l.set i true).count true = l.count true + 1 := by
  induction l generalizing i with
  | nil => simp at h
  | cons x l ih =>
    cases i with
    | zero =>
      simp at h
      subst h
      simp
    | succ i =>
      simp at h
      have := ih h
      rw [List.set_cons_succ, List.count_cons, List.count_cons]
      omega
theorem all_true_w : ∀ (l : List Bool), l.length ≤ l.count true → ∀ b ∈ l, b = true
  | [], _, b, h => by cases h
  | x :: l, h, b, hb => by
    have h1 : l.count true ≤ l.length := List.count_le_length
    rw [List.count_cons, List.length_cons] at h
    cases x with
    | false => simp at h; omega
    | true =>
      rcases List.mem_cons.1 hb with rfl | hb
      · rfl
      · exact all_true_w l (by simp at h; omega) b hb
section
variable {P : Program} {ops : Array Oper} {Q : Exit → Act → World → Prop} {md : Region.Mode}
theorem listed_w {listed : Array Bool} (hac : ∀ (i : Nat) (o : Oper), ops[i]? = some o → ∀ e ∈ o.after, e.on < i) (hsz : listed.size = ops.size) (hr : Region.ready md ops listed = []) : ∀ i, i < ops.size → listed.getD i false = true := by
  intro i
  induction i using Nat.strongRecOn with
  | _ i ih =>
    intro hi
    cases hb : listed.getD i false with
    | true => rfl
    | false =>
      have hm : i ∈ Region.ready md ops listed := by
        rw [mem_ready]
        refine ⟨?_, ops[i], Array.getElem?_eq_getElem hi, fun e he _ => ?_⟩
        · have hi2 : i < listed.size := by omega
          simp [hi2] at hb ⊢
          exact hb
        · have := hac i _ (Array.getElem?_eq_getElem hi) e he
          exact ih e.on this (by omega)
      rw [hr] at hm
      cases hm
theorem wpAny_inw {I : (Nat → Prop) → Act → World → Prop} (hac : ∀ (i : Nat) (o : Oper), ops[i]? = some o → ∀ e ∈ o.after, e.on < i)
    (step : ∀ (i : Nat) (o : Oper), ops[i]? = some o → ∀ (D : Nat → Prop) (a : Act) (w : World), I D a w → ¬ D i → (∀ e ∈ o.after, Region.binds md e = true → D e.on) → wpOp P ops Q i (fun a' w' => I (fun j => D j ∨ j = i) a' w') a w)
    (fin : ∀ (D : Nat → Prop) (a : Act) (w : World), (∀ i, i < ops.size → D i) → I D a w → Q .normal a w) :
    ∀ (fuel : Nat) (listed : Array Bool) (a : Act) (w : World), listed.size = ops.size → listed.size - listed.toList.count true ≤ fuel → I (fun j => listed.getD j false = true) a w → wpAny P md ops Q fuel listed a w := by
  intro fuel
  induction fuel with
  | zero =>
    intro listed a w hsz hc hI
    have hall := all_true_w listed.toList (by rw [Array.length_toList]; omega)
    have ha : ∀ i, i < listed.size → listed.getD i false = true := fun i hi => by
      simp [hi]
      exact hall _ (Array.getElem_mem_toList hi)
    refine ⟨?_, fin _ _ _ (fun i hi => ha i (by omega)) hI⟩
    rw [List.eq_nil_iff_forall_not_mem]
    intro j hj
    rw [mem_ready] at hj
    obtain ⟨h0, o, ho, _⟩ := hj
    have hjl := (Array.getElem?_eq_some_iff.1 ho).1
    have := ha j (by omega)
    have hj2 : j < listed.size := by omega
    simp [hj2] at h0 this
    rw [h0] at this
    cases this
  | succ fuel ih =>
    intro listed a w hsz hc hI
    refine ⟨fun hr => fin _ _ _ (listed_w hac hsz hr) hI, fun i hi => ?_⟩
    have hi' := mem_ready.1 hi
    obtain ⟨h0, o, ho, he⟩ := hi'
    refine wpOp_mono ?_ (step i o ho _ a w hI (by
      have hi3 : i < listed.size := by have := (Array.getElem?_eq_some_iff.1 ho).1; omega
      simp [hi3] at h0 ⊢
      exact h0) he)
    intro a' w' hI'
    have hil : i < ops.size := (Array.getElem?_eq_some_iff.1 ho).1
    have hi2 : i < listed.size := by omega
    refine ih _ _ _ (by simp [hsz]) ?_ ?_
    · have hf : listed.toList[i]? = some false := by
        simp [hi2] at h0
        rw [Array.getElem?_toList, Array.getElem?_eq_getElem hi2, h0]
      have := count_setw hf
      rw [Array.toList_setIfInBounds, Array.size_setIfInBounds]
      omega
    · have e : (fun j => (listed.setIfInBounds i true).getD j false = true) = (fun j => listed.getD j false = true ∨ j = i) := by
        funext j
        apply propext
        by_cases hji : i = j
        · subst hji
          simp [hi2]
        · rw [getD_set_ne false hji]
          exact ⟨Or.inl, fun h => h.resolve_right (fun q => hji q.symm)⟩
      rw [e]
      exact hI'
/-- What has to be shown of each operation. -/
def StepsIn (P : Program) (md : Region.Mode) (Q : Exit → Act → World → Prop) (I : (Nat → Prop) → Act → World → Prop) (ops : Array Oper) (k : Nat) (l : List Oper) : Prop :=
  ∀ (i : Nat) (o : Oper), l[i]? = some o → ∀ (D : Nat → Prop) (a : Act) (w : World), I D a w → ¬ D (k + i) → (∀ e ∈ o.after, Region.binds md e = true → D e.on) → wpOp P ops Q (k + i) (fun a' w' => I (fun j => D j ∨ j = k + i) a' w') a w
theorem StepsIn.nil {I : (Nat → Prop) → Act → World → Prop} {k : Nat} : StepsIn P md Q I ops k [] := fun i o h => by simp at h
theorem StepsIn.cons {I : (Nat → Prop) → Act → World → Prop} {k : Nat} {o : Oper} {l : List Oper} (ho : ops[k]? = some o)
    (h : ∀ (D : Nat → Prop) (a : Act) (w : World), I D a w → ¬ D k → (∀ e ∈ o.after, Region.binds md e = true → D e.on) → ∀ K : Act → World → Prop, Shut (∀ a' w', I (fun j => D j ∨ j = k) a' w' → K a' w') → if Region.wanted o (yielded ops a.tmps) = true then Oper.wp P o a w K Q else K (a.put o.dst undef) w)
    (hl : StepsIn P md Q I ops (k + 1) l) : StepsIn P md Q I ops k (o :: l) := fun i o' hi D a w hI hn he => by
  cases i with
  | zero =>
    cases hi
    exact wpOp_step ho fun K hK => h D a w hI hn he K hK
  | succ i =>
    have := hl i o' (by simpa using hi) D a w hI (by rw [show k + 1 + i = k + (i + 1) by omega]; exact hn) he
    rw [show k + 1 + i = k + (i + 1) by omega] at this
    exact this
theorem wp_region_inw {I : (Nat → Prop) → Act → World → Prop} {id : Nat} {a : Act} {w : World} (hm : P.follows .mixedOrders = true) (hac : ∀ (i : Nat) (o : Oper), ops[i]? = some o → ∀ e ∈ o.after, e.on < i)
    (start : I (fun _ => False) a w.drew) (step : StepsIn P .any Q I ops 0 ops.toList)
    (fin : ∀ (D : Nat → Prop) (a : Act) (w : World), (∀ i, i < ops.size → D i) → I D a w → Q .normal a w) : (Code.region id ops true).wp P Q a w := by
  refine wp_region_any hm ?_
  refine wpAny_inw hac (fun i o ho D a w hI hn he => ?_) fin _ _ _ _ (by simp) (by simp) ?_
  · have := step i o (by rw [Array.getElem?_toList]; exact ho) D a w hI (by rw [Nat.zero_add]; exact hn) he
    rw [Nat.zero_add] at this
    exact this
  · have e : (fun j => (Array.replicate ops.size false).getD j false = true) = (fun _ => False) := by
      funext j
      apply propext
      by_cases hj : j < ops.size
      · simp [hj]
      · simp [hj]
    rw [e]
    exact start
/-- The same, with the frame at the start handed to the invariant. -/
theorem wp_region_inw_at {I : Act → (Nat → Prop) → Act → World → Prop} {id : Nat} {a : Act} {w : World} (hm : P.follows .mixedOrders = true) (hac : ∀ (i : Nat) (o : Oper), ops[i]? = some o → ∀ e ∈ o.after, e.on < i)
    (start : I a (fun _ => False) a w.drew) (step : StepsIn P .any Q (I a) ops 0 ops.toList)
    (fin : ∀ (D : Nat → Prop) (a' : Act) (w : World), (∀ i, i < ops.size → D i) → I a D a' w → Q .normal a' w) : (Code.region id ops true).wp P Q a w := wp_region_inw (I := I a) hm hac start step fin
theorem ac_of_boolw {ops : Array Oper} (h : (ops.toList.zipIdx.all fun p => p.1.after.all fun e => decide (e.on < p.2)) = true) : ∀ (i : Nat) (o : Oper), ops[i]? = some o → ∀ e ∈ o.after, e.on < i := fun i o ho e he => by
  have := List.all_eq_true.1 h (o, i) (by
    rw [List.mem_zipIdx_iff_getElem?]
    simpa using ho)
  simp only [Array.all_eq_true_iff_forall_mem, decide_eq_true_eq] at this
  exact this e he
/-- Slots set one behind the other: (slot, number). -/
def putsL (a : Act) : List (Nat × Nat) → (Nat → Value) → Act
  | [], _ => a
  | (d, j) :: r, us => (putsL a r us).put (some d) (us j)
end
end Go.Proofs.Ytjhlpkkefdohjaa
