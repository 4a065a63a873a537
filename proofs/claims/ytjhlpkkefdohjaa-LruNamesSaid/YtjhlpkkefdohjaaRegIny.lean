/-
  A region that draws its order, by an invariant: edges that bind alone lead back.
-/
import Derived.Test.YtjhlpkkefdohjaaRegInw
namespace Go.Proofs.Ytjhlpkkefdohjaa

section
variable {P : Program} {ops : Array Oper} {Q : Exit → Act → World → Prop} {md : Region.Mode}
theorem listed_y {listed : Array Bool} (hac : ∀ (i : Nat) (o : Oper), ops[i]? = some o → ∀ e ∈ o.after, Region.binds md e = true → e.on < i) (hsz : listed.size = ops.size) (hr : Region.ready md ops listed = []) : ∀ i, i < ops.size → listed.getD i false = true := by
  intro i
  induction i using Nat.strongRecOn with
  | _ i ih =>
    intro hi
    cases hb : listed.getD i false with
    | true => rfl
    | false =>
      have hm : i ∈ Region.ready md ops listed := by
        rw [mem_ready]
        refine ⟨?_, ops[i], Array.getElem?_eq_getElem hi, fun e he hbe => ?_⟩
        · have hi2 : i < listed.size := by omega
          simp [hi2] at hb ⊢
          exact hb
        · have := hac i _ (Array.getElem?_eq_getElem hi) e he hbe
          exact ih e.on this (by omega)
      rw [hr] at hm
      cases hm
theorem wpAny_iny {I : (Nat → Prop) → Act → World → Prop} (hac : ∀ (i : Nat) (o : Oper), ops[i]? = some o → ∀ e ∈ o.after, Region.binds md e = true → e.on < i)
    (step : ∀ (i : Nat) (o : Oper), ops[i]? = some o → ∀ (D : Nat → Prop) (a : Act) (w : World), I D a w → ¬ D i → (∀ e ∈ o.after, Region.binds md e = true → D e.on) → wpOp P ops Q i (fun a' w' => I (fun j => D j ∨ j = i) a' w') a w)
    (fin : ∀ (D : Nat → Prop) (a : Act) (w : World), (∀ i, i < ops.size → D i) → I D a w → Q .normal a w) :
    ∀ (fuel : Nat) (listed : Array Bool) (a : Act) (w : World), listed.size = ops.size → listed.size - listed.toList.count true ≤ fuel → I (fun j => listed.getD j false = true) a w → wpAny P md ops Q fuel listed a w := by
  intro fuel
  induction fuel with
  | zero =>
    intro listed a w hsz hc hI
    have hall := all_true_w listed.toList (by rw [Array.length_toList]; omega)
    have ha : ∀ i, i < listed.size → listed.getD i false = true := fun i hi => by
      simp [hi]
      exact hall _ (Array.getElem_mem_toList hi)
    refine ⟨?_, fin _ _ _ (fun i hi => ha i (by omega)) hI⟩
    rw [List.eq_nil_iff_forall_not_mem]
    intro j hj
    rw [mem_ready] at hj
    obtain ⟨h0, o, ho, _⟩ := hj
    have hjl := (Array.getElem?_eq_some_iff.1 ho).1
    have := ha j (by omega)
    have hj2 : j < listed.size := by omega
    simp [hj2] at h0 this
    rw [h0] at this
    cases this
  | succ fuel ih =>
    intro listed a w hsz hc hI
    refine ⟨fun hr => fin _ _ _ (listed_y hac hsz hr) hI, fun i hi => ?_⟩
    have hi' := mem_ready.1 hi
    obtain ⟨h0, o, ho, he⟩ := hi'
    refine wpOp_mono ?_ (step i o ho _ a w hI (by
      have hi3 : i < listed.size := by have := (Array.getElem?_eq_some_iff.1 ho).1; omega
      simp [hi3] at h0 ⊢
      exact h0) he)
    intro a' w' hI'
    have hil : i < ops.size := (Array.getElem?_eq_some_iff.1 ho).1
    have hi2 : i < listed.size := by omega
    refine ih _ _ _ (by simp [hsz]) ?_ ?_
    · have hf : listed.toList[i]? = some false := by
        simp [hi2] at h0
        rw [Array.getElem?_toList, Array.getElem?_eq_getElem hi2, h0]
      have := count_setw hf
      rw [Array.toList_setIfInBounds, Array.size_setIfInBounds]
      omega
    · have e : (fun j => (listed.setIfInBounds i true).getD j false = true) = (fun j => listed.getD j false = true ∨ j = i) := by
        funext j
        apply propext
        by_cases hji : i = j
        · subst hji
          simp [hi2]
        · rw [getD_set_ne false hji]
          exact ⟨Or.inl, fun h => h.resolve_right (fun q => hji q.symm)⟩
      rw [e]
      exact hI'
theorem wp_region_iny {I : (Nat → Prop) → Act → World → Prop} {id : Nat} {a : Act} {w : World} (hm : P.follows .mixedOrders = true) (hac : ∀ (i : Nat) (o : Oper), ops[i]? = some o → ∀ e ∈ o.after, Region.binds .any e = true → e.on < i)
    (start : I (fun _ => False) a w.drew) (step : StepsIn P .any Q I ops 0 ops.toList)
    (fin : ∀ (D : Nat → Prop) (a : Act) (w : World), (∀ i, i < ops.size → D i) → I D a w → Q .normal a w) : (Code.region id ops true).wp P Q a w := by
  refine wp_region_any hm ?_
  refine wpAny_iny hac (fun i o ho D a w hI hn he => ?_) fin _ _ _ _ (by simp) (by simp) ?_
  · have := step i o (by rw [Array.getElem?_toList]; exact ho) D a w hI (by rw [Nat.zero_add]; exact hn) he
    rw [Nat.zero_add] at this
    exact this
  · have e : (fun j => (Array.replicate ops.size false).getD j false = true) = (fun _ => False) := by
      funext j
      apply propext
      by_cases hj : j < ops.size
      · simp [hj]
      · simp [hj]
    rw [e]
    exact start
/-- The same, with the frame at the start handed to the invariant. -/
theorem wp_region_iny_at {I : Act → (Nat → Prop) → Act → World → Prop} {id : Nat} {a : Act} {w : World} (hm : P.follows .mixedOrders = true) (hac : ∀ (i : Nat) (o : Oper), ops[i]? = some o → ∀ e ∈ o.after, Region.binds .any e = true → e.on < i)
    (start : I a (fun _ => False) a w.drew) (step : StepsIn P .any Q (I a) ops 0 ops.toList)
    (fin : ∀ (D : Nat → Prop) (a' : Act) (w : World), (∀ i, i < ops.size → D i) → I a D a' w → Q .normal a' w) : (Code.region id ops true).wp P Q a w := wp_region_iny (I := I a) hm hac start step fin
theorem ac_of_booly {ops : Array Oper} (h : (ops.toList.zipIdx.all fun p => p.1.after.all fun e => !Region.binds .any e || decide (e.on < p.2)) = true) : ∀ (i : Nat) (o : Oper), ops[i]? = some o → ∀ e ∈ o.after, Region.binds .any e = true → e.on < i := fun i o ho e he hb => by
  have := List.all_eq_true.1 h (o, i) (by
    rw [List.mem_zipIdx_iff_getElem?]
    simpa using ho)
  simp only [Array.all_eq_true_iff_forall_mem, Bool.or_eq_true, Bool.not_eq_true', decide_eq_true_eq] at this
  rcases this e he with h | h
  · rw [hb] at h
    cases h
  · exact h
end
end Go.Proofs.Ytjhlpkkefdohjaa
