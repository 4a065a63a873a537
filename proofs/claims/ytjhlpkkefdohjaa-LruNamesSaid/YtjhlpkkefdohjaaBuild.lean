/-
  '[]T{x}' of a whole struct whose cells are a letter.
-/
import Derived.Test.YtjhlpkkefdohjaaKit
import Derived.Laws.MakeOwn
namespace Go.Proofs.Ytjhlpkkefdohjaa
open Go.RowKit

theorem fold_set (V : List Value) : ∀ (k : Nat) (c : Array Value), (V.zipIdx k).foldl (fun cs x => cs.setIfInBounds x.2 x.1) c = ((c.toList.take k ++ V.take (c.size - k)) ++ c.toList.drop (k + V.length)).toArray ∨ c.size < k := by
  induction V with
  | nil =>
    intro k c
    rcases Nat.lt_or_ge c.size k with q | q
    · exact Or.inr q
    left
    simp
  | cons v V ih =>
    intro k c
    rcases Nat.lt_or_ge c.size k with q | q
    · exact Or.inr q
    left
    rw [List.zipIdx_cons, List.foldl_cons]
    rcases Nat.eq_or_lt_of_le q with e | e
    · subst e
      have h2 : ∀ (V : List Value) (j : Nat) (c : Array Value), c.size ≤ j → (V.zipIdx j).foldl (fun cs x => cs.setIfInBounds x.2 x.1) c = c := by
        intro V
        induction V with
        | nil => intros; rfl
        | cons v V ih =>
          intro j c hc
          rw [List.zipIdx_cons, List.foldl_cons]
          have : c.setIfInBounds j v = c := Array.setIfInBounds_eq_of_size_le hc
          rw [this]
          exact ih _ _ (by omega)
      have : c.setIfInBounds c.size v = c := Array.setIfInBounds_eq_of_size_le (Nat.le_refl _)
      show List.foldl _ (c.setIfInBounds c.size v) _ = _
      rw [this, h2 V _ c (by omega)]
      simp
      rw [List.drop_eq_nil_of_le (by simp), List.append_nil, List.take_of_length_le (by simp)]
    · show List.foldl _ (c.setIfInBounds k v) _ = _
      rcases ih (k + 1) (c.setIfInBounds k v) with h | h
      · rw [h]
        simp only [Array.toList_setIfInBounds, Array.size_setIfInBounds, List.length_cons]
        congr 1
        have hl : k < c.toList.length := by simpa using e
        rw [List.take_set, List.take_succ_eq_append_getElem hl, List.set_append_right _ _ (by simp; omega), List.length_take, Nat.min_eq_left (by omega), Nat.sub_self, List.drop_set_of_lt (by omega)]
        simp only [List.set_cons_zero, List.append_assoc, List.cons_append, List.nil_append]
        rw [show c.size - k = (c.size - (k + 1)) + 1 by omega, List.take_succ_cons, show k + 1 + V.length = k + (V.length + 1) by omega]
        simp
      · simp at h
        omega
theorem fold_all (V : List Value) (c : Array Value) (h : c.size = V.length) : V.zipIdx.foldl (fun cs x => cs.setIfInBounds x.2 x.1) c = V.toArray := by
  rcases fold_set V 0 c with e | e
  · rw [e, Nat.sub_zero, Nat.zero_add, h, List.take_length, List.drop_eq_nil_of_le (by simp [h])]
    simp
  · omega
theorem run_bslice {P : Program} (w : World) (t e : TypeId) (i : TypeInfo) (z : Value) (s : Nat) (ht : P.underlying t = some (.slice e)) (hi : P.info? e = some i) (hz : i.zero = some z) (hs : i.size = s)
    (hzs : z.cells.size = s) (V : List Value) (hV : V.length = s) (h0 : 0 < s) (hb : s ≤ 1000) :
    (Instr.buildSlice t 1 #[(0, .agg V.toArray)]).run P w = .ok (.slice (some ⟨w.heap.size, 0, none⟩) 1 1) (w.alloc (.cells V.toArray e)) := by
  have hc : ∀ c : Array Value, c.size = s → List.foldl (fun cs (x : Value × Nat) => cs.setIfInBounds x.2 x.1) c V.zipIdx = V.toArray := fun c h => fold_all V c (by omega)
  subst hs
  have h1 : ¬ (i.size > 2 ^ 24) := by omega
  have h2 : ¬ (i.size = 0) := by omega
  simp [Instr.buildSlice, run_underlying ht, Go.sizeOf, typeInfo, hi, Go.zeroValue, hz, Instr.fill, hV, h1, h2, hc, go_sem]

section
variable {P : Program} {ops : Array Oper} {o : Oper} {a : Act} {w : World} {K : Act → World → Prop} {Q : Exit → Act → World → Prop} {E : Prop} {rest : List Oper}
theorem wp_bslice (t : TypeId) (n : Nat) (x : Operand) (ho : o.op = .buildSlice t n #[(0, x)]) {v u : Value} {w' : World} (hx : a.eval x = u) (hr : (Instr.buildSlice t n #[(0, u)]).run P w = .ok v w')
    (h : K (a.put o.dst v) w') : Oper.wp P o a w K Q := by
  subst hx
  unfold Oper.wp execOp
  simp [ho, hr, Result.andThen]
  exact h
theorem step_bslice (hgd : o.guard = none) (t : TypeId) (n : Nat) (x : Operand) (ho : o.op = .buildSlice t n #[(0, x)]) {v u : Value} {w' : World} (hx : a.eval x = u) (hr : (Instr.buildSlice t n #[(0, u)]).run P w = .ok v w')
    (h : K (a.put o.dst v) w') : if Region.wanted o (yielded ops a.tmps) = true then Oper.wp P o a w K Q else E := by
  rw [if_pos (by simp [Region.wanted, hgd])]
  exact wp_bslice t n x ho hx hr h
theorem wpList_bslice (hgd : o.guard = none) (t : TypeId) (n : Nat) (x : Operand) (ho : o.op = .buildSlice t n #[(0, x)]) {v u : Value} {w' : World} (hx : a.eval x = u) (hr : (Instr.buildSlice t n #[(0, u)]).run P w = .ok v w')
    (h : wpList P ops Q rest (a.put o.dst v) w') : wpList P ops Q (o :: rest) a w :=
  wpList_plain hgd fun _ hK => wp_bslice t n x ho hx hr (hK _ _ h)
end

end Go.Proofs.Ytjhlpkkefdohjaa
