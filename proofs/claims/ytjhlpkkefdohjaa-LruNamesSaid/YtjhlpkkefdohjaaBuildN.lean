/-
  '[]T{x, y, ..}' of whole structs whose cells are letters.
-/
import Derived.Test.YtjhlpkkefdohjaaBuild
namespace Go.Proofs.Ytjhlpkkefdohjaa
open Go.RowKit

theorem fold_off (V : List Value) (off : Nat) : ∀ (j : Nat) (c : Array Value), (V.zipIdx j).foldl (fun cs x => cs.setIfInBounds (off + x.2) x.1) c = (V.zipIdx (off + j)).foldl (fun cs x => cs.setIfInBounds x.2 x.1) c := by
  induction V with
  | nil => intros; rfl
  | cons v V ih =>
    intro j c
    rw [List.zipIdx_cons, List.zipIdx_cons, List.foldl_cons, List.foldl_cons, ih (j + 1)]
    rfl
theorem fillN_all (s : Nat) : ∀ (Vs : List (List Value)) (k : Nat) (c : Array Value), (∀ V ∈ Vs, V.length = s) → (k + Vs.length) * s ≤ c.size →
    Instr.fill (fun i => some (i * s, s)) c ((Vs.zipIdx k).map fun x => (x.2, Value.agg x.1.toArray)) = some ((c.toList.take (k * s) ++ Vs.flatten) ++ c.toList.drop ((k + Vs.length) * s)).toArray
  | [], k, c, _, _ => by simp [Instr.fill]
  | V :: Vs, k, c, h, hc => by
    have hV : V.length = s := h V (by simp)
    have e0 : (k + (V :: Vs).length) * s = k * s + s + Vs.length * s := by rw [List.length_cons, Nat.add_mul, Nat.add_mul]; omega
    rw [e0] at hc
    rw [List.zipIdx_cons, List.map_cons, Instr.fill]
    have hcl : (Value.agg V.toArray).cells = V.toArray := rfl
    rw [hcl]
    simp only [List.size_toArray, hV]
    rw [if_neg (by simp; omega)]
    have hf := fold_set V (k * s) c
    have hf' : (V.zipIdx (k * s)).foldl (fun cs x => cs.setIfInBounds x.2 x.1) c = ((c.toList.take (k * s) ++ V) ++ c.toList.drop (k * s + s)).toArray := by
      rcases hf with e | e
      · rw [e, List.take_of_length_le (l := V) (by omega), hV]
      · omega
    have hz : V.toArray.zipIdx.foldl (fun cs (x : Value × Nat) => cs.setIfInBounds (k * s + x.2) x.1) c = ((c.toList.take (k * s) ++ V) ++ c.toList.drop (k * s + s)).toArray := by
      rw [← hf', ← Array.foldl_toList, Array.toList_zipIdx]
      have := fold_off V (k * s) 0 c
      rw [Nat.add_zero] at this
      exact this
    have hz2 : (Array.foldl (fun cs (x : Value × Nat) => match x with | (c, j) => cs.setIfInBounds (k * s + j) c) c V.toArray.zipIdx) = ((c.toList.take (k * s) ++ V) ++ c.toList.drop (k * s + s)).toArray := hz
    rw [hz2, fillN_all s Vs (k + 1) _ (fun U hU => h U (by simp [hU]))]
    · congr 2
      have l1 : (c.toList.take (k * s) ++ V).length = k * s + s := by rw [List.length_append, List.length_take, hV, Array.length_toList]; omega
      have e1 : (k + 1) * s = k * s + s := by rw [Nat.add_mul]; omega
      have e2 : (k + 1 + Vs.length) * s = k * s + s + Vs.length * s := by rw [Nat.add_mul, Nat.add_mul]; omega
      rw [e1, e2, e0]
      simp only [List.flatten_cons]
      rw [List.take_left' l1, List.drop_append, l1, List.drop_eq_nil_of_le (by rw [l1]; omega), List.drop_drop, List.nil_append, List.append_assoc, List.append_assoc]
      rw [show k * s + s + (k * s + s + Vs.length * s - (k * s + s)) = k * s + s + Vs.length * s by omega]
      simp
    · simp only [List.size_toArray, List.length_append, List.length_take, List.length_drop, Array.length_toList, hV]
      rw [show (k + 1 + Vs.length) * s = k * s + s + Vs.length * s by rw [Nat.add_mul, Nat.add_mul]; omega]
      omega
theorem run_bsliceN {P : Program} (w : World) (t e : TypeId) (i : TypeInfo) (z : Value) (s : Nat) (ht : P.underlying t = some (.slice e)) (hi : P.info? e = some i) (hz : i.zero = some z) (hs : i.size = s)
    (hzs : z.cells.size = s) {n : Nat} (Vs : List (List Value)) (hV : ∀ V ∈ Vs, V.length = s) (h0 : 0 < s) (hb : Vs.length * s ≤ 10000) (parts : Array (Nat × Value)) (hp : parts.toList = Vs.zipIdx.map fun x => (x.2, Value.agg x.1.toArray)) (hn : n = Vs.length) (hn0 : 0 < n) :
    (Instr.buildSlice t n parts).run P w = .ok (.slice (some ⟨w.heap.size, 0, none⟩) n n) (w.alloc (.cells Vs.flatten.toArray e)) := by
  subst hs hn
  have h1 : ¬ (Vs.length * i.size > 2 ^ 24) := by omega
  have h2 : ¬ (Vs.length * i.size = 0) := by have := Nat.mul_pos hn0 h0; omega
  have hf := fun (c : Array Value) (hc : c.size = Vs.length * i.size) => fillN_all i.size Vs 0 c hV (by rw [Nat.zero_add]; omega)
  have hf2 : ∀ c : Array Value, c.size = Vs.length * i.size → Instr.fill (fun j => some (j * i.size, i.size)) c parts.toList = some Vs.flatten.toArray := fun c hc => by
    rw [hp, hf c hc]
    rw [Nat.zero_mul, List.take_zero, Nat.zero_add, List.drop_eq_nil_of_le (by simp [hc])]
    simp
  simp [Instr.buildSlice, run_underlying ht, Go.sizeOf, typeInfo, hi, Go.zeroValue, hz, h1, h2, hf2, go_sem]

section
variable {P : Program} {ops : Array Oper} {o : Oper} {a : Act} {w : World} {K : Act → World → Prop} {Q : Exit → Act → World → Prop} {E : Prop} {rest : List Oper}
theorem wp_bsliceN (t : TypeId) (n : Nat) (xs : Array (Nat × Operand)) (ho : o.op = .buildSlice t n xs) {v : Value} {us : Array (Nat × Value)} {w' : World} (hx' : (xs.toList.map fun p => (p.1, a.eval p.2)) = us.toList) (hr : (Instr.buildSlice t n us).run P w = .ok v w')
    (h : K (a.put o.dst v) w') : Oper.wp P o a w K Q := by
  have hx : (xs.map fun (i, x) => (i, a.eval x)) = us := by
    apply Array.ext'
    rw [Array.toList_map, ← hx']
  subst hx
  unfold Oper.wp execOp
  simp only [ho, Sem.run_bind, hr, Result.andThen_ok, Sem.run_pure]
  exact h
theorem wpList_bsliceN (hgd : o.guard = none) (t : TypeId) (n : Nat) (xs : Array (Nat × Operand)) (ho : o.op = .buildSlice t n xs) {v : Value} {us : Array (Nat × Value)} {w' : World} (hx : (xs.toList.map fun p => (p.1, a.eval p.2)) = us.toList) (hr : (Instr.buildSlice t n us).run P w = .ok v w')
    (h : wpList P ops Q rest (a.put o.dst v) w') : wpList P ops Q (o :: rest) a w :=
  wpList_plain hgd fun _ hK => wp_bsliceN t n xs ho hx hr (hK _ _ h)
end

end Go.Proofs.Ytjhlpkkefdohjaa
