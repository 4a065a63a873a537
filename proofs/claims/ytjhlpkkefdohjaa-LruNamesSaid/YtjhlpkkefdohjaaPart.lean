/-
  A part of a box stored: some cells of a struct that lie one behind the other.
-/
import Derived.Test.YtjhlpkkefdohjaaBig
namespace Go.Proofs.Ytjhlpkkefdohjaa
open Go.RowKit

theorem Stored.part {w : World} {b k : Nat} {us vs ws : List Value} (h : Box w b us) (hk : k + vs.length ≤ us.length) (hw : ws = us.take k ++ vs ++ us.drop (k + vs.length)) : Stored w b ws (w.setCells b k vs) := by
  have hl : ws.length = us.length := by rw [hw]; simp; omega
  have hat : ∀ i v, ws[i]? = some v → (w.setCells b k vs).cell? ⟨b, i, none⟩ = some v := fun i v e => by
    subst hw
    by_cases h1 : i < k
    · rw [World.cell?_setCells_out b vs k w ⟨b, i, none⟩ (fun _ _ => Or.inl h1)]
      rw [List.append_assoc, List.getElem?_append_left (by rw [List.length_take]; omega), List.getElem?_take_of_lt h1] at e
      exact h.c i v e
    · by_cases h2 : i < k + vs.length
      · have := World.cell?_setCells_in b vs k w (fun j hj => by
          rw [h.c (k + j) _ (List.getElem?_eq_getElem (by omega))]; rfl) (i - k) (by omega)
        rw [show k + (i - k) = i by omega] at this
        rw [this]
        rw [List.append_assoc, List.getElem?_append_right (by rw [List.length_take]; omega), List.length_take, Nat.min_eq_left (by omega), List.getElem?_append_left (by omega)] at e
        rw [← e, List.getElem?_eq_getElem (by omega)]
      · rw [World.cell?_setCells_out b vs k w ⟨b, i, none⟩ (fun _ _ => Or.inr (by show k + vs.length ≤ i; omega))]
        rw [List.getElem?_append_right (by rw [List.length_append, List.length_take]; omega), List.length_append, List.length_take, Nat.min_eq_left (by omega), List.getElem?_drop, show k + vs.length + (i - (k + vs.length)) = i by omega] at e
        exact h.c i v e
  refine ⟨⟨hat, fun i v e => ?_, by rw [size_setCells]; exact h.lt⟩, fun c us' hc h' => ⟨fun i v e => ?_, fun i v e => ?_, ?_⟩, fun _ _ hb h' => below_setCells hb vs k w h', fun c o v hc h' => ?_, size_setCells b vs k w, fun g hg => block_setCells b g hg vs k w⟩
  · rw [World.frozen?_setCells]
    have hi : i < us.length := by rw [← hl]; exact (List.getElem?_eq_some_iff.1 e).1
    exact h.f i _ (List.getElem?_eq_getElem hi)
  · rw [World.cell?_setCells_out b vs k w ⟨c, i, none⟩ (fun q _ => absurd q.symm hc)]; exact h'.c i v e
  · rw [World.frozen?_setCells]; exact h'.f i v e
  · rw [size_setCells]; exact h'.lt
  · rw [World.cell?_setCells_out b vs k w ⟨c, o, none⟩ (fun q _ => absurd q.symm hc)]; exact h'

theorem Box.thereAt {w : World} {b : Nat} {vs : List Value} (h : Box w b vs) (k n : Nat) (hk : k + n ≤ vs.length) : w.there b k n := fun j hj => by
  have e : vs[k + j]? = some (vs[k + j]'(by omega)) := List.getElem?_eq_getElem _
  exact ⟨by rw [h.c _ _ e]; rfl, h.f _ _ e⟩
section
variable {P : Program} {ops : Array Oper} {rest : List Oper} {o : Oper} {a : Act} {w : World} {Q : Exit → Act → World → Prop}
theorem wpList_store_part (hgd : o.guard = none) (ty : TypeId) (x y : Operand) (ho : o.op = .store ty x y) {b k : Nat} {us cs ws : List Value} (hb : Box w b us) (hx : a.eval x = .pointer (some ⟨b, k, none⟩)) (hy : a.eval y = .agg cs.toArray)
    (hi : (P.info? ty).map (·.size) = some cs.length) (hk : k + cs.length ≤ us.length) (hw : ws = us.take k ++ cs ++ us.drop (k + cs.length)) (h1 : cs.toArray.all (·.oneCell') = true)
    (h : ∀ W, Stored w b ws W → wpList P ops Q rest (a.put o.dst undef) W) : wpList P ops Q (o :: rest) a w :=
  wpList_store_mid hgd ty x y ho b k cs.toArray hx hy (by simpa using hb.thereAt k cs.length hk) (by simpa using hi) h1 (h _ (Stored.part hb hk hw))
end

end Go.Proofs.Ytjhlpkkefdohjaa
