/-
  Helpers for regions that draw their order: a world that has grown gets a letter; what is behind a stored box.
-/
import Derived.Test.YtfobjdkpdeiidaaDoorShaF
import Derived.Deep.RegionHeld
namespace Go.Proofs.YtfobjdkpdeiidaaDoor
open Go.RowKit

theorem F_alloc {F : World → Prop} {w : World} {c : Array Value} {t : TypeId} (l : List Value) (hc : c = l.toArray) (h : ∀ W, Box W w.heap.size l → Below w.heap.size w W → F W) : F (w.alloc (.cells c t)) :=
  h _ (Box.newc hc rfl) ((Below.refl _ _).alloc (Nat.le_refl _) _)
theorem F_drew {F : World → Prop} {w : World} (h : ∀ W, Below w.heap.size w W → F W) : F w.drew := h _ (Below.refl _ _).drew
theorem Box.left {w : World} {b : Nat} {l r : List Value} (h : Box w b (l ++ r)) : w.rangeAt b 0 l := fun j v e => by
  rw [Nat.zero_add]
  exact h.c j v (by rw [List.getElem?_append_left (List.getElem?_eq_some_iff.1 e).1]; exact e)
theorem takeH {P : Program} {md : Region.Mode} {ops : Array Oper} {Q : Exit → Act → World → Prop} {S : World → Prop} (i d : Nat) {oi : Oper} {v : Value} {fuel : Nat} {listed : Array Bool} {a : Act} {w : World} (hi : ops[i]? = some oi) (hd : oi.dst = some d)
    (hs : Region.noSelect ops = true) (hf : Region.free md ops listed i = true) (hr : (Region.ready md ops listed).contains i = true)
    (hQ : ∀ c a w, Q (.panic c) (a.put oi.dst v) w → Q (.panic c) a w) (hy : YieldsIf P ops S oi v a) (hS : S w)
    (h : wpAnyH P md ops Q S fuel (listed.setIfInBounds i true) (a.put (some d) v) w) : wpAnyH P md ops Q S (fuel + 1) listed a w :=
  wpAnyH_take hi hs hf hr hQ hy hS (by rw [hd]; exact h)
theorem step_store_box0 {P : Program} {ops : Array Oper} {o : Oper} {a : Act} {w : World} {K : Act → World → Prop} {Q : Exit → Act → World → Prop} {E : Prop} (hgd : o.guard = none) (hd : o.dst = none) (ty : TypeId) (x y : Operand) (ho : o.op = .store ty x y) {b : Nat} {us cs : List Value} (hb : Box w b us) (hx : a.eval x = .pointer (some ⟨b, 0, none⟩)) (hy : a.eval y = .agg cs.toArray)
    (hi : (P.info? ty).map (·.size) = some cs.length) (hl : us.length = cs.length) (h1 : cs.toArray.all (·.oneCell') = true)
    (hK : ∀ W, Stored w b cs W → K a W) : if Region.wanted o (yielded ops a.tmps) = true then Oper.wp P o a w K Q else E :=
  step_store_box hgd ty x y ho hb hx hy hi hl h1 fun W hW => by rw [hd]; exact hK W hW
/-- A list in a slice whose block is not the stored one (or that is empty). -/
theorem IsL.stored {w W : World} {k : IntKind} {v : Value} {xs : List Int} {b : Nat} {vs : List Value} (h : IsL w k v xs) (hs : Stored w b vs W) (hb : ∀ g, v.ownBlock = some g → g ≠ b) : IsL W k v xs := by
  obtain ⟨a, c, rfl, hi, h0⟩ := h
  refine ⟨a, c, rfl, ⟨hi.room, hi.most, fun hp => ?_⟩, h0⟩
  obtain ⟨g, off, rfl, hc⟩ := hi.cells hp
  exact ⟨g, off, rfl, fun i hi => hs.cell _ _ _ (fun e => hb g rfl e.symm) (hc i hi)⟩

theorem OwnL.stored {w0 w W : World} {v : Value} {xs : List Int} {b : Nat} {vs : List Value} (h : OwnL w0 w v xs) (hs : Stored w b vs W) (hb : b < w0.heap.size) : W.ownsRow w0.heap.size 5 1 v xs.length (xs.map (Value.int .u8)) := by
  obtain ⟨e, ⟨h1, h2⟩ | ⟨g, cap, cur, h1, h2, h3, h4⟩⟩ := h.1
  · exact ⟨e, Or.inl ⟨h1, h2⟩⟩
  · exact ⟨e, Or.inr ⟨g, cap, cur, h1, h2, by rw [hs.block g (by omega)]; exact h3, h4⟩⟩
theorem owns_mono {w : World} {B B' e : Nat} {v : Value} {n : Nat} {l : List Value} (h : w.ownsRow B e 1 v n l) (hB : B' ≤ B) : w.ownsRow B' e 1 v n l := by
  obtain ⟨e, ⟨h1, h2⟩ | ⟨g, cap, cur, h1, h2, h3⟩⟩ := h
  · exact ⟨e, Or.inl ⟨h1, h2⟩⟩
  · exact ⟨e, Or.inr ⟨g, cap, cur, h1, Nat.le_trans hB h2, h3⟩⟩

end Go.Proofs.YtfobjdkpdeiidaaDoor
