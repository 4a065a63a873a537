/-
  Helpers for regions that draw their order, at a seat without the package sha.
-/
import Derived.Test.YtjhlpkkefdohjaaBig
import Derived.Deep.RegionHeld
namespace Go.Proofs.Ytjhlpkkefdohjaa
open Go.RowKit

theorem F_alloc {F : World → Prop} {w : World} {c : Array Value} {t : TypeId} (l : List Value) (hc : c = l.toArray) (h : ∀ W, Box W w.heap.size l → Below w.heap.size w W → F W) : F (w.alloc (.cells c t)) :=
  h _ (Box.newc hc rfl) ((Below.refl _ _).alloc (Nat.le_refl _) _)
theorem F_drew {F : World → Prop} {w : World} (h : ∀ W, Below w.heap.size w W → F W) : F w.drew := h _ (Below.refl _ _).drew
theorem Box.left {w : World} {b : Nat} {l r : List Value} (h : Box w b (l ++ r)) : w.rangeAt b 0 l := fun j v e => by
  rw [Nat.zero_add]
  exact h.c j v (by rw [List.getElem?_append_left (List.getElem?_eq_some_iff.1 e).1]; exact e)
theorem takeH {P : Program} {md : Region.Mode} {ops : Array Oper} {Q : Exit → Act → World → Prop} {S : World → Prop} (i d : Nat) {oi : Oper} {v : Value} {fuel : Nat} {listed : Array Bool} {a : Act} {w : World} (hi : ops[i]? = some oi) (hd : oi.dst = some d)
    (hs : Region.noSelect ops = true) (hf : Region.free md ops listed i = true) (hr : (Region.ready md ops listed).contains i = true)
    (hQ : ∀ c a w, Q (.panic c) (a.put oi.dst v) w → Q (.panic c) a w) (hy : YieldsIf P ops S oi v a) (hS : S w)
    (h : wpAnyH P md ops Q S fuel (listed.setIfInBounds i true) (a.put (some d) v) w) : wpAnyH P md ops Q S (fuel + 1) listed a w :=
  wpAnyH_take hi hs hf hr hQ hy hS (by rw [hd]; exact h)
theorem step_store_box0 {P : Program} {ops : Array Oper} {o : Oper} {a : Act} {w : World} {K : Act → World → Prop} {Q : Exit → Act → World → Prop} {E : Prop} (hgd : o.guard = none) (hd : o.dst = none) (ty : TypeId) (x y : Operand) (ho : o.op = .store ty x y) {b : Nat} {us cs : List Value} (hb : Box w b us) (hx : a.eval x = .pointer (some ⟨b, 0, none⟩)) (hy : a.eval y = .agg cs.toArray)
    (hi : (P.info? ty).map (·.size) = some cs.length) (hl : us.length = cs.length) (h1 : cs.toArray.all (·.oneCell') = true)
    (hK : ∀ W, Stored w b cs W → K a W) : if Region.wanted o (yielded ops a.tmps) = true then Oper.wp P o a w K Q else E :=
  step_store_box hgd ty x y ho hb hx hy hi hl h1 fun W hW => by rw [hd]; exact hK W hW

end Go.Proofs.Ytjhlpkkefdohjaa
