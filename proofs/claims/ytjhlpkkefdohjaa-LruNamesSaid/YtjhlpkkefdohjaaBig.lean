/-
  Whole arrays and structs in boxes of the walk's own: loaded, stored and returned at once, whatever their number of cells.
-/
import Derived.Test.YtjhlpkkefdohjaaIsl
namespace Go.Proofs.Ytjhlpkkefdohjaa
open Go.RowKit

theorem Box.newc {w : World} {b : Nat} {c : Array Value} {l : List Value} {t : TypeId} (hc : c = l.toArray) (hb : b = w.heap.size) : Box (w.alloc (.cells c t)) b l := by
  subst hc
  exact Box.new hb
theorem Box.range {w : World} {b : Nat} {vs : List Value} (h : Box w b vs) : w.rangeAt b 0 vs := fun j v e => by
  rw [Nat.zero_add]
  exact h.c j v e
theorem Box.there {w : World} {b : Nat} {vs : List Value} (h : Box w b vs) : w.there b 0 vs.length := fun j hj => by
  rw [Nat.zero_add]
  have e : vs[j]? = some vs[j] := List.getElem?_eq_getElem hj
  exact ⟨by rw [h.c j _ e]; rfl, h.f j _ e⟩
theorem size_setCells (b : Nat) : ∀ (vs : List Value) (o : Nat) (w : World), (w.setCells b o vs).heap.size = w.heap.size
  | [], _, _ => rfl
  | v :: r, o, w => by rw [World.setCells, size_setCells b r]; simp
theorem Box.stored {w : World} {b : Nat} {us vs : List Value} (h : Box w b us) (hl : us.length = vs.length) : Box (w.setCells b 0 vs) b vs := by
  refine ⟨fun i v e => ?_, fun i v e => ?_, by rw [size_setCells]; exact h.lt⟩
  · have hi : i < vs.length := (List.getElem?_eq_some_iff.1 e).1
    have := World.cell?_setCells_in b vs 0 w (fun j hj => by
      have e : us[j]? = some (us[j]'(by omega)) := List.getElem?_eq_getElem _
      rw [Nat.zero_add, h.c j _ e]; rfl) i hi
    rw [Nat.zero_add] at this
    rw [this, ← e, List.getElem?_eq_getElem hi]
  · have hi : i < vs.length := (List.getElem?_eq_some_iff.1 e).1
    rw [World.frozen?_setCells]
    exact h.f i _ (List.getElem?_eq_getElem (by omega))
theorem Box.past {w : World} {b c : Nat} {us : List Value} (h : Box w c us) (hc : b ≠ c) (vs : List Value) : Box (w.setCells b 0 vs) c us :=
  ⟨fun i v e => by rw [World.cell?_setCells_out b vs 0 w ⟨c, i, none⟩ (fun q _ => absurd q.symm hc)]; exact h.c i v e,
   fun i v e => by rw [World.frozen?_setCells]; exact h.f i v e, by rw [size_setCells]; exact h.lt⟩
theorem below_setCells {B b : Nat} (hb : B ≤ b) {a : World} : ∀ (vs : List Value) (o : Nat) (w : World), Below B a w → Below B a (w.setCells b o vs)
  | [], _, _, h => h
  | v :: r, o, _, h => below_setCells hb r (o + 1) _ (h.setCell (p := ⟨b, o, none⟩) hb v)
theorem cells_past {w : World} {b c o : Nat} {v : Value} (h : w.cell? ⟨c, o, none⟩ = some v) (hc : b ≠ c) (vs : List Value) : (w.setCells b 0 vs).cell? ⟨c, o, none⟩ = some v := by
  rw [World.cell?_setCells_out b vs 0 w ⟨c, o, none⟩ (fun q _ => absurd q.symm hc)]; exact h

theorem block_setCells (b g : Nat) (hg : b ≠ g) : ∀ (vs : List Value) (o : Nat) (w : World), (w.setCells b o vs).heap[g]? = w.heap[g]?
  | [], _, _ => rfl
  | v :: r, o, w => by
    rw [World.setCells, block_setCells b g hg r]
    exact heap_setCell_other w ⟨b, o, none⟩ g v (fun e => hg e.symm)
/-- What a store of a whole value leaves. -/
structure Stored (w : World) (b : Nat) (vs : List Value) (W : World) : Prop where
  box : Box W b vs
  past : ∀ c us, b ≠ c → Box w c us → Box W c us
  below : ∀ (B : Nat) (a : World), B ≤ b → Below B a w → Below B a W
  cell : ∀ c o v, b ≠ c → w.cell? ⟨c, o, none⟩ = some v → W.cell? ⟨c, o, none⟩ = some v
  size : W.heap.size = w.heap.size
  block : ∀ g, b ≠ g → W.heap[g]? = w.heap[g]?
theorem Stored.mk' {w : World} {b : Nat} {us vs : List Value} (h : Box w b us) (hl : us.length = vs.length) : Stored w b vs (w.setCells b 0 vs) :=
  ⟨h.stored hl, fun _ _ hc h' => h'.past hc vs, fun _ _ hb h' => below_setCells hb vs 0 w h', fun _ _ _ hc h' => cells_past h' hc vs, size_setCells b vs 0 w, fun g hg => block_setCells b g hg vs 0 w⟩

theorem oneCell_ints {k : IntKind} (xs : List Int) : (xs.map (Value.int k)).toArray.all (·.oneCell') = true := by
  apply all_oneCell_toArray
  intro v hv
  obtain ⟨x, _, rfl⟩ := List.mem_map.1 hv
  rfl

section
variable {P : Program} {ops : Array Oper} {rest : List Oper} {o : Oper} {a : Act} {w : World} {K : Act → World → Prop} {Q : Exit → Act → World → Prop} {E : Prop}
theorem wpList_load_box (hgd : o.guard = none) (ty : TypeId) (x : Operand) (ho : o.op = .load ty x) {b : Nat} {cs : List Value} (hb : Box w b cs) (hx : a.eval x = .pointer (some ⟨b, 0, none⟩)) {d : TypeDesc}
    (hu : P.underlying ty = some d) (hd : d.isRow = true) (hi : (P.info? ty).map (·.size) = some cs.length)
    (h : wpList P ops Q rest (a.put o.dst (.agg cs.toArray)) w) : wpList P ops Q (o :: rest) a w :=
  wpList_load_mid hgd ty x ho b 0 hx cs d hb.range hu hd hi h
theorem wpList_store_box (hgd : o.guard = none) (ty : TypeId) (x y : Operand) (ho : o.op = .store ty x y) {b : Nat} {us cs : List Value} (hb : Box w b us) (hx : a.eval x = .pointer (some ⟨b, 0, none⟩)) (hy : a.eval y = .agg cs.toArray)
    (hi : (P.info? ty).map (·.size) = some cs.length) (hl : us.length = cs.length) (h1 : cs.toArray.all (·.oneCell') = true)
    (h : ∀ W, Stored w b cs W → wpList P ops Q rest (a.put o.dst undef) W) : wpList P ops Q (o :: rest) a w :=
  wpList_store_mid hgd ty x y ho b 0 cs.toArray hx hy (by have := hb.there; rw [hl] at this; simpa using this) (by simpa using hi) h1 (h _ (Stored.mk' hb hl))
theorem step_load_box (hgd : o.guard = none) (ty : TypeId) (x : Operand) (ho : o.op = .load ty x) {b : Nat} {cs : List Value} (hb : Box w b cs) (hx : a.eval x = .pointer (some ⟨b, 0, none⟩)) {d : TypeDesc}
    (hu : P.underlying ty = some d) (hd : d.isRow = true) (hi : (P.info? ty).map (·.size) = some cs.length)
    (hK : K (a.put o.dst (.agg cs.toArray)) w) : if Region.wanted o (yielded ops a.tmps) = true then Oper.wp P o a w K Q else E := by
  rw [if_pos (by simp [Region.wanted, hgd])]
  exact wp_load_mid ty x ho b 0 hx cs d hb.range hu hd hi hK
theorem step_store_box (hgd : o.guard = none) (ty : TypeId) (x y : Operand) (ho : o.op = .store ty x y) {b : Nat} {us cs : List Value} (hb : Box w b us) (hx : a.eval x = .pointer (some ⟨b, 0, none⟩)) (hy : a.eval y = .agg cs.toArray)
    (hi : (P.info? ty).map (·.size) = some cs.length) (hl : us.length = cs.length) (h1 : cs.toArray.all (·.oneCell') = true)
    (hK : ∀ W, Stored w b cs W → K (a.put o.dst undef) W) : if Region.wanted o (yielded ops a.tmps) = true then Oper.wp P o a w K Q else E := by
  rw [if_pos (by simp [Region.wanted, hgd])]
  exact wp_store_mid ty x y ho b 0 cs.toArray hx hy (by have := hb.there; rw [hl] at this; simpa using this) (by simpa using hi) h1 (hK _ (Stored.mk' hb hl))

theorem run_var_box {b : Nat} {cs : List Value} (hb : Box w b cs) (ty : TypeId) {d : TypeDesc} (hu : P.underlying ty = some d) (hd : d.isRow = true) (hi : (P.info? ty).map (·.size) = some cs.length) :
    (loadVar ty ⟨b, 0, none⟩).run P w = .ok (.agg cs.toArray) w := run_loadVar_mid w b 0 ty cs d hb.range hu hd hi
/-- The result is a whole value in a box; with a second result in a slot. -/
theorem results_box {fn : Func} {p : Tmp} {ty : TypeId} (h : fn.results = #[.cell p ty]) {tmps : Array Value} {b : Nat} {cs : List Value} (hb : Box w b cs)
    (hp : tmps.getD p undef = .pointer (some ⟨b, 0, none⟩)) {d : TypeDesc} (hu : P.underlying ty = some d) (hd : d.isRow = true) (hi : (P.info? ty).map (·.size) = some cs.length) :
    (results fn tmps).run P w = .ok (.agg cs.toArray) w := by
  have hp' : tmps[p]?.getD undef = .pointer (some ⟨b, 0, none⟩) := by simpa using hp
  simp [results, h, hp', asAddr, run_var_box hb ty hu hd hi]
theorem results_box2 {fn : Func} {p q : Tmp} {ty : TypeId} (h : fn.results = #[.cell p ty, .tmp q]) {tmps : Array Value} {b : Nat} {cs : List Value} {u : Value} (hb : Box w b cs)
    (hp : tmps.getD p undef = .pointer (some ⟨b, 0, none⟩)) (hq : tmps.getD q undef = u) {d : TypeDesc} (hu : P.underlying ty = some d) (hd : d.isRow = true) (hi : (P.info? ty).map (·.size) = some cs.length) :
    (results fn tmps).run P w = .ok (.tuple #[.agg cs.toArray, u]) w := by
  have hp' : tmps[p]?.getD undef = .pointer (some ⟨b, 0, none⟩) := by simpa using hp
  have hq' : tmps[q]?.getD undef = u := by simpa using hq
  simp [results, h, hp', hq', asAddr, run_var_box hb ty hu hd hi]
end

end Go.Proofs.Ytjhlpkkefdohjaa
