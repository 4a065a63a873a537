/-
  Laws of the walk for great structs: parts loaded and stored, cells stored, values built.
-/
import Derived.Test.YtkpdlbcmnfphmaaFmCell
namespace Go.Proofs.Ytkpdlbcmnfphmaa
open Go.RowKit

theorem Box.rangeMid {w : World} {b : Nat} {vs : List Value} (h : Box w b vs) (k : Nat) (cs rest : List Value) (he : vs.drop k = cs ++ rest) : w.rangeAt b k cs := fun j v e => by
  have e2 : (vs.drop k)[j]? = some v := by
    rw [he, List.getElem?_append_left (List.getElem?_eq_some_iff.1 e).1]
    exact e
  rw [List.getElem?_drop] at e2
  exact h.c (k + j) v e2
theorem F_gen {F J : World → Prop} {w : World} (h1 : J w) (h : ∀ W, J W → F W) : F w := h _ h1
section
variable {P : Program} {ops : Array Oper} {rest : List Oper} {o : Oper} {a : Act} {w : World} {K : Act → World → Prop} {Q : Exit → Act → World → Prop} {E : Prop}
theorem wpList_load_box9 (hw : Region.wanted o (yielded ops a.tmps) = true) (ty : TypeId) (x : Operand) (ho : o.op = .load ty x) {b : Nat} {cs : List Value} (hb : Box w b cs) (hx : a.eval x = .pointer (some ⟨b, 0, none⟩)) {d : TypeDesc}
    (hu : P.underlying ty = some d) (hd : d.isRow = true) (hi : (P.info? ty).map (·.size) = some cs.length)
    (h : wpList P ops Q rest (a.put o.dst (.agg cs.toArray)) w) : wpList P ops Q (o :: rest) a w :=
  wpList_load_rangew hw ty x ho hb.range hx hu hd hi h
theorem wpList_build9 (hw : Region.wanted o (yielded ops a.tmps) = true) (t : TypeId) (xs : Array (Nat × Operand)) (ho : o.op = .build t xs) {v : Value} {us : Array (Nat × Value)} (hx : (xs.toList.map fun p => (p.1, a.eval p.2)) = us.toList) (hr : (Instr.build t us).run P w = .ok v w)
    (h : wpList P ops Q rest (a.put o.dst v) w) : wpList P ops Q (o :: rest) a w := by
  have hx' : (xs.map fun (i, x) => (i, a.eval x)) = us := by
    apply Array.ext'
    rw [Array.toList_map, ← hx]
  subst hx'
  refine BigFrame.wpList_want hw fun _ hK => ?_
  unfold Oper.wp execOp
  simp only [ho, Sem.run_bind, hr, Result.andThen_ok, Sem.run_pure]
  exact hK _ _ h
theorem step_store_part0 (hgd : o.guard = none) (hd : o.dst = none) (ty : TypeId) (x y : Operand) (ho : o.op = .store ty x y) {b k : Nat} {us cs ws : List Value} (hb : Box w b us) (hx : a.eval x = .pointer (some ⟨b, k, none⟩)) (hy : a.eval y = .agg cs.toArray)
    (hi : (P.info? ty).map (·.size) = some cs.length) (hk : k + cs.length ≤ us.length) (hw : ws = us.take k ++ cs ++ us.drop (k + cs.length)) (h1 : cs.toArray.all (·.oneCell') = true)
    (hK : ∀ W, Stored w b ws W → K a W) : if Region.wanted o (yielded ops a.tmps) = true then Oper.wp P o a w K Q else E := by
  rw [if_pos (by simp [Region.wanted, hgd])]
  exact wp_store_mid ty x y ho b k cs.toArray hx hy (by simpa using hb.thereAt k cs.length hk) (by simpa using hi) h1 (by rw [hd]; exact hK _ (Stored.part hb hk hw))
theorem run_storeVar_cell (b k : Nat) (ty : TypeId) {v : Value} (hv : v.cells = #[v]) (hv2 : v.oneCell' = true) (ht : w.there b k 1) (hi : (P.info? ty).map (·.size) = some 1) : (storeVar ty ⟨b, k, none⟩ v).run P w = .ok () (w.setCells b k [v]) := by
  have := run_storeCells_cells (P := P) b k [v] 0 w (fun j hj => by simpa using (ht j (by simpa using hj)).1) (fun j hj => by simpa using (ht j (by simpa using hj)).2) (fun u hu => by simp at hu; rw [hu]; exact hv2)
  cases hq : P.info? ty with
  | none => simp [hq] at hi
  | some i =>
    have hs : i.size = 1 := by simpa [hq] using hi
    simp only [Nat.add_zero] at this
    simp [storeVar, sizeOf, typeInfo, hq, hv, hs, this]
theorem wp_store_cell (ty : TypeId) (x y : Operand) (ho : o.op = .store ty x y) {b k : Nat} {us ws : List Value} {v : Value} (hb : Box w b us) (hx : a.eval x = .pointer (some ⟨b, k, none⟩)) (hy : a.eval y = v) (hv : v.cells = #[v]) (hv2 : v.oneCell' = true)
    (hi : (P.info? ty).map (·.size) = some 1) (hk : k < us.length) (hw : ws = us.set k v) (h : ∀ W, Stored w b ws W → K (a.put o.dst undef) W) : o.wp P a w K Q := by
  unfold Oper.wp execOp
  simp only [ho, hx, hy, Instr.storeAt, Instr.sureAddr, Sem.run_bind, Sem.run_pure, Result.andThen_ok, run_storeVar_cell b k ty hv hv2 (hb.thereAt k 1 (by omega)) hi]
  refine h _ (Stored.part hb (by simp; omega) ?_)
  rw [hw, List.set_eq_take_append_cons_drop, if_pos hk]
  simp
theorem step_store_cell0 (hgd : o.guard = none) (hd : o.dst = none) (ty : TypeId) (x y : Operand) (ho : o.op = .store ty x y) {b k : Nat} {us ws : List Value} {v : Value} (hb : Box w b us) (hx : a.eval x = .pointer (some ⟨b, k, none⟩)) (hy : a.eval y = v) (hv : v.cells = #[v]) (hv2 : v.oneCell' = true)
    (hi : (P.info? ty).map (·.size) = some 1) (hk : k < us.length) (hw : ws = us.set k v) (hK : ∀ W, Stored w b ws W → K a W) : if Region.wanted o (yielded ops a.tmps) = true then Oper.wp P o a w K Q else E := by
  rw [if_pos (by simp [Region.wanted, hgd])]
  exact wp_store_cell ty x y ho hb hx hy hv hv2 hi hk hw (by rw [hd]; exact hK)
theorem wpList_store_cell (hgd : o.guard = none) (ty : TypeId) (x y : Operand) (ho : o.op = .store ty x y) {b k : Nat} {us ws : List Value} {v : Value} (hb : Box w b us) (hx : a.eval x = .pointer (some ⟨b, k, none⟩)) (hy : a.eval y = v) (hv : v.cells = #[v]) (hv2 : v.oneCell' = true)
    (hi : (P.info? ty).map (·.size) = some 1) (hk : k < us.length) (hw : ws = us.set k v) (h : ∀ W, Stored w b ws W → wpList P ops Q rest (a.put o.dst undef) W) : wpList P ops Q (o :: rest) a w :=
  wpList_plain hgd fun _ hK => wp_store_cell ty x y ho hb hx hy hv hv2 hi hk hw fun W hW => hK _ _ (h W hW)
end

end Go.Proofs.Ytkpdlbcmnfphmaa
