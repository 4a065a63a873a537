/-
  What the walks of Token and Command share, of the reference and of the package.
-/
import Derived.Test.YtpccahdbienjeaaRIdE
import Derived.Test.YtpccahdbienjeaaIdPut
import Derived.Test.YtpccahdbienjeaaGQ1
import Derived.Test.YtpccahdbienjeaaGQ3
import Derived.Test.YtpccahdbienjeaaGQ8
namespace Go.Proofs.Ytpccahdbienjeaa
open Go.RowKit

theorem size_i0 : (Try.prog.info? 25).map (·.size) = some id0.length := size_id12 _ _
theorem one_i0 : id0.toArray.all (·.oneCell') = true := one_id12 _ _ _ _ _ _
theorem build_i0 (W : World) : (Instr.build 25 #[]).run Try.prog W = .ok (.agg id0.toArray) W := by kernel_rfl
theorem size_sT : (Try.prog.info? 22).map (·.size) = some 1 := by kernel_rfl
theorem size_sC : (Try.prog.info? 23).map (·.size) = some 1 := by kernel_rfl
theorem Ty.setCell12 {w : World} {b : Nat} {T : TypeId} (h : Ty w b T) (a : Addr) (v : Value) : Ty (w.setCell a v) b T := by
  obtain ⟨cs, fr, h⟩ := h
  by_cases q : b = a.block
  · refine ⟨if a.spot.isSome then cs else cs.setIfInBounds a.off v, fr, ?_⟩
    simp [World.setCell, Array.getElem?_modify, ← q, h]
  · exact ⟨cs, fr, by rw [heap_setCell_other w a b v q]; exact h⟩
theorem Ty.setCells12 {b : Nat} {T : TypeId} (g : Nat) : ∀ (vs : List Value) (o : Nat) (w : World), Ty w b T → Ty (w.setCells g o vs) b T
  | [], _, _, h => h
  | v :: vs, o, _, h => Ty.setCells12 g vs (o + 1) _ (h.setCell12 ⟨g, o, none⟩ v)
theorem wpList_store_boxT12 {P : Program} {ops : Array Oper} {rest : List Oper} {o : Oper} {a : Act} {w : World} {Q : Exit → Act → World → Prop} (hgd : o.guard = none) (ty : TypeId) (x y : Operand) (ho : o.op = .store ty x y) {b : Nat} {us cs : List Value} (hb : Box w b us) (hx : a.eval x = .pointer (some ⟨b, 0, none⟩)) (hy : a.eval y = .agg cs.toArray)
    (hi : (P.info? ty).map (·.size) = some cs.length) (hl : us.length = cs.length) (h1 : cs.toArray.all (·.oneCell') = true)
    (h : ∀ W, Stored w b cs W → (∀ T, Ty w b T → Ty W b T) → wpList P ops Q rest (a.put o.dst undef) W) : wpList P ops Q (o :: rest) a w :=
  wpList_store_mid hgd ty x y ho b 0 cs.toArray hx hy (by have := hb.there; rw [hl] at this; simpa using this) (by simpa using hi) h1 (h _ (Stored.mk' hb hl) (fun T hT => Ty.setCells12 b _ _ _ hT))
theorem ownR_len {w : World} {B e s n m : Nat} {v : Value} {l : List Value} (h : w.ownsRow B e s v n l) (hn : n = m) : w.ownsRow B e s v m l := hn ▸ h
theorem ownR_storedT {w W : World} {b : Nat} {vs : List Value} {T : TypeId} (hs : Stored w b vs W) (hT : Ty w b T) {B e s n : Nat} {v : Value} {l : List Value} (h : w.ownsRow B e s v n l) (hne : T ≠ e) : W.ownsRow B e s v n l := by
  refine ⟨h.1, ?_⟩
  rcases h.2 with q | ⟨g, cap, cur, e1, hB, hg, r⟩
  · exact Or.inl q
  · refine Or.inr ⟨g, cap, cur, e1, hB, ?_, r⟩
    rw [hs.block g (fun q => ?_)]
    · exact hg
    · obtain ⟨c, fr, hc⟩ := hT
      rw [q, hg] at hc
      simp only [Option.some.injEq, Obj.cells.injEq] at hc
      exact hne hc.2.1.symm
/-- A table of the call's own, and an error. -/
def GivesDE (ts : List Tk) (cs : List Cmd) (q : Int) (w : World) (e : Ending) (w' : World) : Prop := ∃ a b, e = .returned (.tuple #[.agg #[a, b], .int .i64 q]) ∧ w'.ownsRow w.heap.size 34 36 a ts.length (flatR LT ts) ∧ w'.ownsRow w.heap.size 39 47 b cs.length (flatR LC cs) ∧ Below w.heap.size w w'

theorem Dst.one {α β : Type} {f : α → β} {l : List α} (h : Dst f l l.length) {x y : α} (hx : x ∈ l) (hy : y ∈ l) (e : f x = f y) : x = y := by
  obtain ⟨i, hi⟩ := List.getElem?_of_mem hx
  obtain ⟨j, hj⟩ := List.getElem?_of_mem hy
  rcases Nat.lt_trichotomy i j with q | q | q
  · exact absurd e (h i j x y q (List.getElem?_eq_some_iff.1 hj).1 hi hj)
  · subst q
    rw [hi] at hj
    exact Option.some.inj hj
  · exact absurd e.symm (h j i y x q (List.getElem?_eq_some_iff.1 hi).1 hj hi)
theorem Fnd.none_of {α : Type} {p : α → Prop} {l : List α} {i : Int} (h : Fnd p l i) (hn : ∀ x ∈ l, ¬ p x) : i = -1 := by
  rcases h with ⟨n, rfl, ⟨x, hx, px⟩, _⟩ | ⟨rfl, _⟩
  · exact absurd px (hn x (List.mem_of_getElem? hx))
  · rfl

end Go.Proofs.Ytpccahdbienjeaa
