/-
  append of a slice of numbers, nil or not, onto a row of the call's own; an empty row; a row as a list of numbers.
-/
import Derived.Test.YtjhlpkkefdohjaaSlices
import Derived.Laws.AppendOwnNone
import Derived.Laws.OwnMore
import Derived.BigFrame
namespace Go.Proofs.Ytjhlpkkefdohjaa
open Go.RowKit

theorem wp_append_ints {P : Program} {w : World} {o : Oper} {a : Act} {K : Act → World → Prop} {Q : Exit → Act → World → Prop} (s x : Operand) (t : TypeId)
    (ho : o.op = .call { callee := .builtin .append, args := #[s, x], argTypes := #[t, t] })
    (base : Nat) (e : TypeId) (i : TypeInfo) (z : Value) (bytes : Nat) (k : IntKind) (ht : P.underlying t = some (.slice e)) (hi : P.info? e = some i) (hz : i.zero = some z)
    (hsize : i.size = 1) (hby : i.bytes = bytes) (hzs : z.cells.size = 1)
    (v : Value) (n : Nat) (l : List Value) (hs : a.eval s = v) (hown : w.ownsRow base e 1 v n l)
    (at0 : Option Addr) (cap : Nat) (xs : List Int) (hx : a.eval x = .slice at0 xs.length cap) (hin : Ints w k at0 cap xs) (h0 : at0 = none → cap = 0)
    (h63 : n + xs.length ≤ maxLen) (hbytes : (n + xs.length) * bytes ≤ 140737488355328) (hbase : base ≤ w.heap.size)
    (h : ∀ v' w', w'.ownsRow base e 1 v' (n + xs.length) (l ++ xs.map (Value.int k)) → w.grownBy w' v.ownBlock → K (a.put o.dst v') w') : o.wp P a w K Q := by
  cases at0 with
  | none =>
    have hc := h0 rfl
    subst hc
    have hl : xs = [] := List.eq_nil_of_length_eq_zero (by have := hin.room; omega)
    subst hl
    have hrun := run_append_owned_none (P := P) (w := w) base t o.type e i 1 ht hi v n l hown
    have hk := h v w (by simpa using hown) (World.grownBy.refl w _)
    unfold Oper.wp
    simp [execOp, ho, resolve, invoke, builtin, hs, hx, hrun, Result.andThen]
    exact hk
  | some ad =>
    obtain ⟨b, off, spot⟩ := ad
    refine wp_append_own w s x t ho base e i z 1 bytes ht hi hz hsize hby hzs (by omega) v n l hs hown ⟨b, off, spot⟩ xs.length cap (xs.map (Value.int k)) hx (by simp) (fun j u hu => ?_) (fun u hu => ?_) h63 hbytes hbase (fun v' w' h1 h2 _ => h v' w' h1 h2)
    · have hj : j < xs.length := by
        rcases Nat.lt_or_ge j xs.length with q | q
        · exact q
        · rw [List.getElem?_eq_none (by simpa using q)] at hu
          cases hu
      obtain ⟨b', off', e1, hc⟩ := hin.at hj
      cases e1
      rw [List.getElem?_map, List.getElem?_eq_getElem hj] at hu
      simp at hu
      subst hu
      rw [Go.WideShapes.add_plain, hc]
      unfold nth
      rw [List.getD_eq_getElem?_getD, List.getElem?_eq_getElem hj]
      rfl
    · simp at hu
      obtain ⟨y, _, rfl⟩ := hu
      rfl

theorem wpList_append_ints {P : Program} {w : World} {ops : Array Oper} {rest : List Oper} {o : Oper} {a : Act} {Q : Exit → Act → World → Prop} (hw : Region.wanted o (yielded ops a.tmps) = true) (s x : Operand) (t : TypeId)
    (ho : o.op = .call { callee := .builtin .append, args := #[s, x], argTypes := #[t, t] })
    (base : Nat) (e : TypeId) (i : TypeInfo) (z : Value) (bytes : Nat) (k : IntKind) (ht : P.underlying t = some (.slice e)) (hi : P.info? e = some i) (hz : i.zero = some z)
    (hsize : i.size = 1) (hby : i.bytes = bytes) (hzs : z.cells.size = 1)
    (v : Value) (n : Nat) (l : List Value) (hs : a.eval s = v) (hown : w.ownsRow base e 1 v n l)
    (at0 : Option Addr) (cap : Nat) (xs : List Int) (hx : a.eval x = .slice at0 xs.length cap) (hin : Ints w k at0 cap xs) (h0 : at0 = none → cap = 0)
    (h63 : n + xs.length ≤ maxLen) (hbytes : (n + xs.length) * bytes ≤ 140737488355328) (hbase : base ≤ w.heap.size)
    (h : ∀ v' w', w'.ownsRow base e 1 v' (n + xs.length) (l ++ xs.map (Value.int k)) → w.grownBy w' v.ownBlock → wpList P ops Q rest (a.put o.dst v') w') : wpList P ops Q (o :: rest) a w :=
  BigFrame.wpList_want hw fun _ hK => wp_append_ints s x t ho base e i z bytes k ht hi hz hsize hby hzs v n l hs hown at0 cap xs hx hin h0 h63 hbytes hbase fun v' w' h1 h2 => hK _ _ (h v' w' h1 h2)

theorem owns_none {w : World} {base : Nat} {e : TypeId} : w.ownsRow base e 1 (.slice none 0 0) 0 [] := ⟨rfl, Or.inl ⟨rfl, rfl⟩⟩
theorem owns_built {w : World} {base : Nat} {e : TypeId} (l : List Value) (hb : base ≤ w.heap.size) (hl : l.length ≤ maxLen) : (w.alloc (.cells l.toArray e)).ownsRow base e 1 (.slice (some ⟨w.heap.size, 0, none⟩) l.length l.length) l.length l :=
  ⟨by simp, Or.inr ⟨w.heap.size, l.length, l.toArray, rfl, hb, heap_alloc_new w _, Nat.le_refl _, hl, by simp, by simp⟩⟩

/-- A row of the call's own, its value written out. -/
theorem own_ints {w : World} {k : IntKind} {base e : Nat} {v : Value} {xs : List Int} (h : w.ownsRow base e 1 v xs.length (xs.map (Value.int k))) :
    ∃ at0 cap, v = .slice at0 xs.length cap ∧ Ints w k at0 cap xs ∧ (at0 = none → cap = 0) := by
  obtain ⟨at0, cap, rfl, hi⟩ := Ints.of_owned h
  refine ⟨at0, cap, rfl, hi, fun q => ?_⟩
  subst q
  obtain ⟨_, ⟨h1, _⟩ | ⟨g, cap', cur, h1, _⟩⟩ := h
  · injection h1
  · cases h1

end Go.Proofs.Ytjhlpkkefdohjaa
