/-
  Values made of integers alone (structs and arrays of such, to whatever depth): compared, and read as they came in.
-/
import Derived.Test.YtjhlpkkefdohjaaKit
import Derived.DeepKeys
namespace Go.Proofs.Ytjhlpkkefdohjaa
open Go.ChangeShapes Go.WideShapes Go.ChangeAt Go.RowKit Go.Joins

/-- A cell that is an integer of a kind, and fits it. -/
def FitC (q : IntKind) (c : Value) : Prop := ∃ n : Int, c = .int q n ∧ (Lit.int q n).wf = true
/-- Cells that are integers of these kinds. -/
def Fit : List IntKind → List Value → Prop
  | [], [] => True
  | q :: ks, c :: cs => FitC q c ∧ Fit ks cs
  | _, _ => False
theorem Fit.len : ∀ {ks : List IntKind} {cs : List Value}, Fit ks cs → cs.length = ks.length
  | [], [], _ => rfl
  | _ :: _, _ :: _, h => by simp [Fit.len h.2]
  | [], _ :: _, h => h.elim
  | _ :: _, [], h => h.elim
theorem Fit.cons {q : IntKind} {ks : List IntKind} {c : Value} {cs : List Value} (h : FitC q c) (h2 : Fit ks cs) : Fit (q :: ks) (c :: cs) := ⟨h, h2⟩
theorem Fit.inv {q : IntKind} {ks : List IntKind} : ∀ {cs : List Value}, Fit (q :: ks) cs → ∃ (n : Int) (cs' : List Value), cs = .int q n :: cs' ∧ (Lit.int q n).wf = true ∧ Fit ks cs'
  | [], h => h.elim
  | _ :: cs, ⟨⟨n, e, h⟩, h2⟩ => ⟨n, cs, by rw [e], h, h2⟩
theorem Fit.app : ∀ {ks ls : List IntKind} {cs ds : List Value}, Fit ks cs → Fit ls ds → Fit (ks ++ ls) (cs ++ ds)
  | [], _, [], _, _, h2 => h2
  | _ :: _, _, _ :: _, _, h, h2 => ⟨h.1, Fit.app h.2 h2⟩
  | [], _, _ :: _, _, h, _ => h.elim
  | _ :: _, _, [], _, h, _ => h.elim
theorem Fit.split : ∀ {ks ls : List IntKind} {cs : List Value}, Fit (ks ++ ls) cs → Fit ks (cs.take ks.length) ∧ Fit ls (cs.drop ks.length)
  | [], _, cs, h => ⟨by simp [Fit], by simpa using h⟩
  | _ :: ks, ls, [], h => h.elim
  | _ :: ks, ls, c :: cs, h => by
    have := Fit.split h.2
    exact ⟨⟨h.1, this.1⟩, this.2⟩
theorem Fit.row {n : Nat} {ks : List IntKind} : ∀ {cs : List Value}, Fit (List.replicate n ks).flatten cs → ∀ i, i < n → Fit ks ((cs.drop (i * ks.length)).take ks.length) := by
  induction n with
  | zero => intro cs _ i hi; omega
  | succ n ih =>
    intro cs h i hi
    rw [List.replicate_succ, List.flatten_cons] at h
    have hs := h.split
    cases i with
    | zero => simpa using hs.1
    | succ i =>
      have := ih hs.2 i (by omega)
      rw [List.drop_drop] at this
      rwa [Nat.add_mul, Nat.one_mul, Nat.add_comm]
theorem Fit.row_mk {ks : List IntKind} : ∀ {n : Nat} {cs : List Value}, cs.length = n * ks.length → (∀ i, i < n → Fit ks ((cs.drop (i * ks.length)).take ks.length)) → Fit (List.replicate n ks).flatten cs := by
  intro n
  induction n with
  | zero =>
    intro cs hl _
    rw [Nat.zero_mul] at hl
    obtain rfl := List.eq_nil_of_length_eq_zero hl
    trivial
  | succ n ih =>
    intro cs hl h
    rw [List.replicate_succ, List.flatten_cons, ← List.take_append_drop ks.length cs]
    refine Fit.app (by simpa using h 0 (by omega)) (ih ?_ ?_)
    · rw [List.length_drop, hl, Nat.add_mul]; omega
    · intro i hi
      have := h (i + 1) (by omega)
      rw [List.drop_drop, show ks.length + i * ks.length = (i + 1) * ks.length by rw [Nat.add_mul]; omega]
      exact this

/-- The kinds of a struct's cells. -/
def kindsF (P : Program) (K : TypeId → Option (List IntKind)) : List Field → Nat → Option (List IntKind)
  | [], _ => some []
  | f :: fs, o => match K f.type with
    | some ks => if f.offset = o ∧ (f.name != "_") = true ∧ P.cellsOf f.type = ks.length then (match kindsF P K fs (o + ks.length) with | some ls => some (ks ++ ls) | none => none) else none
    | none => none
/-- The kinds of a type's cells, if they are integers alone. -/
def kindsT (P : Program) : Nat → TypeId → Option (List IntKind)
  | 0, _ => none
  | d + 1, t => match P.underlying t with
    | some (.int q) => some [q]
    | some (.array n e) => (match kindsT P d e with
      | some ks => if P.cellsOf t = n * ks.length ∧ P.cellsOf e = ks.length then some (List.replicate n ks).flatten else none
      | none => none)
    | some (.struct fs) => (match kindsF P (kindsT P d) fs.toList 0 with
      | some ks => if P.cellsOf t = ks.length then some ks else none
      | none => none)
    | _ => none

def litC : Value → Lit
  | .int q n => .int q n
  | _ => .bool false
theorem mapM_all {α β : Type} {f : α → Option β} {g : α → β} : ∀ {l : List α}, (∀ x ∈ l, f x = some (g x)) → l.mapM f = some (l.map g)
  | [], _ => rfl
  | x :: l, h => by
    rw [List.mapM_cons, h x (by simp), mapM_all (fun y hy => h y (by simp [hy]))]
    rfl
theorem chunks (c : Nat) : ∀ (n : Nat) (cs : List Value), ((List.range n).map fun i => ((cs.drop (i * c)).take c).map litC).flatten = (cs.take (n * c)).map litC
  | 0, cs => by simp
  | n + 1, cs => by
    rw [List.range_succ, List.map_append, List.flatten_append, chunks c n cs, Nat.add_mul, Nat.one_mul, List.take_add, List.map_append]
    simp
theorem flatten_len (n : Nat) (ks : List IntKind) : (List.replicate n ks).flatten.length = n * ks.length := by
  induction n with
  | zero => simp
  | succ n ih => rw [List.replicate_succ, List.flatten_cons, List.length_append, ih, Nat.add_mul]; omega

theorem kindsF_lits {P : Program} {d : Nat} (IH : ∀ (t : TypeId) (ks : List IntKind) (cs : List Value), kindsT P d t = some ks → Fit ks cs → P.keyLits d t cs = some (cs.map litC)) :
    ∀ (fs : List Field) (o : Nat) (ks : List IntKind) (cs : List Value), kindsF P (kindsT P d) fs o = some ks → Fit ks (cs.drop o) →
      fs.all (·.name != "_") = true ∧ ∃ ls, (fs.mapM fun f => P.keyLits d f.type ((cs.drop f.offset).take (P.cellsOf f.type))) = some ls ∧ ls.flatten = (cs.drop o).map litC
  | [], o, ks, cs, h, hf => by
    simp [kindsF] at h
    subst h
    have := hf.len
    rw [List.length_nil] at this
    exact ⟨rfl, [], rfl, by rw [List.eq_nil_of_length_eq_zero this]; rfl⟩
  | f :: fs, o, ks, cs, h, hf => by
    unfold kindsF at h
    split at h
    · rename_i k0 hk
      split at h
      · rename_i hc
        split at h
        · rename_i l0 hl
          obtain rfl : k0 ++ l0 = ks := by simpa using h
          obtain ⟨h1, h2⟩ := hf.split
          rw [List.drop_drop] at h2
          obtain ⟨i1, ls, i2, i3⟩ := kindsF_lits IH fs _ _ cs hl h2
          refine ⟨by rw [List.all_cons, hc.2.1, i1]; rfl, ((cs.drop o).take k0.length).map litC :: ls, ?_, ?_⟩
          · rw [List.mapM_cons, hc.1, hc.2.2, IH _ _ _ hk h1, i2]
            rfl
          · rw [List.flatten_cons, i3, ← List.map_append, ← List.drop_drop, List.take_append_drop]
        · cases h
      · cases h
    · cases h
theorem kinds_lits {P : Program} : ∀ (d : Nat) (t : TypeId) (ks : List IntKind) (cs : List Value), kindsT P d t = some ks → Fit ks cs → P.keyLits d t cs = some (cs.map litC)
  | 0, _, _, _, h, _ => by simp [kindsT] at h
  | d + 1, t, ks, cs, h, hf => by
    unfold kindsT at h
    split at h
    · rename_i q hu
      obtain rfl : [q] = ks := by simpa using h
      obtain ⟨n, cs', rfl, hw, h2⟩ := hf.inv
      have := h2.len
      rw [List.length_nil] at this
      obtain rfl := List.eq_nil_of_length_eq_zero this
      simp [Program.keyLits, hu, hw, litC]
    · rename_i n e hu
      split at h
      · rename_i k0 hk
        split at h
        · rename_i hc
          obtain rfl : (List.replicate n k0).flatten = ks := by simpa using h
          have hl := hf.len
          rw [flatten_len] at hl
          unfold Program.keyLits
          rw [hu]
          have e1 : ((List.range n).mapM fun i => P.keyLits d e ((cs.drop (i * P.cellsOf e)).take (P.cellsOf e))) = some ((List.range n).map fun i => ((cs.drop (i * k0.length)).take k0.length).map litC) :=
            mapM_all fun i hi => by
              rw [hc.2]
              exact kinds_lits d e k0 _ hk (hf.row i (List.mem_range.1 hi))
          simp only [e1, Option.map_some, chunks]
          rw [if_pos (by rw [hl, hc.1]), List.take_of_length_le (by omega)]
        · cases h
      · cases h
    · rename_i fs hu
      split at h
      · rename_i k0 hk
        split at h
        · rename_i hc
          obtain rfl : k0 = ks := by simpa using h
          obtain ⟨h1, ls, h2, h3⟩ := kindsF_lits (kinds_lits d) fs.toList 0 k0 cs hk (by simpa using hf)
          unfold Program.keyLits
          rw [hu]
          simp only [h2, Option.map_some, h3]
          rw [if_pos ⟨by rw [hf.len, hc], by rw [← Array.all_toList]; exact h1⟩]
          simp
        · cases h
      · cases h
    · cases h
theorem litC_inj : ∀ {ks : List IntKind} {xs ys : List Value}, Fit ks xs → Fit ks ys → xs.map litC = ys.map litC → xs = ys
  | [], [], [], _, _, _ => rfl
  | _ :: _, _ :: xs, _ :: ys, ⟨⟨a, ea, _⟩, h1⟩, ⟨⟨b, eb, _⟩, h2⟩, h => by
    subst ea eb
    simp [litC] at h
    rw [h.1, litC_inj h1 h2 (by simpa using h.2)]
  | [], _ :: _, _, h, _, _ => h.elim
  | [], [], _ :: _, _, h, _ => h.elim
  | _ :: _, [], _, h, _, _ => h.elim
  | _ :: _, _ :: _, [], _, h, _ => h.elim
def aggB (P : Program) (t : TypeId) : Bool := match P.underlying t with | some (.struct _) | some (.array _ _) => true | _ => false
theorem formed_agg {P : Program} {t : TypeId} {cs : Array Value} (ha : aggB P t = true) (hc : cs.size = P.cellsOf t) : (Value.agg cs).formed P t = true := by
  unfold aggB at ha
  unfold Value.formed
  split at ha
  · rename_i h
    simp [hc, h]
  · rename_i h
    simp [hc, h]
  · cases ha
/-- Two values of a type of integers alone, compared. -/
theorem eq_flat {P : Program} (m : Nat) {t : TypeId} {ks : List IntKind} (hm : m ≤ 10000) (hk : P.keyTypeAt m t = true) (hl : kindsT P m t = some ks) (ha : aggB P t = true) (hc : P.cellsOf t = ks.length)
    {xs ys : List Value} (hx : Fit ks xs) (hy : Fit ks ys) (W : World) : ∃ r : Bool, (Op.equalIn 10000 t (.agg xs.toArray) (.agg ys.toArray)).run P W = .ok r W ∧ (r = true ↔ xs = ys) := by
  obtain ⟨r, hr, hi⟩ := run_equalIn_deep (10000 - m) m t hk W m m (.agg xs.toArray) (.agg ys.toArray) _ _ (formed_agg ha (by simp [hx.len, hc])) (formed_agg ha (by simp [hy.len, hc])) (kinds_lits m t ks xs hl hx) (kinds_lits m t ks ys hl hy)
  rw [Nat.sub_add_cancel hm] at hr
  exact ⟨r, hr, hi.trans ⟨litC_inj hx hy, fun e => by rw [e]⟩⟩
theorem eq_flat_t {P : Program} (m : Nat) {t : TypeId} {ks : List IntKind} (hm : m ≤ 10000) (hk : P.keyTypeAt m t = true) (hl : kindsT P m t = some ks) (ha : aggB P t = true) (hc : P.cellsOf t = ks.length)
    {xs ys : List Value} (hx : Fit ks xs) (he : xs = ys) (W : World) : (Op.equalIn 10000 t (.agg xs.toArray) (.agg ys.toArray)).run P W = .ok true W := by
  subst he
  obtain ⟨r, hr, hi⟩ := eq_flat m hm hk hl ha hc hx hx W
  rw [hr, hi.2 rfl]
theorem eq_flat_f {P : Program} (m : Nat) {t : TypeId} {ks : List IntKind} (hm : m ≤ 10000) (hk : P.keyTypeAt m t = true) (hl : kindsT P m t = some ks) (ha : aggB P t = true) (hc : P.cellsOf t = ks.length)
    {xs ys : List Value} (hx : Fit ks xs) (hy : Fit ks ys) (he : xs ≠ ys) (W : World) : (Op.equalIn 10000 t (.agg xs.toArray) (.agg ys.toArray)).run P W = .ok false W := by
  obtain ⟨r, hr, hi⟩ := eq_flat m hm hk hl ha hc hx hy W
  rw [hr]
  cases r
  · rfl
  · exact absurd (hi.1 rfl) he

section
variable {H : Type} {enc : TypeId × Value → H} {P : Program} {w : World} {base : Nat} {spare : Nat → Bool} {held : Bool}
theorem kindsF_open {d : Nat} {n : Nat} (IH : ∀ (t : TypeId) (ks : List IntKind) (fuel : Nat) (cs : List Value) (x : DataW H × List MemPlace), kindsT P d t = some ks → DataW.trod enc P w base spare held fuel t cs = some x → Fit ks cs) :
    ∀ (fs : List Field) (o : Nat) (ks : List IntKind) (cs : List Value) (xs : List (DataW H × List MemPlace)), kindsF P (kindsT P d) fs o = some ks → cs.length = o + ks.length → xs.length = fs.length →
      (∀ (i : Nat) (f : Field), fs[i]? = some f → DataW.trod enc P w base spare held n f.type ((cs.drop f.offset).take (P.cellsOf f.type)) = xs[i]?) → Fit ks (cs.drop o)
  | [], o, ks, cs, xs, h, hl, _, _ => by
    simp [kindsF] at h
    subst h
    rw [List.drop_of_length_le (by simp at hl; omega)]
    trivial
  | f :: fs, o, ks, cs, xs, h, hl, hx, hf => by
    unfold kindsF at h
    split at h
    · rename_i k0 hk
      split at h
      · rename_i hc
        split at h
        · rename_i l0 hl0
          obtain rfl : k0 ++ l0 = ks := by simpa using h
          match xs, hx with
          | x :: xs, hx =>
            have h0 := hf 0 f rfl
            rw [hc.1, hc.2.2] at h0
            rw [List.length_append] at hl
            rw [← List.take_append_drop k0.length (cs.drop o)]
            refine Fit.app (IH _ _ _ _ _ hk h0) ?_
            rw [List.drop_drop]
            exact kindsF_open IH fs _ _ cs xs hl0 (by omega) (by simpa using hx) (fun i g hg => hf (i + 1) g hg)
        · cases h
      · cases h
    · cases h
/-- A value of integers alone that came in. -/
theorem kinds_open : ∀ (d : Nat) (t : TypeId) (ks : List IntKind) (fuel : Nat) (cs : List Value) (x : DataW H × List MemPlace), kindsT P d t = some ks → DataW.trod enc P w base spare held fuel t cs = some x → Fit ks cs
  | 0, _, _, _, _, _, h, _ => by simp [kindsT] at h
  | d + 1, t, ks, fuel, cs, x, h, hx => by
    unfold kindsT at h
    split at h
    · rename_i q hu
      obtain rfl : [q] = ks := by simpa using h
      obtain ⟨n, rfl, _, hw⟩ := DataW.trod_int hu hx
      exact ⟨⟨n, rfl, hw⟩, trivial⟩
    · rename_i n e hu
      split at h
      · rename_i k0 hk
        split at h
        · rename_i hc
          obtain rfl : (List.replicate n k0).flatten = ks := by simpa using h
          obtain ⟨xs, m, _, _, hl, hxs, hi⟩ := DataW.trod_array hu hx
          rw [hc.1] at hl
          refine Fit.row_mk hl fun i hi' => ?_
          have h1 := hi i hi'
          rw [hc.2, List.getElem?_eq_getElem (by omega)] at h1
          exact kinds_open d e k0 _ _ _ hk h1
        · cases h
      · cases h
    · rename_i fs hu
      split at h
      · rename_i k0 hk
        split at h
        · rename_i hc
          obtain rfl : k0 = ks := by simpa using h
          obtain ⟨xs, n, _, _, hl, hxs, hf⟩ := DataW.trod_struct hu hx
          have := kindsF_open (n := n) (kinds_open d) fs.toList 0 k0 cs xs hk (by rw [hl, hc]; omega) (by simpa using hxs) (fun i f hg => hf i f (by simpa using hg))
          simpa using this
        · cases h
      · cases h
    · cases h
end
/-- An argument of a type of integers alone. -/
theorem open_flat {H : Type} {enc : TypeId × Value → H} {P : Program} {W : World} {r : Reach} {b0 : Nat} {sp : Nat → Bool} {held : Bool} {base : Nat} {t : TypeId} {v : Value} {d : DataW H} {p : List MemPlace} (m : Nat) {ks : List IntKind} (hl : kindsT P m t = some ks) (ha : aggB P t = true)
    (hw : Value.okWide P W r b0 t v) (h : DataW.Trod enc P W base sp held t v d p) : ∃ cs : List Value, v = .agg cs.toArray ∧ Fit ks cs := by
  have hv : ∃ cs : Array Value, v = .agg cs := by
    unfold aggB at ha
    unfold Value.okWide at hw
    split at ha
    · rename_i hu
      simp only [hu] at hw
      obtain ⟨cs, rfl, _⟩ := hw
      exact ⟨cs, rfl⟩
    · rename_i hu
      simp only [hu] at hw
      obtain ⟨cs, rfl, _⟩ := hw
      exact ⟨cs, rfl⟩
    · cases ha
  obtain ⟨cs, rfl⟩ := hv
  obtain ⟨fuel, hf⟩ := h
  exact ⟨cs.toList, by simp, kinds_open m t ks fuel _ _ hl (by simpa [Value.cells] using hf)⟩
/-- Bytes among the cells. -/
theorem fit_ints {q : IntKind} {lo hi : Int} (hq : ∀ n : Int, lo ≤ n ∧ n ≤ hi → (Lit.int q n).wf = true) : ∀ {xs : List Int} {n : Nat}, xs.length = n → (∀ x ∈ xs, lo ≤ x ∧ x ≤ hi) → Fit (List.replicate n q) (xs.map (Value.int q))
  | [], n, h, _ => by
    obtain rfl : 0 = n := h
    trivial
  | x :: xs, n, h, hb => by
    obtain rfl : xs.length + 1 = n := h
    exact ⟨⟨x, rfl, hq x (hb x (by simp))⟩, fit_ints hq rfl fun y hy => hb y (by simp [hy])⟩
theorem fit_ints_inv {q : IntKind} : ∀ {n : Nat} {cs : List Value}, Fit (List.replicate n q) cs → ∃ xs : List Int, cs = xs.map (Value.int q) ∧ xs.length = n ∧ ∀ x ∈ xs, (Lit.int q x).wf = true
  | 0, [], _ => ⟨[], rfl, rfl, fun x h => by cases h⟩
  | 0, _ :: _, h => h.elim
  | n + 1, cs, h => by
    rw [List.replicate_succ] at h
    obtain ⟨k, cs', rfl, hw, h2⟩ := h.inv
    obtain ⟨xs, rfl, hl, hx⟩ := fit_ints_inv h2
    refine ⟨k :: xs, rfl, by simp [hl], fun x hm => ?_⟩
    rcases List.mem_cons.1 hm with q | q
    · rw [q]; exact hw
    · exact hx x q
theorem wf_of {q : IntKind} {n : Int} (h : q.min ≤ n ∧ n ≤ q.max) : (Lit.int q n).wf = true := by simpa [Lit.wf] using h
theorem wf_inv {q : IntKind} {n : Int} (h : (Lit.int q n).wf = true) : q.min ≤ n ∧ n ≤ q.max := by simpa [Lit.wf] using h

end Go.Proofs.Ytjhlpkkefdohjaa
