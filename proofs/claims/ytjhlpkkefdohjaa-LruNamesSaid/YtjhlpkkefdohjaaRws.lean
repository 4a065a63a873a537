/-
  Rows of structs of whatever number of cells, as slice values read; appended; opened.
-/
import Derived.Test.YtjhlpkkefdohjaaBig
import Derived.Deep.Slices
import Derived.Laws.AppendOwn
import Derived.Laws.AppendOwnNone
import Derived.Laws.OwnMore
import Derived.BigFrame
import Derived.Deep.MidRow
namespace Go.Proofs.Ytjhlpkkefdohjaa
open Go.ChangeShapes Go.WideShapes Go.ChangeAt Go.RowKit Go.Joins

/-- How an element lies in cells. -/
structure Lay (α : Type) where
  f : α → List Value
  s : Nat
  pos : 0 < s
  len : ∀ x, (f x).length = s
  one : ∀ x, ∀ u ∈ f x, u.oneCell' = true
variable {α : Type}
theorem Lay.lt {L : Lay α} {x : α} {j : Nat} {v : Value} (h : (L.f x)[j]? = some v) : j < L.s := by
  rcases Nat.lt_or_ge j L.s with q | q
  · exact q
  · rw [List.getElem?_eq_none (by rw [L.len]; exact q)] at h; cases h

/-- A row, as a slice value reads in a world: nil, empty or not. -/
structure Rws (L : Lay α) (w : World) (at0 : Option Addr) (cap : Nat) (xs : List α) : Prop where
  room : xs.length ≤ cap
  most : cap ≤ 9223372036854775807
  cells : 0 < xs.length → ∃ b off, at0 = some ⟨b, off, none⟩ ∧ ∀ i x, xs[i]? = some x → w.rangeAt b (off + i * L.s) (L.f x)
  nil : at0 = none → cap = 0
def IsR (L : Lay α) (w : World) (v : Value) (xs : List α) : Prop := ∃ at0 cap, v = .slice at0 xs.length cap ∧ Rws L w at0 cap xs
theorem range_cells {w w' : World} {b o : Nat} {cs : List Value} (h : w.rangeAt b o cs) (hw : ∀ b o v, w.cell? ⟨b, o, none⟩ = some v → w'.cell? ⟨b, o, none⟩ = some v) : w'.rangeAt b o cs := fun j v hv => hw _ _ _ (h j v hv)
theorem range_below {w w' : World} {b o : Nat} {cs : List Value} (h : w.rangeAt b o cs) (hb : Below w.heap.size w w') : w'.rangeAt b o cs :=
  range_cells h fun b o v hc => by rw [hb.cell (p := ⟨b, o, none⟩) (lt_of_cell' hc)]; exact hc
theorem Rws.of_cells {L : Lay α} {w w' : World} {at0 : Option Addr} {cap : Nat} {xs : List α} (h : Rws L w at0 cap xs)
    (hw : ∀ b o v, w.cell? ⟨b, o, none⟩ = some v → w'.cell? ⟨b, o, none⟩ = some v) : Rws L w' at0 cap xs :=
  ⟨h.room, h.most, fun h0 => let ⟨b, off, e, hc⟩ := h.cells h0; ⟨b, off, e, fun i x hi => range_cells (hc i x hi) hw⟩, h.nil⟩
theorem Rws.none (L : Lay α) (w : World) : Rws L w none 0 [] := ⟨Nat.le_refl _, by omega, fun h => absurd h (by simp), fun _ => rfl⟩
theorem IsR.of_cells {L : Lay α} {w w' : World} {v : Value} {xs : List α} (h : IsR L w v xs) (hw : ∀ b o v, w.cell? ⟨b, o, Option.none⟩ = some v → w'.cell? ⟨b, o, Option.none⟩ = some v) : IsR L w' v xs :=
  let ⟨a, c, e, hi⟩ := h; ⟨a, c, e, hi.of_cells hw⟩
theorem IsR.below {L : Lay α} {w w' : World} {v : Value} {xs : List α} (h : IsR L w v xs) (hb : Below w.heap.size w w') : IsR L w' v xs :=
  h.of_cells fun b o v hc => by rw [hb.cell (p := ⟨b, o, Option.none⟩) (lt_of_cell' hc)]; exact hc
theorem IsR.alloc {L : Lay α} {w : World} {v : Value} {xs : List α} (h : IsR L w v xs) (x : Obj) : IsR L (w.alloc x) v xs :=
  h.of_cells fun b o v hc => by rw [World.cell?_alloc_lt _ _ _ (lt_of_cell' hc)]; exact hc
theorem IsR.drew {L : Lay α} {w : World} {v : Value} {xs : List α} (h : IsR L w v xs) : IsR L w.drew v xs := h.of_cells fun _ _ _ hc => hc
theorem IsR.drewN {L : Lay α} {w : World} {v : Value} {xs : List α} (h : IsR L w v xs) (n : Nat) : IsR L (w.drewN n) v xs := h.of_cells fun _ _ _ hc => hc
theorem IsR.none {L : Lay α} {w : World} : IsR L w (.slice none 0 0) [] := ⟨Option.none, 0, rfl, Rws.none L w⟩
theorem IsR.room {L : Lay α} {w : World} {a : Option Addr} {n c : Nat} {xs : List α} (h : IsR L w (.slice a n c) xs) : n = xs.length ∧ xs.length ≤ c ∧ c ≤ 9223372036854775807 ∧ (a = Option.none → c = 0) := by
  obtain ⟨a', c', e, hi⟩ := h
  injection e with e1 e2 e3
  subst e1 e2 e3
  exact ⟨rfl, hi.room, hi.most, hi.nil⟩
/-- An element, at its place. -/
theorem IsR.get {L : Lay α} {w : World} {a : Option Addr} {n c : Nat} {xs : List α} (h : IsR L w (.slice a n c) xs) (s : Nat) (hs : L.s = s) {i : Nat} {x : α} (hi : xs[i]? = some x) : ∃ b off, a = some ⟨b, off, Option.none⟩ ∧ w.rangeAt b (off + i * s) (L.f x) := by
  subst hs
  obtain ⟨a', c', e, h1⟩ := h
  injection e with e1 e2 e3
  subst e1 e2 e3
  obtain ⟨b, off, e, hc⟩ := h1.cells (by have := (List.getElem?_eq_some_iff.1 hi).1; omega)
  exact ⟨b, off, e, hc i x hi⟩

/-- All cells of a row, one behind the other. -/
def flatR (L : Lay α) (xs : List α) : List Value := xs.flatMap L.f
theorem flatR_len (L : Lay α) (xs : List α) : (flatR L xs).length = xs.length * L.s := by
  induction xs with
  | nil => simp [flatR]
  | cons b xs ih =>
    have e : flatR L (b :: xs) = L.f b ++ flatR L xs := by unfold flatR; simp
    rw [e, List.length_append, ih, L.len, List.length_cons, Nat.add_mul, Nat.one_mul, Nat.add_comm]
theorem flatR_app (L : Lay α) (xs ys : List α) : flatR L (xs ++ ys) = flatR L xs ++ flatR L ys := by unfold flatR; simp
theorem flatR_one (L : Lay α) (x : α) : flatR L [x] = L.f x := by unfold flatR; simp
theorem flatR_at {L : Lay α} : ∀ {xs : List α} {i j : Nat} {x : α} {v : Value}, xs[i]? = some x → (L.f x)[j]? = some v → (flatR L xs)[i * L.s + j]? = some v := by
  intro xs
  induction xs with
  | nil => intro i j x v h; simp at h
  | cons b xs ih =>
    intro i j x v hi hv
    have hj := Lay.lt hv
    have e : flatR L (b :: xs) = L.f b ++ flatR L xs := by unfold flatR; simp
    rw [e]
    cases i with
    | zero =>
      simp at hi
      subst hi
      rw [Nat.zero_mul, Nat.zero_add, List.getElem?_append_left (by rw [L.len]; exact hj)]
      exact hv
    | succ i =>
      rw [List.getElem?_append_right (by rw [L.len, Nat.add_mul]; omega), L.len]
      have e2 : (i + 1) * L.s + j - L.s = i * L.s + j := by rw [Nat.add_mul]; omega
      rw [e2]
      exact ih (by simpa using hi) hv
theorem flatR_inv {L : Lay α} {xs : List α} {j : Nat} {u : Value} (h : (flatR L xs)[j]? = some u) : ∃ x, xs[j / L.s]? = some x ∧ (L.f x)[j % L.s]? = some u := by
  have hj : j < xs.length * L.s := by
    rcases Nat.lt_or_ge j (xs.length * L.s) with q | q
    · exact q
    · rw [List.getElem?_eq_none (by rw [flatR_len]; exact q)] at h
      cases h
  have hi : j / L.s < xs.length := (Nat.div_lt_iff_lt_mul L.pos).2 hj
  refine ⟨xs[j / L.s], List.getElem?_eq_getElem hi, ?_⟩
  have hj2 : j % L.s < (L.f xs[j / L.s]).length := by rw [L.len]; exact Nat.mod_lt _ L.pos
  obtain ⟨x, hx⟩ : ∃ x, (L.f xs[j / L.s])[j % L.s]? = some x := ⟨_, List.getElem?_eq_getElem hj2⟩
  have := flatR_at (List.getElem?_eq_getElem hi) hx
  rw [Nat.div_add_mod' j L.s, h] at this
  rw [hx, this]
theorem flatR_ones {L : Lay α} {xs : List α} {u : Value} (h : u ∈ flatR L xs) : u.oneCell' = true := by
  unfold flatR at h
  rw [List.mem_flatMap] at h
  obtain ⟨b, _, hu⟩ := h
  exact L.one b u hu
/-- What an append has made reads so. -/
theorem IsR.own {L : Lay α} {w : World} {B e n s : Nat} {v : Value} {xs : List α} (h : w.ownsRow B e s v n (flatR L xs)) (hs : L.s = s) (hn : n = xs.length) : IsR L w v xs := by
  subst hn hs
  obtain ⟨_, ⟨rfl, h0⟩ | ⟨g, cap, cur, rfl, _, hb, hn, hm, hs, ht⟩⟩ := h
  · have : xs = [] := List.eq_nil_of_length_eq_zero h0
    subst this
    exact IsR.none
  · refine ⟨some ⟨g, 0, Option.none⟩, cap, rfl, hn, by unfold maxLen at hm; omega, fun _ => ⟨g, 0, rfl, fun i x hi j v hv => ?_⟩, fun q => by cases q⟩
    have hf := flatR_at hi hv
    have hl : i * L.s + j < xs.length * L.s := by rw [← flatR_len]; exact (List.getElem?_eq_some_iff.1 hf).1
    rw [World.cell?]
    simp only [hb]
    have e1 : cur[0 + i * L.s + j]? = (cur.toList.take (xs.length * L.s))[i * L.s + j]? := by
      rw [List.getElem?_take_of_lt hl, Array.getElem?_toList, Nat.zero_add]
    rw [e1, ht]
    exact hf
theorem ownR_built {L : Lay α} {w : World} {b n m s : Nat} {c : Array Value} {e : TypeId} (xs : List α) (hs : L.s = s) (hb : b = w.heap.size) (hc : c = (flatR L xs).toArray) (hn : n = xs.length) (hm : m = xs.length) (hl : xs.length ≤ 1000) : (w.alloc (.cells c e)).ownsRow w.heap.size e s (.slice (some ⟨b, 0, none⟩) n m) n (flatR L xs) := by
  subst hb hc hn hm hs
  exact ⟨flatR_len L xs, Or.inr ⟨w.heap.size, xs.length, (flatR L xs).toArray, rfl, Nat.le_refl _, heap_alloc_new w _, Nat.le_refl _, by unfold maxLen; omega, by simp [flatR_len], by rw [List.take_of_length_le (by simp [flatR_len])]⟩⟩
theorem IsR.built {L : Lay α} {w : World} {b n m : Nat} {c : Array Value} {t : TypeId} (xs : List α) (hb : b = w.heap.size) (hc : c = (flatR L xs).toArray) (hn : n = xs.length) (hm : m = xs.length) (hl : xs.length ≤ 1000) : IsR L (w.alloc (.cells c t)) (.slice (some ⟨b, 0, Option.none⟩) n m) xs :=
  IsR.own (ownR_built xs rfl hb hc hn hm hl) rfl hn

/-- Rows of the call's own. -/
theorem ownR_block {w' : World} {B e s n : Nat} {v : Value} {l : List Value} (h : w'.ownsRow B e s v n l) : ∀ k, v.ownBlock = some k → B ≤ k := by
  obtain ⟨_, ⟨rfl, _⟩ | ⟨g, cap, cur, rfl, hb, _⟩⟩ := h
  · intro k hk; cases hk
  · intro k hk; cases hk; exact hb
theorem ownR_below {w w' : World} {B e s n : Nat} {v : Value} {l : List Value} (h : w.ownsRow B e s v n l) (hb : Below w.heap.size w w') : w'.ownsRow B e s v n l := by
  obtain ⟨h1, h2 | ⟨g, cap, cur, h3, hg, h4, h5⟩⟩ := h
  · exact ⟨h1, .inl h2⟩
  · refine ⟨h1, .inr ⟨g, cap, cur, h3, hg, ?_, h5⟩⟩
    rw [hb.block g (by
      rcases Nat.lt_or_ge g w.heap.size with q | q
      · exact q
      · rw [Array.getElem?_eq_none q] at h4; cases h4)]
    exact h4
theorem ownR_base {w' : World} {B B' e s n : Nat} {v : Value} {l : List Value} (h : w'.ownsRow B e s v n l) (hB : B' ≤ B) : w'.ownsRow B' e s v n l := by
  obtain ⟨h1, h2 | ⟨g, cap, cur, h3, hg, h4⟩⟩ := h
  · exact ⟨h1, .inl h2⟩
  · exact ⟨h1, .inr ⟨g, cap, cur, h3, by omega, h4⟩⟩
theorem ownR_none {w : World} {base e s : Nat} : w.ownsRow base e s (.slice none 0 0) 0 [] := ⟨by simp, Or.inl ⟨rfl, rfl⟩⟩

/-- A row that came in, one of whose elements is opened by 'each'. -/
theorem open_rows {H : Type} {enc : TypeId × Value → H} {P : Program} {L : Lay α} {W : World} {r : Reach} {b0 : Nat} {t e : TypeId} {v : Value} {d : DataW H} {p : List MemPlace}
    (ht : P.underlying t = some (.slice e)) (hc : P.cellsOf e = L.s)
    (heach : ∀ (fuel : Nat) (cs : List Value) (x : DataW H × List MemPlace), DataW.trod enc P W 0 (fun _ => true) true fuel e cs = some x → ∃ y, cs = L.f y)
    (hv : Value.okWide P W r b0 t v) (h : DataW.Trod enc P W 0 (fun _ => true) true t v d p) :
    ∃ xs : List α, IsR L W v xs := by
  obtain ⟨a, len, cap, rfl⟩ := okWide_slice ht hv
  obtain ⟨fuel, hf⟩ := h
  rcases Go.Deep.open_slice ht (cs := [.slice a len cap]) hf with ⟨hcs, _⟩ | ⟨ad, len', cap', m, n, D, Pl, hcs, hb, hl, hm, hmm, hx, hi⟩
  · simp at hcs
    obtain ⟨rfl, rfl, rfl⟩ := hcs
    exact ⟨[], IsR.none⟩
  · simp at hcs
    obtain ⟨rfl, rfl, rfl⟩ := hcs
    simp only [if_true] at hmm
    subst hmm
    have each : ∀ i, i < len → ∃ y : α, ∀ j v, (L.f y)[j]? = some v → W.cell? (ad.add (i * L.s + j)) = some v := by
      intro i hil
      obtain ⟨cs', hcs', ht⟩ := hi i (by omega)
      rw [hc] at hcs'
      obtain ⟨_, hlen, hat⟩ := World.cells?_some hcs'
      obtain ⟨y, rfl⟩ := heach _ _ _ ht
      refine ⟨y, fun j v hv => ?_⟩
      rw [← Go.Deep.add_add, hat j (Lay.lt hv)]
      exact hv
    rcases Nat.eq_zero_or_pos len with q | q
    · subst q
      exact ⟨[], ⟨some ad, _, rfl, by simp, by unfold maxLen at hm; omega, fun q => absurd q (by simp), fun q => by cases q⟩⟩
    obtain ⟨b, off, spot⟩ := ad
    have hspot : spot = none := by
      obtain ⟨b0, hb0⟩ := each 0 q
      obtain ⟨u, hu⟩ : ∃ u, (L.f b0)[0]? = some u := ⟨_, List.getElem?_eq_getElem (by rw [L.len]; exact L.pos)⟩
      simpa [Addr.add] using World.cell?_spot (hb0 0 _ hu)
    subst hspot
    obtain ⟨y0, _⟩ := each 0 q
    have hex : ∃ f : Nat → α, ∀ i, i < len → ∀ j v, (L.f (f i))[j]? = some v → W.cell? (Addr.add ⟨b, off, none⟩ (i * L.s + j)) = some v :=
      ⟨fun i => if h : i < len then Classical.choose (each i h) else y0, fun i h => by dsimp only; rw [dif_pos h]; exact Classical.choose_spec (each i h)⟩
    obtain ⟨f, hfi⟩ := hex
    have hlen : ((List.range len).map f).length = len := by simp
    refine ⟨(List.range len).map f, ⟨some ⟨b, off, none⟩, _, by rw [hlen], by omega, by unfold maxLen at hm; omega, fun _ => ⟨b, off, rfl, fun i x hi j v hv => ?_⟩, fun q => by cases q⟩⟩
    have hil : i < len := by rw [← hlen]; exact (List.getElem?_eq_some_iff.1 hi).1
    obtain rfl : f i = x := by
      rw [List.getElem?_map, List.getElem?_range hil] at hi
      simpa using hi
    have := hfi i hil j v hv
    rw [Go.WideShapes.add_plain] at this
    rw [Nat.add_assoc]
    exact this

section
variable {P : Program} {w : World} {ops : Array Oper} {rest : List Oper} {o : Oper} {a : Act} {K : Act → World → Prop} {Q : Exit → Act → World → Prop}
/-- append of a row, nil or not, onto a row of the call's own. -/
theorem wp_append_rows (L : Lay α) (s x : Operand) (t : TypeId)
    (ho : o.op = .call { callee := .builtin .append, args := #[s, x], argTypes := #[t, t] })
    (base : Nat) (e : TypeId) (i : TypeInfo) (z : Value) (sz bytes : Nat) (hsz : L.s = sz) (ht : P.underlying t = some (.slice e)) (hi : P.info? e = some i) (hz : i.zero = some z)
    (hsize : i.size = sz) (hby : i.bytes = bytes) (hzs : z.cells.size = sz)
    (v : Value) (n : Nat) (l : List Value) (hs : a.eval s = v) (hown : w.ownsRow base e sz v n l)
    (v2 : Value) (xs : List α) (hx : a.eval x = v2) (hin : IsR L w v2 xs)
    (h63 : n + xs.length ≤ maxLen) (hbytes : (n + xs.length) * bytes ≤ 140737488355328) (hbase : base ≤ w.heap.size)
    (h : ∀ v' w', w'.ownsRow base e sz v' (n + xs.length) (l ++ flatR L xs) → w.grownBy w' v.ownBlock → K (a.put o.dst v') w') : o.wp P a w K Q := by
  subst hsz
  obtain ⟨at0, cap, rfl, hin⟩ := hin
  cases at0 with
  | none =>
    have hc := hin.nil rfl
    subst hc
    have hl : xs = [] := List.eq_nil_of_length_eq_zero (by have := hin.room; omega)
    subst hl
    have hrun := run_append_owned_none (P := P) (w := w) base t o.type e i L.s ht hi v n l hown
    have hk := h v w (by simpa [flatR] using hown) (World.grownBy.refl w _)
    unfold Oper.wp
    simp [execOp, ho, resolve, invoke, builtin, hs, hx, hrun, Result.andThen]
    exact hk
  | some ad =>
    refine wp_append_own w s x t ho base e i z L.s bytes ht hi hz hsize hby hzs L.pos v n l hs hown ad xs.length cap (flatR L xs) hx (flatR_len L xs) (fun j u hu => ?_) (fun u hu => flatR_ones hu) h63 hbytes hbase (fun v' w' h1 h2 _ => h v' w' h1 h2)
    obtain ⟨x, hi, hv⟩ := flatR_inv hu
    obtain ⟨b, off, e1, hc⟩ := hin.cells (Nat.lt_of_le_of_lt (Nat.zero_le _) (List.getElem?_eq_some_iff.1 hi).1)
    cases e1
    have := hc _ _ hi _ _ hv
    rw [Go.WideShapes.add_plain]
    rw [Nat.add_assoc, Nat.div_add_mod' j L.s] at this
    exact this
theorem wpList_append_rows (hw : Region.wanted o (yielded ops a.tmps) = true) (L : Lay α) (s x : Operand) (t : TypeId)
    (ho : o.op = .call { callee := .builtin .append, args := #[s, x], argTypes := #[t, t] })
    (base : Nat) (e : TypeId) (i : TypeInfo) (z : Value) (sz bytes : Nat) (hsz : L.s = sz) (ht : P.underlying t = some (.slice e)) (hi : P.info? e = some i) (hz : i.zero = some z)
    (hsize : i.size = sz) (hby : i.bytes = bytes) (hzs : z.cells.size = sz)
    (v : Value) (n : Nat) (l : List Value) (hs : a.eval s = v) (hown : w.ownsRow base e sz v n l)
    (v2 : Value) (xs : List α) (hx : a.eval x = v2) (hin : IsR L w v2 xs)
    (h63 : n + xs.length ≤ maxLen) (hbytes : (n + xs.length) * bytes ≤ 140737488355328) (hbase : base ≤ w.heap.size)
    (h : ∀ v' w', w'.ownsRow base e sz v' (n + xs.length) (l ++ flatR L xs) → w.grownBy w' v.ownBlock → wpList P ops Q rest (a.put o.dst v') w') : wpList P ops Q (o :: rest) a w :=
  BigFrame.wpList_want hw fun _ hK => wp_append_rows L s x t ho base e i z sz bytes hsz ht hi hz hsize hby hzs v n l hs hown v2 xs hx hin h63 hbytes hbase fun v' w' h1 h2 => hK _ _ (h v' w' h1 h2)
theorem step_append_rows {E : Prop} (hgd : o.guard = none) (L : Lay α) (s x : Operand) (t : TypeId)
    (ho : o.op = .call { callee := .builtin .append, args := #[s, x], argTypes := #[t, t] })
    (base : Nat) (e : TypeId) (i : TypeInfo) (z : Value) (sz bytes : Nat) (hsz : L.s = sz) (ht : P.underlying t = some (.slice e)) (hi : P.info? e = some i) (hz : i.zero = some z)
    (hsize : i.size = sz) (hby : i.bytes = bytes) (hzs : z.cells.size = sz)
    (v : Value) (n : Nat) (l : List Value) (hs : a.eval s = v) (hown : w.ownsRow base e sz v n l)
    (v2 : Value) (xs : List α) (hx : a.eval x = v2) (hin : IsR L w v2 xs)
    (h63 : n + xs.length ≤ maxLen) (hbytes : (n + xs.length) * bytes ≤ 140737488355328) (hbase : base ≤ w.heap.size)
    (h : ∀ v' w', w'.ownsRow base e sz v' (n + xs.length) (l ++ flatR L xs) → Below base w w' → K (a.put o.dst v') w') : if Region.wanted o (yielded ops a.tmps) = true then Oper.wp P o a w K Q else E := by
  rw [if_pos (by simp [Region.wanted, hgd])]
  exact wp_append_rows L s x t ho base e i z sz bytes hsz ht hi hz hsize hby hzs v n l hs hown v2 xs hx hin h63 hbytes hbase fun v' w' h1 h2 => h v' w' h1 ((Below.refl _ w).grown h2 hbase (ownR_block hown))
theorem wpList_load_range (hgd : o.guard = none) (ty : TypeId) (x : Operand) (ho : o.op = .load ty x) {b off : Nat} {cs : List Value} (hb : w.rangeAt b off cs) (hx : a.eval x = .pointer (some ⟨b, off, none⟩)) {d : TypeDesc}
    (hu : P.underlying ty = some d) (hd : d.isRow = true) (hi : (P.info? ty).map (·.size) = some cs.length)
    (h : wpList P ops Q rest (a.put o.dst (.agg cs.toArray)) w) : wpList P ops Q (o :: rest) a w :=
  wpList_load_mid hgd ty x ho b off hx cs d hb hu hd hi h
theorem wpList_load_rangew (hw : Region.wanted o (yielded ops a.tmps) = true) (ty : TypeId) (x : Operand) (ho : o.op = .load ty x) {b off : Nat} {cs : List Value} (hb : w.rangeAt b off cs) (hx : a.eval x = .pointer (some ⟨b, off, none⟩)) {d : TypeDesc}
    (hu : P.underlying ty = some d) (hd : d.isRow = true) (hi : (P.info? ty).map (·.size) = some cs.length)
    (h : wpList P ops Q rest (a.put o.dst (.agg cs.toArray)) w) : wpList P ops Q (o :: rest) a w :=
  BigFrame.wpList_want hw fun _ hK => wp_load_mid ty x ho b off hx cs d hb hu hd hi (hK _ _ h)
end
theorem Box.rangeFrom {w : World} {b : Nat} {vs : List Value} (h : Box w b vs) (k : Nat) (cs : List Value) (he : vs.drop k = cs) : w.rangeAt b k cs := fun j v e => by
  subst he
  rw [List.getElem?_drop] at e
  exact h.c (k + j) v e

end Go.Proofs.Ytjhlpkkefdohjaa
