/-
  Several rows of the call's own of one type: no two of them lie in one block; where an append leaves its row.
-/
import Derived.Test.YtjhlpkkefdohjaaW13
import Derived.Test.YtjhlpkkefdohjaaRegK
import Derived.Maps.AppendAt
namespace Go.Proofs.Ytjhlpkkefdohjaa
open Go.RowKit

/-- Two values lie in two blocks. -/
def ApartB (a b : Value) : Prop := ∀ k, a.ownBlock = some k → b.ownBlock ≠ some k
theorem ApartB.symm {a b : Value} (h : ApartB a b) : ApartB b a := fun k h1 h2 => h k h2 h1
theorem ApartB.none_l (b : Value) (n c : Nat) : ApartB (.slice none n c) b := fun k h => by cases h
theorem ApartB.none_r (a : Value) (n c : Nat) : ApartB a (.slice none n c) := fun k _ h => by cases h
theorem ApartB.ne {g h n m c d : Nat} (q : ApartB (.slice (some ⟨g, 0, none⟩) n c) (.slice (some ⟨h, 0, none⟩) m d)) : g ≠ h := fun e => q g rfl (by rw [e]; rfl)
theorem apart_of {w w2 : World} {B e s n e' s' m : Nat} {a b : Value} {l l' : List Value} (h1 : w.ownsRow B e s a n l) (h2 : w2.ownsRow w.heap.size e' s' b m l') : ApartB a b := fun k h3 h4 => by
  have h5 := (World.ownsRow.lt h1 k h3).2
  have h6 := (World.ownsRow.lt h2 k h4).1
  omega
theorem apart_new {w : World} {B e s n m c : Nat} {a : Value} {l : List Value} (h1 : w.ownsRow B e s a n l) : ApartB a (.slice (some ⟨w.heap.size, 0, none⟩) m c) := fun k h3 h4 => by
  have h5 := (World.ownsRow.lt h1 k h3).2
  have h4 : some w.heap.size = some k := h4
  cases h4
  omega
theorem apart_grow {w : World} {B e s m : Nat} {v v' b : Value} {l : List Value} (h : ApartB v b) (h2 : w.ownsRow B e s b m l) (hat : v'.ownBlock = v.ownBlock ∨ v'.ownBlock = some w.heap.size) : ApartB v' b := fun k h3 h4 => by
  rcases hat with q | q
  · exact h k (by rw [← q]; exact h3) h4
  · have h5 := (World.ownsRow.lt h2 k h4).2
    rw [q] at h3
    cases h3
    omega
theorem ownR_apartB {w w' : World} {B e s n : Nat} {v v' : Value} {l : List Value} (h : w.ownsRow B e s v n l) (ha : ApartB v v') (hg : w.grownBy w' v'.ownBlock) : w'.ownsRow B e s v n l := by
  refine World.ownsRow.kept h hg ?_
  cases hv : v.ownBlock with
  | none => exact Or.inl rfl
  | some k => exact Or.inr fun q => ha k hv q.symm
theorem cell_keepB {w w' : World} {B b o : Nat} {v : Value} (hb : Below B w w') (h : w.cell? ⟨b, o, none⟩ = some v) (hB : b < B) : w'.cell? ⟨b, o, none⟩ = some v := by
  have hh := hb.block b hB
  simpa [World.cell?, hh] using h
section
variable {α : Type} {P : Program} {w : World} {ops : Array Oper} {rest : List Oper} {o : Oper} {a : Act} {K : Act → World → Prop} {Q : Exit → Act → World → Prop}
/-- append of a row, nil or not, onto a row of the call's own, and where it lies then. -/
theorem wp_append_rowsA (L : Lay α) (s x : Operand) (t : TypeId)
    (ho : o.op = .call { callee := .builtin .append, args := #[s, x], argTypes := #[t, t] })
    (base : Nat) (e : TypeId) (i : TypeInfo) (z : Value) (sz bytes : Nat) (hsz : L.s = sz) (ht : P.underlying t = some (.slice e)) (hi : P.info? e = some i) (hz : i.zero = some z)
    (hsize : i.size = sz) (hby : i.bytes = bytes) (hzs : z.cells.size = sz)
    (v : Value) (n : Nat) (l : List Value) (hs : a.eval s = v) (hown : w.ownsRow base e sz v n l)
    (v2 : Value) (xs : List α) (hx : a.eval x = v2) (hin : IsR L w v2 xs)
    (h63 : n + xs.length ≤ maxLen) (hbytes : (n + xs.length) * bytes ≤ 140737488355328) (hbase : base ≤ w.heap.size)
    (h : ∀ v' w', w'.ownsRow base e sz v' (n + xs.length) (l ++ flatR L xs) → w.grownBy w' v.ownBlock → (v'.ownBlock = v.ownBlock ∨ v'.ownBlock = some w.heap.size) → K (a.put o.dst v') w') : o.wp P a w K Q := by
  subst hsz
  obtain ⟨at0, cap, rfl, hin⟩ := hin
  cases at0 with
  | none =>
    have hc := hin.nil rfl
    subst hc
    have hl : xs = [] := List.eq_nil_of_length_eq_zero (by have := hin.room; omega)
    subst hl
    have hrun := run_append_owned_none (P := P) (w := w) base t o.type e i L.s ht hi v n l hown
    have hk := h v w (by simpa [flatR] using hown) (World.grownBy.refl w _) (Or.inl rfl)
    unfold Oper.wp
    simp [execOp, ho, resolve, invoke, builtin, hs, hx, hrun, Result.andThen]
    exact hk
  | some ad =>
    obtain ⟨v', w', hr, h2, h3, _, h5⟩ := run_append_own_at (P := P) w base t o.type e i z L.s bytes ht hi hz hsize hby hzs L.pos v n l hown ad xs.length cap (flatR L xs) (flatR_len L xs) (fun j u hu => by
      obtain ⟨x, hi, hv⟩ := flatR_inv hu
      obtain ⟨b, off, e1, hc⟩ := hin.cells (Nat.lt_of_le_of_lt (Nat.zero_le _) (List.getElem?_eq_some_iff.1 hi).1)
      cases e1
      have := hc _ _ hi _ _ hv
      rw [Go.WideShapes.add_plain]
      rw [Nat.add_assoc, Nat.div_add_mod' j L.s] at this
      exact this) (fun u hu => flatR_ones hu) h63 hbytes hbase
    have hk := h v' w' h2 h3 h5
    unfold Oper.wp execOp
    simp only [ho, resolve, invoke, builtin, Sem.run_bind, Sem.run_pure, Result.andThen_ok, List.map_toArray, List.map_cons, List.map_nil, hs, hx, hr]
    exact hk
theorem wpList_append_rowsA (hw : Region.wanted o (yielded ops a.tmps) = true) (L : Lay α) (s x : Operand) (t : TypeId)
    (ho : o.op = .call { callee := .builtin .append, args := #[s, x], argTypes := #[t, t] })
    (base : Nat) (e : TypeId) (i : TypeInfo) (z : Value) (sz bytes : Nat) (hsz : L.s = sz) (ht : P.underlying t = some (.slice e)) (hi : P.info? e = some i) (hz : i.zero = some z)
    (hsize : i.size = sz) (hby : i.bytes = bytes) (hzs : z.cells.size = sz)
    (v : Value) (n : Nat) (l : List Value) (hs : a.eval s = v) (hown : w.ownsRow base e sz v n l)
    (v2 : Value) (xs : List α) (hx : a.eval x = v2) (hin : IsR L w v2 xs)
    (h63 : n + xs.length ≤ maxLen) (hbytes : (n + xs.length) * bytes ≤ 140737488355328) (hbase : base ≤ w.heap.size)
    (h : ∀ v' w', w'.ownsRow base e sz v' (n + xs.length) (l ++ flatR L xs) → w.grownBy w' v.ownBlock → (v'.ownBlock = v.ownBlock ∨ v'.ownBlock = some w.heap.size) → wpList P ops Q rest (a.put o.dst v') w') : wpList P ops Q (o :: rest) a w :=
  BigFrame.wpList_want hw fun _ hK => wp_append_rowsA L s x t ho base e i z sz bytes hsz ht hi hz hsize hby hzs v n l hs hown v2 xs hx hin h63 hbytes hbase fun v' w' h1 h2 h3 => hK _ _ (h v' w' h1 h2 h3)
theorem step_append_rowsA {E : Prop} (d : Nat) (hd : o.dst = some d) (hgd : o.guard = none) (L : Lay α) (s x : Operand) (t : TypeId)
    (ho : o.op = .call { callee := .builtin .append, args := #[s, x], argTypes := #[t, t] })
    (base : Nat) (e : TypeId) (i : TypeInfo) (z : Value) (sz bytes : Nat) (hsz : L.s = sz) (ht : P.underlying t = some (.slice e)) (hi : P.info? e = some i) (hz : i.zero = some z)
    (hsize : i.size = sz) (hby : i.bytes = bytes) (hzs : z.cells.size = sz)
    (v : Value) (n : Nat) (l : List Value) (hs : a.eval s = v) (hown : w.ownsRow base e sz v n l)
    (v2 : Value) (xs : List α) (hx : a.eval x = v2) (hin : IsR L w v2 xs)
    (h63 : n + xs.length ≤ maxLen) (hbytes : (n + xs.length) * bytes ≤ 140737488355328) (hbase : base ≤ w.heap.size)
    (h : ∀ v' w', w'.ownsRow base e sz v' (n + xs.length) (l ++ flatR L xs) → w.grownBy w' v.ownBlock → (v'.ownBlock = v.ownBlock ∨ v'.ownBlock = some w.heap.size) → K (a.put (some d) v') w') : if Region.wanted o (yielded ops a.tmps) = true then Oper.wp P o a w K Q else E := by
  rw [if_pos (by simp [Region.wanted, hgd])]
  exact wp_append_rowsA L s x t ho base e i z sz bytes hsz ht hi hz hsize hby hzs v n l hs hown v2 xs hx hin h63 hbytes hbase fun v' w' h1 h2 h3 => by rw [hd]; exact h v' w' h1 h2 h3
end
end Go.Proofs.Ytjhlpkkefdohjaa
