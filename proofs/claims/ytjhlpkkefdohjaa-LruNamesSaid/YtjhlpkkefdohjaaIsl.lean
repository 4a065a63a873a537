/-
  Lists of numbers as slice values read (nil or not), and what is appended to a row just built.
-/
import Derived.Test.YtjhlpkkefdohjaaKit
import Derived.Test.YtjhlpkkefdohjaaSlicesB
import Derived.WalkLawsBesides
import Derived.IntWalk
import Derived.Deep.AppendLies
import Derived.Deep.RegionLaw
import Derived.Deep.MidRow
import Derived.Deep.WholeRow
import Derived.Maps.AppendAt
namespace Go.Proofs.Ytjhlpkkefdohjaa
open Go.RowKit

theorem nth_all {P : Int → Prop} {xs : List Int} (h : ∀ x ∈ xs, P x) (k : Nat) (hk : k < xs.length) : P (nth xs k) := by
  unfold nth
  rw [List.getD_eq_getElem?_getD, List.getElem?_eq_getElem hk, Option.getD_some]
  exact h _ (List.getElem_mem hk)
theorem own_block {w' : World} {B e n : Nat} {v : Value} {l : List Value} (h : w'.ownsRow B e 1 v n l) : ∀ k, v.ownBlock = some k → B ≤ k := by
  intro k hk
  obtain ⟨_, ⟨rfl, _⟩ | ⟨g, cap, cur, rfl, hg, _⟩⟩ := h
  · cases hk
  · cases hk
    exact hg

/-- A slice value reads as a list of numbers. -/
def IsL (w : World) (k : IntKind) (v : Value) (xs : List Int) : Prop := ∃ at0 cap, v = .slice at0 xs.length cap ∧ Ints w k at0 cap xs ∧ (at0 = none → cap = 0)
theorem IsL.below {w w' : World} {k : IntKind} {v : Value} {xs : List Int} (h : IsL w k v xs) (hb : Below w.heap.size w w') : IsL w' k v xs := by
  obtain ⟨a, c, rfl, hi, h0⟩ := h
  exact ⟨a, c, rfl, hi.below hb, h0⟩
theorem IsL.alloc {w : World} {k : IntKind} {v : Value} {xs : List Int} (h : IsL w k v xs) (x : Obj) : IsL (w.alloc x) k v xs := by
  obtain ⟨a, c, rfl, hi, h0⟩ := h
  exact ⟨a, c, rfl, hi.alloc x, h0⟩
theorem IsL.drew {w : World} {k : IntKind} {v : Value} {xs : List Int} (h : IsL w k v xs) : IsL w.drew k v xs := by
  obtain ⟨a, c, rfl, hi, h0⟩ := h
  exact ⟨a, c, rfl, hi.drew, h0⟩
theorem IsL.drewN {w : World} {k : IntKind} {v : Value} {xs : List Int} (h : IsL w k v xs) (n : Nat) : IsL (w.drewN n) k v xs := by
  obtain ⟨a, c, rfl, hi, h0⟩ := h
  exact ⟨a, c, rfl, hi.drewN n, h0⟩
theorem IsL.none {w : World} {k : IntKind} : IsL w k (.slice none 0 0) [] := ⟨Option.none, 0, rfl, Ints.nil w k, fun _ => rfl⟩
theorem IsL.own {w : World} {k : IntKind} {B e n : Nat} {v : Value} {xs : List Int} (h : w.ownsRow B e 1 v n (xs.map (Value.int k))) (hn : n = xs.length) : IsL w k v xs := by
  subst hn
  exact own_ints h
theorem IsL.built {w : World} {k : IntKind} {b n m : Nat} {c : Array Value} {t : TypeId} (xs : List Int) (hb : b = w.heap.size) (hc : c = (xs.map (Value.int k)).toArray) (hn : n = xs.length) (hm : m = xs.length) (hl : xs.length ≤ 1000) : IsL (w.alloc (.cells c t)) k (.slice (some ⟨b, 0, Option.none⟩) n m) xs := by
  subst hb hc hn hm
  have := owns_built (w := w) (base := w.heap.size) (e := t) (xs.map (Value.int k)) (Nat.le_refl _) (by unfold maxLen; simp; omega)
  have h2 := IsL.own (xs := xs) this (by simp)
  simpa using h2
theorem IsL.room {w : World} {k : IntKind} {a : Option Addr} {n c : Nat} {xs : List Int} (h : IsL w k (.slice a n c) xs) : n = xs.length ∧ xs.length ≤ c ∧ c ≤ 9223372036854775807 := by
  obtain ⟨a', c', e, hi, h0⟩ := h
  injection e with e1 e2 e3
  subst e1 e2 e3
  exact ⟨rfl, hi.room, hi.most⟩
theorem IsL.get {w : World} {k : IntKind} {a : Option Addr} {n c : Nat} {xs : List Int} (h : IsL w k (.slice a n c) xs) (i : Nat) (hi : i < xs.length) : ∃ b off, a = some ⟨b, off, Option.none⟩ ∧ w.cell? ⟨b, off + i, Option.none⟩ = some (.int k (nth xs i)) := by
  obtain ⟨a', c', e, h1, h0⟩ := h
  injection e with e1 e2 e3
  subst e1 e2 e3
  exact h1.at hi

theorem wpList_append_built {P : Program} {w : World} {ops : Array Oper} {rest : List Oper} {o : Oper} {a : Act} {Q : Exit → Act → World → Prop} (hw : Region.wanted o (yielded ops a.tmps) = true) (s x : Operand) (t : TypeId)
    (ho : o.op = .call { callee := .builtin .append, args := #[s, x], argTypes := #[t, t] })
    (e : TypeId) (i : TypeInfo) (z : Value) (bytes : Nat) (k : IntKind) (ht : P.underlying t = some (.slice e)) (hi : P.info? e = some i) (hz : i.zero = some z)
    (hsize : i.size = 1) (hby : i.bytes = bytes) (hzs : z.cells.size = 1)
    (ys xs : List Int) (c : Array Value) (v2 : Value) (b n m : Nat) (hs : a.eval s = .slice (some ⟨b, 0, none⟩) n m) (hx : a.eval x = v2)
    (hb : b = w.heap.size) (hc : c = (ys.map (Value.int k)).toArray) (hn : n = ys.length) (hm : m = ys.length) (hin : IsL w k v2 xs)
    (h63 : ys.length + xs.length ≤ maxLen) (hbytes : (ys.length + xs.length) * bytes ≤ 140737488355328)
    (h : ∀ v' w', w'.ownsRow w.heap.size e 1 v' (ys ++ xs).length ((ys ++ xs).map (Value.int k)) → Below w.heap.size w w' → wpList P ops Q rest (a.put o.dst v') w') : wpList P ops Q (o :: rest) a (w.alloc (.cells c e)) := by
  subst hb hc hn hm
  obtain ⟨a2, c2, rfl, hi2, h02⟩ := hin
  have hown := owns_built (w := w) (base := w.heap.size) (e := e) (ys.map (Value.int k)) (Nat.le_refl _) (by simp; omega)
  rw [List.length_map] at hown
  refine wpList_append_ints hw s x t ho w.heap.size e i z bytes k ht hi hz hsize hby hzs _ ys.length _ hs hown a2 c2 xs hx (hi2.alloc _) h02 h63 hbytes (by simp) (fun v' w' h1 h2 => h v' w' ?_ ?_)
  · rw [List.length_append, List.map_append]
    exact h1
  · exact ((Below.refl _ w).alloc (Nat.le_refl _) _).grown h2 (by simp) (own_block hown)

end Go.Proofs.Ytjhlpkkefdohjaa
