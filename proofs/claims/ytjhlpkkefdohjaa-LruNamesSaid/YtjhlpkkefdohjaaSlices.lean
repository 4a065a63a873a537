/-
  Lists of numbers in slices: what a slice value reads as in a world, kept while the world grows; a slice that came in, opened.
-/
import Derived.WalkKit
import Derived.WalkSpells
import Derived.WalkLawsBesides
import Derived.ProofKit
import Derived.OpenShut
import Derived.Handy
import Derived.Lib.SmallJoins
import Derived.Lib.Hide
namespace Go.Proofs.Ytjhlpkkefdohjaa
open Go.ChangeShapes Go.WideShapes Go.ChangeAt Go.RowKit Go.Joins

/-- The number at an index (0 behind the end); kept closed. -/
def nth (xs : List Int) (i : Nat) : Int := xs.getD i 0
theorem nth_take {xs : List Int} {m i : Nat} (h : i < m) : nth (xs.take m) i = nth xs i := by
  unfold nth
  rw [List.getD_eq_getElem?_getD, List.getD_eq_getElem?_getD, List.getElem?_take_of_lt h]
theorem nth_drop {xs : List Int} {m i : Nat} : nth (xs.drop m) i = nth xs (m + i) := by
  unfold nth
  rw [List.getD_eq_getElem?_getD, List.getD_eq_getElem?_getD, List.getElem?_drop]
theorem nth_append_left {xs ys : List Int} {i : Nat} (h : i < xs.length) : nth (xs ++ ys) i = nth xs i := by
  unfold nth
  rw [List.getD_eq_getElem?_getD, List.getD_eq_getElem?_getD, List.getElem?_append_left h]
theorem nth_append_right {xs ys : List Int} {i : Nat} (h : xs.length ≤ i) : nth (xs ++ ys) i = nth ys (i - xs.length) := by
  unfold nth
  rw [List.getD_eq_getElem?_getD, List.getD_eq_getElem?_getD, List.getElem?_append_right h]
theorem take_succ_nth {xs : List Int} {i : Nat} (h : i < xs.length) : xs.take (i + 1) = xs.take i ++ [nth xs i] := by
  unfold nth
  rw [List.take_succ_eq_append_getElem h, List.getD_eq_getElem?_getD, List.getElem?_eq_getElem h, Option.getD_some]
theorem ext_nth {xs ys : List Int} (hl : xs.length = ys.length) (h : ∀ i, i < xs.length → nth xs i = nth ys i) : xs = ys := by
  refine List.ext_getElem hl fun i h1 h2 => ?_
  have := h i h1
  unfold nth at this
  rw [List.getD_eq_getElem?_getD, List.getD_eq_getElem?_getD, List.getElem?_eq_getElem h1, List.getElem?_eq_getElem h2] at this
  exact this

/-- A list of numbers of one kind, as a slice value reads in a world: nil, empty or not. -/
structure Ints (w : World) (k : IntKind) (at0 : Option Addr) (cap : Nat) (xs : List Int) : Prop where
  room : xs.length ≤ cap
  most : cap ≤ 9223372036854775807
  cells : 0 < xs.length → ∃ b off, at0 = some ⟨b, off, none⟩ ∧ ∀ i, i < xs.length → w.cell? ⟨b, off + i, none⟩ = some (.int k (nth xs i))

theorem Ints.nil (w : World) (k : IntKind) : Ints w k none 0 [] := ⟨Nat.le_refl _, by omega, fun h => absurd h (by simp)⟩
theorem Ints.at {w : World} {k : IntKind} {at0 : Option Addr} {cap : Nat} {xs : List Int} (h : Ints w k at0 cap xs) {i : Nat} (hi : i < xs.length) :
    ∃ b off, at0 = some ⟨b, off, none⟩ ∧ w.cell? ⟨b, off + i, none⟩ = some (.int k (nth xs i)) := by
  obtain ⟨b, off, e, hc⟩ := h.cells (by omega)
  exact ⟨b, off, e, hc i hi⟩
theorem Ints.take {w : World} {k : IntKind} {at0 : Option Addr} {cap : Nat} {xs : List Int} (h : Ints w k at0 cap xs) (m : Nat) (hm : m ≤ xs.length) : Ints w k at0 cap (xs.take m) := by
  have hl : (xs.take m).length = m := by rw [List.length_take]; omega
  refine ⟨by have := h.room; omega, h.most, fun h0 => ?_⟩
  obtain ⟨b, off, e, hc⟩ := h.cells (by omega)
  refine ⟨b, off, e, fun i hi => ?_⟩
  rw [nth_take (by omega)]
  exact hc i (by omega)

theorem lt_of_cell' {w : World} {b o : Nat} {v : Value} (h : w.cell? ⟨b, o, none⟩ = some v) : b < w.heap.size := by
  rcases Nat.lt_or_ge b w.heap.size with hb | hb
  · exact hb
  · simp [World.cell?, Array.getElem?_eq_none hb] at h

theorem Ints.of_cells {w w' : World} {k : IntKind} {at0 : Option Addr} {cap : Nat} {xs : List Int} (h : Ints w k at0 cap xs)
    (hw : ∀ b o v, w.cell? ⟨b, o, none⟩ = some v → w'.cell? ⟨b, o, none⟩ = some v) : Ints w' k at0 cap xs :=
  ⟨h.room, h.most, fun h0 => let ⟨b, off, e, hc⟩ := h.cells h0; ⟨b, off, e, fun i hi => hw _ _ _ (hc i hi)⟩⟩
theorem Ints.below {w w' : World} {k : IntKind} {at0 : Option Addr} {cap : Nat} {xs : List Int} (h : Ints w k at0 cap xs) (hb : Below w.heap.size w w') : Ints w' k at0 cap xs :=
  h.of_cells fun b o v hc => by rw [hb.cell (p := ⟨b, o, none⟩) (lt_of_cell' hc)]; exact hc
theorem Ints.alloc {w : World} {k : IntKind} {at0 : Option Addr} {cap : Nat} {xs : List Int} (h : Ints w k at0 cap xs) (x : Obj) : Ints (w.alloc x) k at0 cap xs :=
  h.of_cells fun b o v hc => by rw [World.cell?_alloc_lt _ _ _ (lt_of_cell' hc)]; exact hc
theorem Ints.drew {w : World} {k : IntKind} {at0 : Option Addr} {cap : Nat} {xs : List Int} (h : Ints w k at0 cap xs) : Ints w.drew k at0 cap xs := ⟨h.room, h.most, h.cells⟩
theorem Ints.drewN {w : World} {k : IntKind} {at0 : Option Addr} {cap : Nat} {xs : List Int} (h : Ints w k at0 cap xs) (n : Nat) : Ints (w.drewN n) k at0 cap xs := ⟨h.room, h.most, h.cells⟩

/-- What an append has made reads so. -/
theorem Ints.of_owned {w : World} {k : IntKind} {base e : Nat} {v : Value} {xs : List Int} (h : w.ownsRow base e 1 v xs.length (xs.map (Value.int k))) :
    ∃ at0 cap, v = .slice at0 xs.length cap ∧ Ints w k at0 cap xs := by
  obtain ⟨_, ⟨rfl, h0⟩ | ⟨g, cap, cur, rfl, _, hb, hn, hm, hs, ht⟩⟩ := h
  · have : xs = [] := List.eq_nil_of_length_eq_zero h0
    subst this
    exact ⟨none, 0, rfl, Ints.nil w k⟩
  · refine ⟨some ⟨g, 0, none⟩, cap, rfl, hn, by unfold maxLen at hm; omega, fun _ => ⟨g, 0, rfl, fun i hi => ?_⟩⟩
    rw [World.cell?]
    simp only [hb]
    have e1 : cur[i]? = (cur.toList.take (xs.length * 1))[i]? := by
      rw [List.getElem?_take_of_lt (by omega), Array.getElem?_toList]
    rw [Nat.zero_add, e1, ht]
    unfold nth
    rw [List.getElem?_map, List.getElem?_eq_getElem hi, List.getD_eq_getElem?_getD, List.getElem?_eq_getElem hi]
    rfl

/-- A slice of numbers that came in, nil or not. -/
theorem open_ints_any {H : Type} {enc : TypeId × Value → H} {P : Program} {W : World} {r : Reach} {b0 : Nat} {t e : TypeId} {k : IntKind} {v : Value} {d : DataW H} {p : List MemPlace}
    (ht : P.underlying t = some (.slice e)) (he : P.underlying e = some (.int k)) (hc : P.cellsOf e = 1)
    (hv : Value.okWide P W r b0 t v) (h : DataW.Trod enc P W 0 (fun _ => true) true t v d p) :
    ∃ (at0 : Option Addr) (cap : Nat) (xs : List Int), v = .slice at0 xs.length cap ∧ Ints W k at0 cap xs ∧ (∀ x ∈ xs, (Lit.int k x).wf = true) := by
  obtain ⟨a, len, cap, rfl⟩ := okWide_slice ht hv
  obtain ⟨fuel, hf⟩ := h
  rcases open_ints ht he hc (cs := [.slice a len cap]) hf with ⟨hcs, _⟩ | ⟨ad, len', cap', zs, hcs, _, hl, hm, hz, _, hcell, hwf⟩
  · simp at hcs
    obtain ⟨rfl, rfl, rfl⟩ := hcs
    exact ⟨none, 0, [], rfl, Ints.nil W k, fun x hx => by simp at hx⟩
  · simp at hcs
    obtain ⟨rfl, rfl, rfl⟩ := hcs
    simp only [if_true] at hz
    have hlen : (zs.take len).length = len := by rw [List.length_take]; omega
    refine ⟨some ad, cap, zs.take len, by rw [hlen], ⟨by omega, by unfold maxLen at hm; omega, fun h0 => ?_⟩, fun x hx => hwf x (List.mem_of_mem_take hx)⟩
    obtain ⟨b, off, spot⟩ := ad
    have hspot : spot = none := by simpa [Addr.add] using World.cell?_spot (hcell 0 (by omega))
    subst hspot
    refine ⟨b, off, rfl, fun i hi => ?_⟩
    have := hcell i (by omega)
    rw [nth_take (by omega), ← Go.WideShapes.add_plain]
    exact this

end Go.Proofs.Ytjhlpkkefdohjaa
