/-
  The arguments of layer 14's statements, opened: rows of cells, keys, lists of keys.
-/
import Derived.Test.YtalfnmlbidohcaaPbC
import Derived.Deep.Strs
namespace Go.Proofs.Ytalfnmlbidohcaa
open Go.ChangeShapes Go.WideShapes Go.ChangeAt Go.RowKit Go.Joins

/-- Keys in a row. -/
def LKey : Lay Int where
  f k := [.int .u32 k]
  s := 1
  pos := by decide
  len _ := rfl
  one k := by
    intro u hu
    simp at hu
    subst hu
    rfl
section
variable {H : Type} {enc : TypeId × Value → H} {W : World}
/-- Cells whose keys are numbers of 32 bits. -/
def LCelK : Lay {c : Cel // 0 ≤ c.k ∧ c.k ≤ 4294967295} where
  f c := LCel.f c.1
  s := 3
  pos := by decide
  len c := LCel.len c.1
  one c := LCel.one c.1
theorem IsR.celK {w : World} {v : Value} {xs : List {c : Cel // 0 ≤ c.k ∧ c.k ≤ 4294967295}} (h : IsR LCelK w v xs) : IsR LCel w v (xs.map Subtype.val) ∧ Keys (xs.map Subtype.val) := by
  constructor
  · obtain ⟨a, c, rfl, hr⟩ := h
    refine ⟨a, c, by rw [List.length_map], by rw [List.length_map]; exact hr.room, hr.most, fun h0 => ?_, hr.nil⟩
    obtain ⟨b, off, e, hc⟩ := hr.cells (by rw [List.length_map] at h0; exact h0)
    refine ⟨b, off, e, fun i x hi => ?_⟩
    rw [List.getElem?_map] at hi
    cases hx : xs[i]? with
    | none => rw [hx] at hi; cases hi
    | some y =>
      rw [hx] at hi
      cases hi
      exact hc i y hx
  · intro c hc
    obtain ⟨y, _, rfl⟩ := List.mem_map.1 hc
    exact y.2
set_option maxRecDepth 100000 in
theorem cel_each (fuel : Nat) (cs : List Value) (x : DataW H × List MemPlace) (h : DataW.trod enc Try.prog W 0 (fun _ => true) true fuel 42 cs = some x) : ∃ y, cs = LCelK.f y := by
  have c3 : Try.prog.cellsOf 42 = 3 := by kernel_rfl
  have cK : Try.prog.cellsOf 23 = 1 := by kernel_rfl
  have cI : Try.prog.cellsOf 3 = 1 := by kernel_rfl
  have cB : Try.prog.cellsOf 4 = 1 := by kernel_rfl
  obtain ⟨y0, y1, y2, n, _, hl, h0, h1, h2⟩ := Go.Deep.trod_struct3 Try.underlying42 (cs := cs) h
  simp only [cK, cI, cB] at h0 h1 h2
  obtain ⟨a, ha, _, hwf⟩ := DataW.trod_int Try.underlying23 h0
  obtain ⟨b, hb, _, _⟩ := DataW.trod_int Try.underlying3 h1
  obtain ⟨c, hc, _⟩ := DataW.trod_bool Try.underlying4 h2
  refine ⟨⟨⟨a, b, c⟩, b32 hwf⟩, ?_⟩
  show cs = [.int .u32 a, .int .i64 b, .bool c]
  rw [c3] at hl
  match cs, hl with
  | [x, y, z], _ =>
    simp at ha hb hc
    rw [ha, hb, hc]
def LKeyK : Lay {k : Int // 0 ≤ k ∧ k ≤ 4294967295} where
  f k := LKey.f k.1
  s := 1
  pos := by decide
  len k := LKey.len k.1
  one k := LKey.one k.1
theorem IsR.keyK {w : World} {v : Value} {xs : List {k : Int // 0 ≤ k ∧ k ≤ 4294967295}} (h : IsR LKeyK w v xs) : IsR LKey w v (xs.map Subtype.val) ∧ ∀ k ∈ xs.map Subtype.val, 0 ≤ k ∧ k ≤ 4294967295 := by
  constructor
  · obtain ⟨a, c, rfl, hr⟩ := h
    refine ⟨a, c, by rw [List.length_map], by rw [List.length_map]; exact hr.room, hr.most, fun h0 => ?_, hr.nil⟩
    obtain ⟨b, off, e, hc⟩ := hr.cells (by rw [List.length_map] at h0; exact h0)
    refine ⟨b, off, e, fun i x hi => ?_⟩
    rw [List.getElem?_map] at hi
    cases hx : xs[i]? with
    | none => rw [hx] at hi; cases hi
    | some y =>
      rw [hx] at hi
      cases hi
      exact hc i y hx
  · intro c hc
    obtain ⟨y, _, rfl⟩ := List.mem_map.1 hc
    exact y.2
theorem key_each (fuel : Nat) (cs : List Value) (x : DataW H × List MemPlace) (h : DataW.trod enc Try.prog W 0 (fun _ => true) true fuel 23 cs = some x) : ∃ y, cs = LKeyK.f y := by
  obtain ⟨n, rfl, _, hwf⟩ := DataW.trod_int Try.underlying23 h
  exact ⟨⟨n, b32 hwf⟩, rfl⟩
theorem open_keys {r : Reach} {b0 : Nat} {v : Value} {d : DataW H} {p : List MemPlace} (hw : Value.okWide Try.prog W r b0 45 v) (h : DataW.Trod enc Try.prog W 0 (fun _ => true) true 45 v d p) : ∃ l : List Int, IsR LKey W v l ∧ ∀ k ∈ l, 0 ≤ k ∧ k ≤ 4294967295 := by
  obtain ⟨a, len, cap, rfl⟩ := okWide_slice Try.underlying45 hw
  obtain ⟨fuel, hf⟩ := h
  obtain ⟨xs, hI, _⟩ := rows_of_trod (L := LKeyK) (c := .slice a len cap) Try.underlying45 (by kernel_rfl) key_each hf
  exact ⟨_, hI.keyK.1, hI.keyK.2⟩
theorem open_cells {r : Reach} {b0 : Nat} {v : Value} {d : DataW H} {p : List MemPlace} (hw : Value.okWide Try.prog W r b0 22 v) (h : DataW.Trod enc Try.prog W 0 (fun _ => true) true 22 v d p) : ∃ x : List Cel, IsR LCel W v x ∧ Keys x := by
  obtain ⟨a, len, cap, rfl⟩ := okWide_slice Try.underlying22 hw
  obtain ⟨fuel, hf⟩ := h
  obtain ⟨xs, hI, _⟩ := rows_of_trod (L := LCelK) (c := .slice a len cap) Try.underlying22 (by kernel_rfl) cel_each hf
  exact ⟨_, hI.celK.1, hI.celK.2⟩
set_option maxRecDepth 100000 in
theorem open_key {r : Reach} {b0 base : Nat} {sp : Nat → Bool} {held : Bool} {v : Value} {d : DataW H} {p : List MemPlace} (hw : Value.okWide Try.prog W r b0 23 v) (h : DataW.Trod enc Try.prog W base sp held 23 v d p) : ∃ k : Int, v = .int .u32 k ∧ 0 ≤ k ∧ k ≤ 4294967295 := by
  obtain ⟨a, rfl, _, _, wa⟩ := open_int Try.underlying23 hw h
  exact ⟨a, rfl, b32 wa⟩
end
end Go.Proofs.Ytalfnmlbidohcaa
