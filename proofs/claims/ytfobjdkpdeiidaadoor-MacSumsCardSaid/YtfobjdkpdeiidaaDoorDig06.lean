/-
  The arguments of the statements of layer 6, opened: digests.
-/
import Derived.Test.YtfobjdkpdeiidaaDoorIsl
import Derived.Deep.Strs
namespace Go.Proofs.YtfobjdkpdeiidaaDoor
open Go.ChangeShapes Go.WideShapes Go.ChangeAt Go.RowKit Go.Joins

theorem ints_of_each {k : IntKind} {Q : Int → Prop} : ∀ (cs : List Value), (∀ i, i < cs.length → ∃ x, cs[i]? = some (.int k x) ∧ Q x) → ∃ D : List Int, cs = D.map (Value.int k) ∧ D.length = cs.length ∧ ∀ x ∈ D, Q x
  | [], _ => ⟨[], rfl, rfl, by simp⟩
  | c :: cs, h => by
    obtain ⟨x, hx, hq⟩ := h 0 (by simp)
    obtain ⟨D, rfl, _, hD⟩ := ints_of_each cs fun i hi => by
      have := h (i + 1) (by simpa using hi)
      simpa using this
    simp at hx
    subst hx
    exact ⟨x :: D, rfl, by simp, fun y hy => by
      rcases List.mem_cons.1 hy with rfl | hy
      · exact hq
      · exact hD y hy⟩
section
variable {H : Type} {enc : TypeId × Value → H} {W : World} {r : Reach} {b0 base : Nat} {sp : Nat → Bool} {held : Bool} {v : Value} {d : DataW H} {p : List MemPlace}
set_option maxRecDepth 100000 in
theorem digest_of_trod {fuel : Nat} {cs : List Value} {x : DataW H × List MemPlace} (h : DataW.trod enc Tryd.prog W base sp held fuel 31 cs = some x) :
    ∃ D : List Int, cs = D.map (Value.int .u8) ∧ D.length = 32 ∧ ∀ x ∈ D, 0 ≤ x ∧ x < 256 := by
  obtain ⟨xs, m, _, _, hl, hx, hi⟩ := DataW.trod_array Tryd.underlying31 h
  have c32 : Tryd.prog.cellsOf 31 = 32 := by kernel_rfl
  have c1 : Tryd.prog.cellsOf 5 = 1 := by kernel_rfl
  rw [c32] at hl
  rw [c1] at hi
  obtain ⟨D, hD, hl2, hq⟩ := ints_of_each (k := .u8) (Q := fun x => 0 ≤ x ∧ x < 256) cs fun i h8 => by
    have h1 := hi i (by omega)
    have h2 : i < xs.length := by omega
    rw [List.getElem?_eq_getElem h2] at h1
    obtain ⟨n, e, _, hw⟩ := DataW.trod_int Tryd.underlying5 h1
    refine ⟨n, ?_, ?_⟩
    · have h3 := congrArg (fun l => l[0]?) e
      simpa [List.getElem?_take, List.getElem?_drop] using h3
    · have h1 : IntKind.u8.min ≤ n ∧ n ≤ IntKind.u8.max := by simpa [Lit.wf] using hw
      have e1 : IntKind.u8.min = 0 := rfl
      have e2 : IntKind.u8.max = 255 := rfl
      omega
  exact ⟨D, hD, by omega, hq⟩
set_option maxRecDepth 100000 in
theorem open_digest (hw : Value.okWide Tryd.prog W r b0 31 v) (h : DataW.Trod enc Tryd.prog W base sp held 31 v d p) :
    ∃ D : List Int, v = .agg (D.map (Value.int .u8)).toArray ∧ D.length = 32 ∧ ∀ x ∈ D, 0 ≤ x ∧ x < 256 := by
  simp only [Value.okWide, Tryd.underlying31] at hw
  obtain ⟨cs, rfl, _⟩ := hw
  obtain ⟨fuel, hf⟩ := h
  obtain ⟨D, hD, hl, hq⟩ := digest_of_trod (by simpa [Value.cells] using hf)
  refine ⟨D, ?_, hl, hq⟩
  rw [← hD]
end

end Go.Proofs.YtfobjdkpdeiidaaDoor
