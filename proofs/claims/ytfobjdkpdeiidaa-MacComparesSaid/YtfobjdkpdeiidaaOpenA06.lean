/-
  Bytes that came in, opened, at a seat without the package sha.
-/
import Derived.Test.YtfobjdkpdeiidaaDig06
namespace Go.Proofs.Ytfobjdkpdeiidaa
open Go.ChangeShapes Go.WideShapes Go.ChangeAt Go.RowKit Go.Joins

section
variable {H : Type} {enc : TypeId × Value → H} {W : World} {r : Reach} {b0 base : Nat} {sp : Nat → Bool} {held : Bool} {v : Value} {d : DataW H} {p : List MemPlace}
theorem isl_of_trod {P : Program} {t e : TypeId} {k : IntKind} {fuel : Nat} {c : Value} {x : DataW H × List MemPlace} (ht : P.underlying t = some (.slice e)) (he : P.underlying e = some (.int k)) (hc : P.cellsOf e = 1)
    (h : DataW.trod enc P W 0 (fun _ => true) true fuel t [c] = some x) : ∃ xs : List Int, IsL W k c xs ∧ ∀ x ∈ xs, (Lit.int k x).wf = true := by
  rcases open_ints ht he hc h with ⟨hcs, _⟩ | ⟨ad, len, cap, zs, hcs, _, hl, hm, hz, _, hcell, hwf⟩
  · obtain rfl : c = .slice none 0 0 := by simpa using hcs
    exact ⟨[], IsL.none, fun x hx => by simp at hx⟩
  · obtain rfl : c = .slice (some ad) len cap := by simpa using hcs
    simp only [if_true] at hz
    have hlen : (zs.take len).length = len := by rw [List.length_take]; omega
    refine ⟨zs.take len, ⟨some ad, cap, by rw [hlen], ⟨by omega, by unfold maxLen at hm; omega, fun h0 => ?_⟩, fun h => by cases h⟩, fun x hx => hwf x (List.mem_of_mem_take hx)⟩
    obtain ⟨b, off, spot⟩ := ad
    have hspot : spot = none := by simpa [Addr.add] using World.cell?_spot (hcell 0 (by omega))
    subst hspot
    refine ⟨b, off, rfl, fun i hi => ?_⟩
    have := hcell i (by omega)
    rw [nth_take (by omega), ← Go.WideShapes.add_plain]
    exact this
set_option maxRecDepth 100000 in
theorem open_list8 (hv : Value.okWide Try.prog W r b0 22 v) (h : DataW.Trod enc Try.prog W 0 (fun _ => true) true 22 v d p) : ∃ (at0 : Option Addr) (cap : Nat) (xs : List Int), v = .slice at0 xs.length cap ∧ IsL W .u8 (.slice at0 xs.length cap) xs := by
  obtain ⟨a, len, cap, rfl⟩ := okWide_slice Try.underlying22 hv
  obtain ⟨fuel, hf⟩ := h
  obtain ⟨xs, hi, _⟩ := isl_of_trod Try.underlying22 Try.underlying5 (by kernel_rfl) (c := .slice a len cap) hf
  obtain ⟨a', c', e, h1, h0⟩ := id hi
  injection e with e1 e2 e3
  subst e1 e2 e3
  exact ⟨_, _, xs, rfl, hi⟩
end

end Go.Proofs.Ytfobjdkpdeiidaa
