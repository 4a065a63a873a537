/-
  The arguments of layer 13's statements, opened: arenas, lists of numbers.
-/
import Derived.Test.YtepimljjbmoojaaArB
import Derived.Deep.Strs
namespace Go.Proofs.Ytepimljjbmoojaa
open Go.ChangeShapes Go.WideShapes Go.ChangeAt Go.RowKit Go.Joins

section
variable {H : Type} {enc : TypeId × Value → H} {W : World}
theorem ints_each (fuel : Nat) (cs : List Value) (x : DataW H × List MemPlace) (h : DataW.trod enc Try.prog W 0 (fun _ => true) true fuel 3 cs = some x) : ∃ y, cs = LI.f y := by
  obtain ⟨n, rfl, _, _⟩ := DataW.trod_int Try.underlying3 h
  exact ⟨n, rfl⟩
theorem bools_each (fuel : Nat) (cs : List Value) (x : DataW H × List MemPlace) (h : DataW.trod enc Try.prog W 0 (fun _ => true) true fuel 4 cs = some x) : ∃ y, cs = LB.f y := by
  obtain ⟨b, rfl, _⟩ := DataW.trod_bool Try.underlying4 h
  exact ⟨b, rfl⟩
set_option maxRecDepth 100000 in
theorem open_arena {r : Reach} {b0 : Nat} {v : Value} {d : DataW H} {p : List MemPlace} (hw : Value.okWide Try.prog W r b0 25 v) (h : DataW.Trod enc Try.prog W 0 (fun _ => true) true 25 v d p) : ∃ A : Ar, IsA W v A := by
  obtain ⟨cs, rfl, hsz⟩ := okWide_struct Try.underlying25 hw
  obtain ⟨fuel, hf⟩ := h
  have c3 : Try.prog.cellsOf 25 = 3 := by kernel_rfl
  have cI : Try.prog.cellsOf 22 = 1 := by kernel_rfl
  have cB : Try.prog.cellsOf 23 = 1 := by kernel_rfl
  have cN : Try.prog.cellsOf 3 = 1 := by kernel_rfl
  obtain ⟨y0, y1, y2, n, hd, _, h0, h1, h2⟩ := Go.Deep.trod_struct3 Try.underlying25 (cs := cs.toList) (by simpa [Value.cells] using hf)
  simp only [cI, cB, cN] at h0 h1 h2
  rw [c3] at hsz
  have hl : cs.toList.length = 3 := by simpa using hsz
  obtain ⟨l⟩ := cs
  simp only [] at h0 h1 h2 hl
  match l, hl with
  | [a, b, c], _ =>
    simp at h0 h1 h2
    obtain ⟨xs, hI, _⟩ := rows_of_trod (L := LI) Try.underlying22 (by kernel_rfl) ints_each h0
    obtain ⟨us, hB, _⟩ := rows_of_trod (L := LB) Try.underlying23 (by kernel_rfl) bools_each h1
    obtain ⟨z, hz, _, _⟩ := DataW.trod_int Try.underlying3 h2
    obtain rfl : c = .int .i64 z := by simpa using hz
    exact ⟨⟨xs, us, z⟩, a, b, rfl, hI, hB⟩
theorem open_list {r : Reach} {b0 : Nat} {v : Value} {d : DataW H} {p : List MemPlace} (hw : Value.okWide Try.prog W r b0 22 v) (h : DataW.Trod enc Try.prog W 0 (fun _ => true) true 22 v d p) : ∃ xs : List Int, IsR LI W v xs := by
  obtain ⟨a, len, cap, rfl⟩ := okWide_slice Try.underlying22 hw
  obtain ⟨fuel, hf⟩ := h
  obtain ⟨xs, hI, _⟩ := rows_of_trod (L := LI) (c := .slice a len cap) Try.underlying22 (by kernel_rfl) ints_each hf
  exact ⟨xs, hI⟩
end
end Go.Proofs.Ytepimljjbmoojaa
