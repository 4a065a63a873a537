/-
  The arguments of layer 15's statements, opened: orders, lists of numbers.
-/
import Derived.Test.YtjhlpkkefdohjaaLrA
import Derived.Deep.Strs
import Derived.Lib.SmallJoins
namespace Go.Proofs.Ytjhlpkkefdohjaa
open Go.ChangeShapes Go.WideShapes Go.ChangeAt Go.RowKit Go.Joins

section
variable {H : Type} {enc : TypeId × Value → H} {W : World}
theorem ints_eachO (fuel : Nat) (cs : List Value) (x : DataW H × List MemPlace) (h : DataW.trod enc Try.prog W 0 (fun _ => true) true fuel 3 cs = some x) : ∃ y, cs = LI.f y := by
  obtain ⟨n, rfl, _, _⟩ := DataW.trod_int Try.underlying3 h
  exact ⟨n, rfl⟩
set_option maxRecDepth 100000 in
theorem open_od {r : Reach} {b0 : Nat} {v : Value} {d : DataW H} {p : List MemPlace} (hw : Value.okWide Try.prog W r b0 24 v) (h : DataW.Trod enc Try.prog W 0 (fun _ => true) true 24 v d p) : ∃ O : Od, IsO W v O := by
  obtain ⟨cs, rfl, hsz⟩ := okWide_struct Try.underlying24 hw
  obtain ⟨fuel, hf⟩ := h
  have c3 : Try.prog.cellsOf 24 = 4 := by kernel_rfl
  have cI : Try.prog.cellsOf 22 = 1 := by kernel_rfl
  have cN : Try.prog.cellsOf 3 = 1 := by kernel_rfl
  obtain ⟨y0, y1, y2, y3, n, hd, _, h0, h1, h2, h3⟩ := Go.Joins.trod_struct4 Try.underlying24 (cs := cs.toList) (by simpa [Value.cells] using hf)
  simp only [cI, cN] at h0 h1 h2 h3
  rw [c3] at hsz
  have hl : cs.toList.length = 4 := by simpa using hsz
  obtain ⟨l⟩ := cs
  simp only [] at h0 h1 h2 h3 hl
  match l, hl with
  | [a, b, c, e], _ =>
    simp at h0 h1 h2 h3
    obtain ⟨xs, hI, _⟩ := rows_of_trod (L := LI) Try.underlying22 (by kernel_rfl) ints_eachO h0
    obtain ⟨ys, hJ, _⟩ := rows_of_trod (L := LI) Try.underlying22 (by kernel_rfl) ints_eachO h1
    obtain ⟨z, hz, _, _⟩ := DataW.trod_int Try.underlying3 h2
    obtain rfl : c = .int .i64 z := by simpa using hz
    obtain ⟨u, hu, _, _⟩ := DataW.trod_int Try.underlying3 h3
    obtain rfl : e = .int .i64 u := by simpa using hu
    exact ⟨⟨xs, ys, z, u⟩, a, b, rfl, hI, hJ⟩
theorem open_listO {r : Reach} {b0 : Nat} {v : Value} {d : DataW H} {p : List MemPlace} (hw : Value.okWide Try.prog W r b0 22 v) (h : DataW.Trod enc Try.prog W 0 (fun _ => true) true 22 v d p) : ∃ xs : List Int, IsR LI W v xs := by
  obtain ⟨a, len, cap, rfl⟩ := okWide_slice Try.underlying22 hw
  obtain ⟨fuel, hf⟩ := h
  obtain ⟨xs, hI, _⟩ := rows_of_trod (L := LI) (c := .slice a len cap) Try.underlying22 (by kernel_rfl) ints_eachO hf
  exact ⟨xs, hI⟩
end
end Go.Proofs.Ytjhlpkkefdohjaa
