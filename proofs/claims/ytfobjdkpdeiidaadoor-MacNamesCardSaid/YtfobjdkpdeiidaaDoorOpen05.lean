/-
  The arguments of the statements of layer 5, opened: bytes, words, a hash, a number.
-/
import Derived.Test.YtfobjdkpdeiidaaDoorLaid05
import Derived.Test.YtfobjdkpdeiidaaDoorShaJ
import Derived.Deep.Strs
namespace Go.Proofs.YtfobjdkpdeiidaaDoor
open Go.ChangeShapes Go.WideShapes Go.ChangeAt Go.RowKit Go.Joins

section
variable {H : Type} {enc : TypeId × Value → H} {W : World} {r : Reach} {b0 base : Nat} {sp : Nat → Bool} {held : Bool} {v : Value} {d : DataW H} {p : List MemPlace}
theorem isl_of_trod {P : Program} {t e : TypeId} {k : IntKind} {fuel : Nat} {c : Value} {x : DataW H × List MemPlace} (ht : P.underlying t = some (.slice e)) (he : P.underlying e = some (.int k)) (hc : P.cellsOf e = 1)
    (h : DataW.trod enc P W 0 (fun _ => true) true fuel t [c] = some x) : ∃ xs : List Int, IsL W k c xs ∧ ∀ x ∈ xs, (Lit.int k x).wf = true := by
  rcases open_ints ht he hc h with ⟨hcs, _⟩ | ⟨ad, len, cap, zs, hcs, _, hl, hm, hz, _, hcell, hwf⟩
  · obtain rfl : c = .slice none 0 0 := by simpa using hcs
    exact ⟨[], IsL.none, fun x hx => by simp at hx⟩
  · obtain rfl : c = .slice (some ad) len cap := by simpa using hcs
    simp only [if_true] at hz
    have hlen : (zs.take len).length = len := by rw [List.length_take]; omega
    refine ⟨zs.take len, ⟨some ad, cap, by rw [hlen], ⟨by omega, by unfold maxLen at hm; omega, fun h0 => ?_⟩, fun h => by cases h⟩, fun x hx => hwf x (List.mem_of_mem_take hx)⟩
    obtain ⟨b, off, spot⟩ := ad
    have hspot : spot = none := by simpa [Addr.add] using World.cell?_spot (hcell 0 (by omega))
    subst hspot
    refine ⟨b, off, rfl, fun i hi => ?_⟩
    have := hcell i (by omega)
    rw [nth_take (by omega), ← Go.WideShapes.add_plain]
    exact this
theorem byte_wf {x : Int} (h : (Lit.int .u8 x).wf = true) : 0 ≤ x ∧ x < 256 := by
  have h1 : IntKind.u8.min ≤ x ∧ x ≤ IntKind.u8.max := by simpa [Lit.wf] using h
  have e1 : IntKind.u8.min = 0 := rfl
  have e2 : IntKind.u8.max = 255 := rfl
  omega
theorem word_wf {x : Int} (h : (Lit.int .u32 x).wf = true) : ∃ u : UInt32, x = un u := by
  have h1 : IntKind.u32.min ≤ x ∧ x ≤ IntKind.u32.max := by simpa [Lit.wf] using h
  have e1 : IntKind.u32.min = 0 := rfl
  have e2 : IntKind.u32.max = 4294967295 := rfl
  refine ⟨UInt32.ofNat x.toNat, ?_⟩
  unfold un
  rw [UInt32.toNat_ofNat']
  omega
set_option maxRecDepth 100000 in
theorem open_bytes (hv : Value.okWide Tryd.prog W r b0 23 v) (h : DataW.Trod enc Tryd.prog W 0 (fun _ => true) true 23 v d p) : ∃ (at0 : Option Addr) (cap : Nat) (xs : List Int), v = .slice at0 xs.length cap ∧ IsL W .u8 (.slice at0 xs.length cap) xs ∧ bytesL xs := by
  obtain ⟨a, len, cap, rfl⟩ := okWide_slice Tryd.underlying23 hv
  obtain ⟨fuel, hf⟩ := h
  obtain ⟨xs, hi, hw⟩ := isl_of_trod Tryd.underlying23 Tryd.underlying5 (by kernel_rfl) (c := .slice a len cap) hf
  obtain ⟨a', c', e, h1, h0⟩ := id hi
  injection e with e1 e2 e3
  subst e1 e2 e3
  exact ⟨_, _, xs, rfl, hi, bytesL.of_all fun x hx => byte_wf (hw x hx)⟩
theorem list8 {α : Type} {l : List α} (h : l.length = 8) : ∃ a b c d e f g z, l = [a, b, c, d, e, f, g, z] := by
  match l, h with
  | [a, b, c, d, e, f, g, z], _ => exact ⟨a, b, c, d, e, f, g, z, rfl⟩
set_option maxRecDepth 100000 in
theorem words_of_trod {fuel : Nat} {cs : List Value} {x : DataW H × List MemPlace} (h : DataW.trod enc Tryd.prog W base sp held fuel 59 cs = some x) : ∃ T : W8, cs = hv T := by
  obtain ⟨xs, m, _, _, hl, hx, hi⟩ := DataW.trod_array Tryd.underlying59 h
  have c8 : Tryd.prog.cellsOf 59 = 8 := by kernel_rfl
  have c1 : Tryd.prog.cellsOf 58 = 1 := by kernel_rfl
  rw [c8] at hl
  rw [c1] at hi
  have each : ∀ i, i < 8 → ∃ u : UInt32, cs[i]? = some (.int .u32 (un u)) := fun i h8 => by
    have h1 := hi i h8
    have h2 : i < xs.length := by omega
    rw [List.getElem?_eq_getElem h2] at h1
    obtain ⟨n, e, _, hw⟩ := DataW.trod_int Tryd.underlying58 h1
    obtain ⟨u, rfl⟩ := word_wf hw
    refine ⟨u, ?_⟩
    have h3 := congrArg (fun l => l[0]?) e
    simpa [List.getElem?_take, List.getElem?_drop] using h3
  obtain ⟨a, b, c, d, e, f, g, z, rfl⟩ := list8 hl
  obtain ⟨u0, h0⟩ := each 0 (by omega)
  obtain ⟨u1, h1⟩ := each 1 (by omega)
  obtain ⟨u2, h2⟩ := each 2 (by omega)
  obtain ⟨u3, h3⟩ := each 3 (by omega)
  obtain ⟨u4, h4⟩ := each 4 (by omega)
  obtain ⟨u5, h5⟩ := each 5 (by omega)
  obtain ⟨u6, h6⟩ := each 6 (by omega)
  obtain ⟨u7, h7⟩ := each 7 (by omega)
  simp at h0 h1 h2 h3 h4 h5 h6 h7
  subst h0 h1 h2 h3 h4 h5 h6 h7
  exact ⟨⟨u0, u1, u2, u3, u4, u5, u6, u7⟩, rfl⟩
set_option maxRecDepth 100000 in
theorem open_words (hw : Value.okWide Tryd.prog W r b0 59 v) (h : DataW.Trod enc Tryd.prog W base sp held 59 v d p) : ∃ T : W8, v = .agg (hv T).toArray := by
  simp only [Value.okWide, Tryd.underlying59] at hw
  obtain ⟨cs, rfl, _⟩ := hw
  obtain ⟨fuel, hf⟩ := h
  obtain ⟨T, hT⟩ := words_of_trod (by simpa [Value.cells] using hf)
  refine ⟨T, ?_⟩
  rw [← hT]
set_option maxRecDepth 100000 in
theorem open_hash (hw : Value.okWide Tryd.prog W r b0 61 v) (h : DataW.Trod enc Tryd.prog W 0 (fun _ => true) true 61 v d p) :
    ∃ (T : W8) (at0 : Option Addr) (cap : Nat) (rs : List Int) (n : Int), v = .agg (hashV T (.slice at0 rs.length cap) n).toArray ∧ IsL W .u8 (.slice at0 rs.length cap) rs ∧ bytesL rs ∧ -9223372036854775808 ≤ n ∧ n ≤ 9223372036854775807 := by
  obtain ⟨cs, rfl, hsz⟩ := okWide_struct Tryd.underlying61 hw
  obtain ⟨fuel, hf⟩ := h
  have c10 : Tryd.prog.cellsOf 61 = 10 := by kernel_rfl
  have c8 : Tryd.prog.cellsOf 59 = 8 := by kernel_rfl
  have c1 : Tryd.prog.cellsOf 23 = 1 := by kernel_rfl
  have ci : Tryd.prog.cellsOf 3 = 1 := by kernel_rfl
  obtain ⟨y0, y1, y2, n, _, _, h0, h1, h2⟩ := Go.Deep.trod_struct3 Tryd.underlying61 (cs := cs.toList) (by simpa [Value.cells] using hf)
  simp only [c8, c1, ci] at h0 h1 h2
  rw [c10] at hsz
  obtain ⟨T, hT⟩ := words_of_trod h0
  obtain ⟨m, e2, _, w2⟩ := DataW.trod_int Tryd.underlying3 h2
  have hl : cs.toList.length = 10 := by simpa using hsz
  obtain ⟨l⟩ := cs
  simp only [] at hT h1 e2 hl
  match l, hl with
  | [a, b, c, d, e, f, g, z, s, t], _ =>
    simp [hv] at hT h1 e2
    obtain ⟨rfl, rfl, rfl, rfl, rfl, rfl, rfl, rfl⟩ := hT
    subst e2
    obtain ⟨xs, hi, hx⟩ := isl_of_trod Tryd.underlying23 Tryd.underlying5 (by kernel_rfl) h1
    obtain ⟨a', c', rfl, hi2, h02⟩ := hi
    have := bounds_i64 w2
    exact ⟨T, a', c', xs, m, rfl, ⟨a', c', rfl, hi2, h02⟩, bytesL.of_all fun x hx' => byte_wf (hx x hx'), by omega, by omega⟩
set_option maxRecDepth 100000 in
theorem open_n (hv : Value.okWide Tryd.prog W r b0 3 v) (h : DataW.Trod enc Tryd.prog W base sp held 3 v d p) : ∃ x : Int, v = .int .i64 x ∧ -9223372036854775808 ≤ x ∧ x ≤ 9223372036854775807 := by
  obtain ⟨a, rfl, _, _, wa⟩ := open_int Tryd.underlying3 hv h
  have := bounds_i64 wa
  exact ⟨a, rfl, by omega, by omega⟩
end

end Go.Proofs.YtfobjdkpdeiidaaDoor
