/-
  How a walk that returns true, from a world in which the package's variables hold the constants, proves a law's row and closes its card.
  The arguments of the statements of layer 5, opened: bytes, words, a hash, a number.
  The arguments of the statements of layer 6, opened: digests.
  The arguments of the statements of layer 8, opened: numbers.
-/
import Derived.Test.YtpccahdbienjeaaDoorGS1
import Derived.Test.YtpccahdbienjeaaDoorCards
import Derived.Test.YtpccahdbienjeaaDoorTie
import Derived.Test.YtpccahdbienjeaaDoorGS2
import Derived.Test.YtpccahdbienjeaaDoorGB1
import Derived.Test.YtpccahdbienjeaaDoorGT1
import Derived.LaidMore
import Derived.Stop.LaidErr
import Derived.Stop.Joined
import Derived.Lib.LaidTab
import Derived.SevenTiedAt
import Derived.Deep.Strs

namespace Go.Proofs.YtpccahdbienjeaaDoor
open Go.ChangeShapes Go.WideShapes Go.ChangeAt Go.RowKit Go.Joins

def laidL : List (String × DataW Unit) := [("spigot/sha.firstWords", Rows.laid_spigot_sha_firstWords), ("spigot/sha.constants", Rows.laid_spigot_sha_constants)]
set_option maxRecDepth 100000 in
theorem laid_first : (Rows.laid_spigot_sha_firstWords : DataW Unit) = Lib.tabData .u32 (first.l.map un) := by kernel_rfl
set_option maxRecDepth 100000 in
theorem laid_const : (Rows.laid_spigot_sha_constants : DataW Unit) = Lib.tabData .u32 (shaK.map un) := by kernel_rfl
theorem getD_un (l : List UInt32) (i : Nat) (h : i < l.length) : (l.map un).getD i 0 = un (l.getD i 0) := by
  rw [List.getD_eq_getElem?_getD, List.getD_eq_getElem?_getD, List.getElem?_map, List.getElem?_eq_getElem h]
  rfl
set_option maxRecDepth 100000 in
theorem of_laid {W : World} (h : laidMetH Tryd.prog laidL W) : LaidS W := by
  rw [MakeChecks.laidMetH_plain _ _ _ (by kernel_rfl)] at h
  have h2 := h.tail
  unfold laidL at h
  rw [laid_first] at h
  rw [laid_const] at h2
  have t1 := Lib.tabIs_of_head (g := 0) (t := 130) (e := 26) (n := 8) (by kernel_rfl) (by kernel_rfl) Tryd.underlying130 Tryd.underlying26 (by kernel_rfl) (by kernel_rfl) h
  have t2 := Lib.tabIs_of_head (g := 1) (t := 147) (e := 26) (n := 64) (by kernel_rfl) (by kernel_rfl) Tryd.underlying147 Tryd.underlying26 (by kernel_rfl) (by kernel_rfl) h2
  refine ⟨fun t ht => ?_, fun t ht => ?_⟩
  · have := t2.cell (g := 1) (by kernel_rfl) t (by rw [List.length_map, shaK_len]; exact ht)
    rw [getD_un _ _ (by rw [shaK_len]; exact ht)] at this
    exact this
  · have := t1.cell (g := 0) (by kernel_rfl) t (by rw [List.length_map, W8.len]; exact ht)
    rw [getD_un _ _ (by rw [W8.len]; exact ht)] at this
    exact this
set_option maxRecDepth 100000 in
theorem door_met (os : Os) (args : Array Value) : laidMetH Tryd.prog laidL ((World.doorLaid Tryd.prog 400 os).forCall (fun _ _ => 0) ⟨#[], args, []⟩).memory :=
  laidMetH_of_parts3 (fuel := 8) (laidMet_of_run' 8 (by kernel_rfl) (by kernel_rfl)) (by kernel_rfl) (by kernel_rfl)

end Go.Proofs.YtpccahdbienjeaaDoor

namespace Go.Proofs.YtpccahdbienjeaaDoor
open Go.ChangeShapes Go.WideShapes Go.ChangeAt Go.RowKit Go.Joins

section
variable {H : Type} {enc : TypeId × Value → H} {W : World} {r : Reach} {b0 base : Nat} {sp : Nat → Bool} {held : Bool} {v : Value} {d : DataW H} {p : List MemPlace}
end

end Go.Proofs.YtpccahdbienjeaaDoor

namespace Go.Proofs.YtpccahdbienjeaaDoor
open Go.ChangeShapes Go.WideShapes Go.ChangeAt Go.RowKit Go.Joins

theorem ints_of_each {k : IntKind} {Q : Int → Prop} : ∀ (cs : List Value), (∀ i, i < cs.length → ∃ x, cs[i]? = some (.int k x) ∧ Q x) → ∃ D : List Int, cs = D.map (Value.int k) ∧ D.length = cs.length ∧ ∀ x ∈ D, Q x
  | [], _ => ⟨[], rfl, rfl, by simp⟩
  | c :: cs, h => by
    obtain ⟨x, hx, hq⟩ := h 0 (by simp)
    obtain ⟨D, rfl, _, hD⟩ := ints_of_each cs fun i hi => by
      have := h (i + 1) (by simpa using hi)
      simpa using this
    simp at hx
    subst hx
    exact ⟨x :: D, rfl, by simp, fun y hy => by
      rcases List.mem_cons.1 hy with rfl | hy
      · exact hq
      · exact hD y hy⟩
section
variable {H : Type} {enc : TypeId × Value → H} {W : World} {r : Reach} {b0 base : Nat} {sp : Nat → Bool} {held : Bool} {v : Value} {d : DataW H} {p : List MemPlace}
set_option maxRecDepth 100000 in
theorem digest_of_trod {fuel : Nat} {cs : List Value} {x : DataW H × List MemPlace} (h : DataW.trod enc Tryd.prog W base sp held fuel 29 cs = some x) :
    ∃ D : List Int, cs = D.map (Value.int .u8) ∧ D.length = 32 ∧ ∀ x ∈ D, 0 ≤ x ∧ x < 256 := by
  obtain ⟨xs, m, _, _, hl, hx, hi⟩ := DataW.trod_array Tryd.underlying29 h
  have c32 : Tryd.prog.cellsOf 29 = 32 := by kernel_rfl
  have c1 : Tryd.prog.cellsOf 5 = 1 := by kernel_rfl
  rw [c32] at hl
  rw [c1] at hi
  obtain ⟨D, hD, hl2, hq⟩ := ints_of_each (k := .u8) (Q := fun x => 0 ≤ x ∧ x < 256) cs fun i h8 => by
    have h1 := hi i (by omega)
    have h2 : i < xs.length := by omega
    rw [List.getElem?_eq_getElem h2] at h1
    obtain ⟨n, e, _, hw⟩ := DataW.trod_int Tryd.underlying5 h1
    refine ⟨n, ?_, ?_⟩
    · have h3 := congrArg (fun l => l[0]?) e
      simpa [List.getElem?_take, List.getElem?_drop] using h3
    · have h1 : IntKind.u8.min ≤ n ∧ n ≤ IntKind.u8.max := by simpa [Lit.wf] using hw
      have e1 : IntKind.u8.min = 0 := rfl
      have e2 : IntKind.u8.max = 255 := rfl
      omega
  exact ⟨D, hD, by omega, hq⟩
set_option maxRecDepth 100000 in
theorem open_digest (hw : Value.okWide Tryd.prog W r b0 29 v) (h : DataW.Trod enc Tryd.prog W base sp held 29 v d p) :
    ∃ D : List Int, v = .agg (D.map (Value.int .u8)).toArray ∧ D.length = 32 ∧ ∀ x ∈ D, 0 ≤ x ∧ x < 256 := by
  simp only [Value.okWide, Tryd.underlying29] at hw
  obtain ⟨cs, rfl, _⟩ := hw
  obtain ⟨fuel, hf⟩ := h
  obtain ⟨D, hD, hl, hq⟩ := digest_of_trod (by simpa [Value.cells] using hf)
  refine ⟨D, ?_, hl, hq⟩
  rw [← hD]
end

end Go.Proofs.YtpccahdbienjeaaDoor

namespace Go.Proofs.YtpccahdbienjeaaDoor
open Go.ChangeShapes Go.WideShapes Go.ChangeAt Go.RowKit Go.Joins

theorem byts_of {D : List Int} (h : ∀ x ∈ D, 0 ≤ x ∧ x < 256) : Byts D := fun x hx => by have := h x hx; omega

end Go.Proofs.YtpccahdbienjeaaDoor
