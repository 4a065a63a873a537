/-
  The statements' helpers of layer 5: what a string's digest begins and ends with; the chapter's examples.
-/
import Derived.Test.YtfobjdkpdeiidaaDoorShaK
import Derived.Lib.ConvBytes
namespace Go.Proofs.YtfobjdkpdeiidaaDoor
open Go.RowKit

def bytesOfS (s : ByteArray) : List Int := s.data.toList.map fun b => (b.toNat : Int)
theorem below_bytes (w : World) (e : TypeId) (s : ByteArray) : Below w.heap.size w (Lib.bytesWorld w e s) :=
  ⟨rfl, rfl, rfl, by rw [Lib.bytesWorld_size]; omega, fun i hi => Lib.bytesWorld_at_old w e s i hi⟩
theorem isl_bytes (w : World) (e : TypeId) (s : ByteArray) (hs : s.size ≤ 1000000) : ∃ c, grownCap w s.size 0 e = c ∧ IsL (Lib.bytesWorld w e s) .u8 (.slice (some ⟨w.heap.size, 0, none⟩) s.size c) (bytesOfS s) := by
  have hl : (bytesOfS s).length = s.size := by simp [bytesOfS]
  refine ⟨_, rfl, some ⟨w.heap.size, 0, none⟩, grownCap w s.size 0 e, by rw [hl], ⟨by rw [hl]; exact grownCap_ge w _ _ _, ?_, fun _ => ⟨w.heap.size, 0, rfl, fun i hi => ?_⟩⟩, fun h => by cases h⟩
  · have := grownCap_le_maxLen w s.size 0 e (by unfold maxLen; omega)
    unfold maxLen at this
    omega
  · rw [hl] at hi
    rw [Nat.zero_add, Lib.bytesWorld_cell w e s i hi]
    unfold nth bytesOfS
    have hi2 : i < s.data.toList.length := by simpa using hi
    rw [List.getD_eq_getElem?_getD, List.getD_eq_getElem?_getD, List.getElem?_map, List.getElem?_eq_getElem hi2]
    rfl
theorem bytesS (s : ByteArray) : bytesL (bytesOfS s) := bytesL.of_all fun x hx => by
  obtain ⟨b, _, rfl⟩ := List.mem_map.1 hx
  have := b.toNat_lt
  omega

theorem digs0 : Hid (digIs (bytesOfS ⟨#[]⟩) 227 176 196 66 85) := by
  rw [show bytesOfS ⟨#[]⟩ = [] from rfl]; exact Lib.hid dig0
theorem digs3 : Hid (digIs (bytesOfS ⟨#[97, 98, 99]⟩) 186 120 22 191 173) := by
  rw [show bytesOfS ⟨#[97, 98, 99]⟩ = msg3 from rfl]; exact Lib.hid dig3
theorem pad3_zero : ∀ i, i < 60 → 0 < i → nth (padL 3) i = 0 := by decide +kernel
end Go.Proofs.YtfobjdkpdeiidaaDoor
