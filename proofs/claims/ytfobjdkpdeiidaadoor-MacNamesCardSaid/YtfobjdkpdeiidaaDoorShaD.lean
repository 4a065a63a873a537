/-
  Package sha: paddings and blocks handed out, digests, the first hash.
-/
import Derived.Test.YtfobjdkpdeiidaaDoorShaC
namespace Go.Proofs.YtfobjdkpdeiidaaDoor
open Go.RowKit

/-- A slice and an error; eight words and an error. -/
def GivesB (zs : List Int) (c : Int) (w : World) (e : Ending) (w' : World) : Prop := ∃ v, e = .returned (.tuple #[v, .int .i64 c]) ∧ IsL w' .u8 v zs ∧ Below w.heap.size w w'
/-- The bytes of a string are bytes. -/
def bytesL (xs : List Int) : Prop := ∀ k, k < xs.length → 0 ≤ nth xs k ∧ nth xs k < 256
theorem bytesL.append {xs ys : List Int} (h1 : bytesL xs) (h2 : bytesL ys) : bytesL (xs ++ ys) := by
  intro k hk
  rw [List.length_append] at hk
  by_cases h : k < xs.length
  · rw [nth_append_left h]; exact h1 k h
  · rw [nth_append_right (by omega)]; exact h2 _ (by omega)
theorem bytesL.drop {xs : List Int} (h : bytesL xs) (m : Nat) : bytesL (xs.drop m) := by
  intro k hk
  rw [nth_drop]
  rw [List.length_drop] at hk
  exact h _ (by omega)
theorem bytesL.take {xs : List Int} (h : bytesL xs) (m : Nat) : bytesL (xs.take m) := by
  intro k hk
  rw [List.length_take] at hk
  rw [nth_take (by omega)]
  exact h _ (by omega)
theorem bytesL.nil : bytesL [] := fun k hk => by simp at hk
theorem bytesL.of_all {xs : List Int} (h : ∀ x ∈ xs, 0 ≤ x ∧ x < 256) : bytesL xs := nth_all h
theorem padL_bytes (n : Nat) : bytesL (padL n) := bytesL.of_all fun x hx => by
  unfold padL at hx
  rcases List.mem_cons.1 hx with rfl | hx
  · omega
  · rcases List.mem_append.1 hx with hx | hx
    · rw [List.eq_of_mem_replicate hx]; omega
    · obtain ⟨i, _, rfl⟩ := List.mem_map.1 hx
      unfold padB
      omega
theorem dig_bytes (h : W8) : bytesL (dig h) := bytesL.of_all fun x hx => by
  obtain ⟨i, _, rfl⟩ := List.mem_map.1 hx
  unfold digB
  omega

theorem block_is {h T : W8} {v : Value} {xs : List Int} (w : World) (hT : Hid (taken h xs = T)) (hi : IsL w .u8 v xs) (hl : Hid (xs.length = 64)) (hx : Hid (bytesL xs)) (hL : LaidS w) :
    Calls Tryd.prog 47 #[.agg #[.int .u32 (un h.a), .int .u32 (un h.b), .int .u32 (un h.c), .int .u32 (un h.d), .int .u32 (un h.e), .int .u32 (un h.f), .int .u32 (un h.g), .int .u32 (un h.z)], v] w fun e w' => e = .returned (.agg (hv T).toArray) ∧ Below w.heap.size w w' := by
  obtain ⟨at0, cap, rfl, hi, h0⟩ := hi
  rw [← hT.out]
  exact block_any h at0 cap xs w hi hl.out (by have := hx.out; unfold bytesL at this; rw [hl.out] at this; exact this) hL
end Go.Proofs.YtfobjdkpdeiidaaDoor
