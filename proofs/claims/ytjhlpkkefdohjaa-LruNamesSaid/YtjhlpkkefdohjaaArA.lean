/-
  Package arena, walked: isPlace, Check.
-/
import Derived.Test.YtjhlpkkefdohjaaArMath
namespace Go.Proofs.Ytjhlpkkefdohjaa
open Go.RowKit

theorem size_bl : (Try.prog.info? 4).map (·.size) = some 1 := by kernel_rfl
theorem size_in : (Try.prog.info? 3).map (·.size) = some 1 := by kernel_rfl
theorem info_bl : (Try.prog.info? 4).map (fun i => (i.zero, i.size, i.bytes)) = some (some (.bool false), 1, 1) := by kernel_rfl
theorem info_in : (Try.prog.info? 3).map (fun i => (i.zero, i.size, i.bytes)) = some (some (.int .i64 0), 1, 8) := by kernel_rfl
theorem one_ar (a b : Option Addr) (n m c d : Nat) (x : Int) : ([Value.slice a n c, Value.slice b m d, .int .i64 x] : List Value).toArray.all (·.oneCell') = true := all_oneCell_toArray (fun u hu => by
  simp at hu
  rcases hu with rfl | rfl | rfl <;> rfl)
def ar0 : List Value := [.slice none 0 0, .slice none 0 0, .int .i64 0]
theorem IsR.getI {w : World} {a : Option Addr} {n c : Nat} {xs : List Int} (h : IsR LI w (.slice a n c) xs) {i : Nat} {x : Int} (hi : xs[i]? = some x) : ∃ b off, a = some ⟨b, off, Option.none⟩ ∧ w.cell? ⟨b, off + i, Option.none⟩ = some (.int .i64 x) := by
  obtain ⟨b, off, e, hc⟩ := h.get 1 rfl hi
  refine ⟨b, off, e, ?_⟩
  have := hc 0 (.int .i64 x) rfl
  simpa using this
theorem IsR.getB {w : World} {a : Option Addr} {n c : Nat} {xs : List Bool} (h : IsR LB w (.slice a n c) xs) {i : Nat} {x : Bool} (hi : xs[i]? = some x) : ∃ b off, a = some ⟨b, off, Option.none⟩ ∧ w.cell? ⟨b, off + i, Option.none⟩ = some (.bool x) := by
  obtain ⟨b, off, e, hc⟩ := h.get 1 rfl hi
  refine ⟨b, off, e, ?_⟩
  have := hc 0 (.bool x) rfl
  simpa using this
/-- Which of the first n places are marked. -/
def mark (n : Nat) (l : List Nat) : List Value := (List.range n).map fun i => .bool (decide (i ∈ l))
theorem mark_len (n : Nat) (l : List Nat) : (mark n l).length = n := by simp [mark]
theorem mark_at {n i : Nat} {l : List Nat} (h : i < n) : (mark n l)[i]? = some (.bool (decide (i ∈ l))) := by simp [mark, h]
theorem mark_set {n i : Nat} {l : List Nat} : mark n (l ++ [i]) = (mark n l).set i (.bool true) := by
  apply List.ext_getElem?
  intro j
  rw [List.getElem?_set]
  by_cases hj : j < n
  · rw [mark_at hj]
    by_cases e : i = j
    · subst e
      simp [mark_len, hj]
    · rw [if_neg e, mark_at hj]
      simp [Ne.symm e]
  · rw [List.getElem?_eq_none (by rw [mark_len]; omega)]
    by_cases e : i = j
    · subst e
      simp [mark_len, hj]
    · rw [if_neg e, List.getElem?_eq_none (by rw [mark_len]; omega)]
theorem mark_zero (n : Nat) : madeCells #[.bool false] n = (mark n []).toArray := by
  apply Array.ext
  · simp [madeCells, mark]
  · intro i h1 h2
    simp [madeCells, mark, Nat.mod_one]
theorem make_bools (m : Nat) (hm : m ≤ 1000000) (w : World) : (Instr.makeSlice 59 (.int .i64 (m : Int)) (.int .i64 (m : Int))).run Try.prog w = .ok (.slice (some ⟨w.heap.size, 0, none⟩) m m) (w.alloc (.cells (mark m []).toArray 4)) := by
  obtain ⟨ti, hin, hz0, hz1, hz2⟩ := info_parts info_bl
  rw [run_make (P := Try.prog) w 59 4 ti (.bool false) Try.underlying59 hin hz0 .i64 .i64 m m (by omega) (by omega) (by rw [hz2]; omega) (by omega), hz1]
  simp only [Int.toNat_natCast, Nat.mul_one]
  rw [← mark_zero]
  rfl

end Go.Proofs.Ytjhlpkkefdohjaa
