/-
  Mathematics of ShaBlocks and ShaOn: blocks one after the other, the number at a padding's end; a slice's middle.
-/
import Derived.Test.YtfobjdkpdeiidaaDoorHash05
namespace Go.Proofs.YtfobjdkpdeiidaaDoor
open Go.RowKit

theorem aft_succ (k : Nat) : ∀ (h : W8) (b : List Int), aft (k + 1) h b = taken (aft k h b) ((b.drop (64 * k)).take 64) := by
  induction k with
  | zero => intro h b; rfl
  | succ k ih =>
    intro h b
    show aft (k + 1) (taken h (b.take 64)) (b.drop 64) = _
    rw [ih, List.drop_drop, show 64 + 64 * k = 64 * (k + 1) by omega]
    rfl
theorem padL_first (n : Nat) : nth (padL n) 0 = 128 := rfl
theorem padL_last (n j : Nat) (hj : j < 8) : nth (padL n) ((padL n).length - 8 + j) = padB n j := by
  have hl := padL_len n
  have e : (padL n).length - 8 + j = (63 - (n + 8) % 64) + j + 1 := by omega
  rw [e]
  unfold nth padL
  rw [List.getD_eq_getElem?_getD, List.getElem?_cons_succ, List.getElem?_append_right (by simp), List.getElem?_map]
  simp [List.getElem?_range hj]
/-- What the first j bytes of a padding's number make. -/
def bitsJ (n j : Nat) : Int := ((8 * n / 2 ^ (8 * (8 - j)) : Nat) : Int)
theorem bitsJ_zero (n : Nat) (h : n ≤ 128000) : bitsJ n 0 = 0 := by
  unfold bitsJ
  rw [Nat.div_eq_of_lt (by omega)]
  rfl
theorem bitsJ_last (n : Nat) : bitsJ n 8 = 8 * (n : Int) := by
  unfold bitsJ
  simp
theorem bitsJ_succ (n j : Nat) (hj : j < 8) : 256 * bitsJ n j + padB n j = bitsJ n (j + 1) := by
  unfold bitsJ padB
  have e : 8 * n / 2 ^ (8 * (8 - j)) = 8 * n / 2 ^ (8 * (7 - j)) / 256 := by
    rw [Nat.div_div_eq_div_mul, show (256 : Nat) = 2 ^ 8 from rfl, ← Nat.pow_add]
    congr 2
    omega
  rw [e, show 8 - (j + 1) = 7 - j by omega]
  omega
theorem bitsJ_le (n j : Nat) (h : n ≤ 1000) : 0 ≤ bitsJ n j ∧ bitsJ n j ≤ 8000 := by
  unfold bitsJ
  have := Nat.div_le_self (8 * n) (2 ^ (8 * (8 - j)))
  generalize 8 * n / 2 ^ (8 * (8 - j)) = q at *
  omega
theorem padB_byte (n j : Nat) : 0 ≤ padB n j ∧ padB n j < 256 := by
  unfold padB
  omega
theorem IsL.off {w : World} {k : IntKind} {b off n c : Nat} {xs : List Int} (h : IsL w k (.slice (some ⟨b, off, Option.none⟩) n c) xs) (m : Nat) (hm : m ≤ n) : IsL w k (.slice (some ⟨b, off + m, Option.none⟩) (n - m) (c - m)) (xs.drop m) := by
  have hr := h.room
  have hl : (xs.drop m).length = n - m := by rw [List.length_drop]; omega
  refine ⟨some ⟨b, off + m, Option.none⟩, c - m, by rw [hl], ⟨by omega, by omega, fun h0 => ⟨b, off + m, rfl, fun i hi => ?_⟩⟩, fun h => by cases h⟩
  obtain ⟨b', off', e, hc⟩ := h.get (m + i) (by omega)
  cases e
  rw [nth_drop, Nat.add_assoc]
  exact hc
theorem whole_blocks {xs : List Int} (h : xs.length ≤ 1000) : (xs ++ padL xs.length).length = 64 * ((xs.length + 72) / 64) ∧ 9 ≤ (padL xs.length).length ∧ (padL xs.length).length ≤ 72 := by
  have _ := h
  have := padL_len xs.length
  rw [List.length_append]
  omega

end Go.Proofs.YtfobjdkpdeiidaaDoor
