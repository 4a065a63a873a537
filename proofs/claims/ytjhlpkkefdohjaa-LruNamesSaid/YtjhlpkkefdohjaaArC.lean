/-
  Package arena, walked: New.
-/
import Derived.Test.YtjhlpkkefdohjaaArB
namespace Go.Proofs.Ytjhlpkkefdohjaa
open Go.RowKit

/-- Two results behind a struct in a box. -/
theorem results_box3 {P : Program} {w : World} {fn : Func} {p q r : Tmp} {ty : TypeId} (h : fn.results = #[.cell p ty, .tmp q, .tmp r]) {tmps : Array Value} {b : Nat} {cs : List Value} {u v : Value} (hb : Box w b cs)
    (hp : tmps.getD p undef = .pointer (some ⟨b, 0, none⟩)) (hq : tmps.getD q undef = u) (hr : tmps.getD r undef = v) {d : TypeDesc} (hu : P.underlying ty = some d) (hd : d.isRow = true) (hi : (P.info? ty).map (·.size) = some cs.length) :
    (results fn tmps).run P w = .ok (.tuple #[.agg cs.toArray, u, v]) w := by
  have hp' : tmps[p]?.getD undef = .pointer (some ⟨b, 0, none⟩) := by simpa using hp
  have hq' : tmps[q]?.getD undef = u := by simpa using hq
  have hr' : tmps[r]?.getD undef = v := by simpa using hr
  simp [results, h, hp', hq', hr', asAddr, run_var_box hb ty hu hd hi]
/-- How far New has come. -/
def nk (n k : Nat) : List Int := (List.range n).map fun i => if i < k then ((i + 1 : Nat) : Int) else 0
theorem nk_len (n k : Nat) : (nk n k).length = n := by simp [nk]
theorem nk_set {n k : Nat} : nk n (k + 1) = (nk n k).set k ((k + 1 : Nat) : Int) := by
  apply List.ext_getElem?
  intro j
  rw [List.getElem?_set]
  by_cases hj : j < n
  · by_cases e : k = j
    · subst e
      simp [nk, hj]
    · rw [if_neg e]
      simp [nk, hj]
      by_cases q : j < k
      · rw [if_pos (by omega), if_pos q]
      · rw [if_neg (by omega), if_neg q]
  · by_cases e : k = j
    · subst e
      simp [nk, hj]
    · rw [if_neg e]
      simp [nk, hj]
theorem nk_end {m : Nat} : (newA (m + 1)).nx = (nk (m + 1) (m + 1)).set m (-1) := by
  apply List.ext_getElem?
  intro j
  rw [List.getElem?_set]
  by_cases hj : j < m + 1
  · rw [newA_at hj]
    by_cases e : m = j
    · subst e
      simp [nk, nextN]
    · rw [if_neg e]
      simp [nk, hj, nextN]
      omega
  · rw [List.getElem?_eq_none (by simp [newA]; omega)]
    by_cases e : m = j
    · omega
    · rw [if_neg e]
      simp [nk, hj]
theorem nk_zero (n : Nat) : madeCells #[.int .i64 0] n = ((nk n 0).map (Value.int .i64)).toArray := by
  apply Array.ext
  · simp [madeCells, nk]
  · intro i h1 h2
    simp [madeCells, nk, Nat.mod_one]
theorem make_ints (m : Nat) (hm : m ≤ 1000000) (w : World) : (Instr.makeSlice 22 (.int .i64 (m : Int)) (.int .i64 (m : Int))).run Try.prog w = .ok (.slice (some ⟨w.heap.size, 0, none⟩) m m) (w.alloc (.cells ((nk m 0).map (Value.int .i64)).toArray 3)) := by
  obtain ⟨ti, hin, hz0, hz1, hz2⟩ := info_parts info_in
  rw [run_make (P := Try.prog) w 22 3 ti (.int .i64 0) Try.underlying22 hin hz0 .i64 .i64 m m (by omega) (by omega) (by rw [hz2]; omega) (by omega), hz1]
  simp only [Int.toNat_natCast, Nat.mul_one]
  rw [← nk_zero]
  rfl
theorem mark_new (n : Nat) : mark n [] = (newA n).us.map Value.bool := by
  apply List.ext_getElem?
  intro j
  by_cases hj : j < n
  · rw [mark_at hj]
    simp [newA, hj]
  · rw [List.getElem?_eq_none (by rw [mark_len]; omega), List.getElem?_eq_none (by simp [newA]; omega)]
theorem set_ints (xs : List Int) (i : Nat) (x : Int) : (xs.set i x).map (Value.int .i64) = (xs.map (Value.int .i64)).set i (.int .i64 x) := by rw [List.map_set]
theorem set_bools (xs : List Bool) (i : Nat) (x : Bool) : (xs.set i x).map Value.bool = (xs.map Value.bool).set i (.bool x) := by rw [List.map_set]

/-- What New answers. -/
def NwA (p : Int) (B : Ar) (q : Int) : Prop := (q = 2 ∧ (p < 1 ∨ 16 < p) ∧ B = Ar.zero) ∨ (q = 0 ∧ ∃ n m : Nat, p = n ∧ n = m + 1 ∧ n ≤ 16 ∧ B = newA n)
theorem NwA.ex (p : Int) : ∃ B q, NwA p B q := by
  by_cases h : p < 1 ∨ 16 < p
  · exact ⟨_, _, Or.inl ⟨rfl, h, rfl⟩⟩
  · exact ⟨_, _, Or.inr ⟨rfl, p.toNat, p.toNat - 1, by omega, by omega, by omega, rfl⟩⟩
end Go.Proofs.Ytjhlpkkefdohjaa
