/-
  Package clock, walked: the iterator over clamped ticks, and what goes over it; differences and sums.
-/
import Derived.Test.YtegbcagcfmijcaaRef02B
import Derived.RangeFuncBox
import Derived.RangeFuncNested
import Derived.RangeFuncBound
import Derived.RangeFuncCalls
import Derived.RangeFuncLeaves
import Derived.Shelf.Abstract
import Derived.Shelf.RegionOpen
import Derived.WalkKit
import Derived.OwnWalkIn
import Derived.TacticsInMore
import Derived.LoopNIn
import Derived.LoopIn
import Derived.Maps.AppendAt
import Derived.WalkLawsBesides
namespace Go.Proofs.Ytegbcagcfmijcaa
open Go.RowKit Go.Shelf

attribute [local go_sem] Oper.semAt_some

def mx (a b : Int) : Int := if a < b then b else a
/-- What the iterator gives. -/
def cpV (now : Int) (xs : List Int) (k : Fin xs.length) : Array Value := #[.int .i64 (k.val : Int), .int .u64 (gr now (xs.take (k.val + 1)))]
theorem gr_step (now : Int) (xs : List Int) (k : Nat) (h : k < xs.length) : mx (gr now (xs.take k)) (nth xs k) = gr now (xs.take (k + 1)) := by
  rw [take_succ_nth h, gr_snoc]
  rfl

def sndV (now : Int) (xs : List Int) (pre : List (Fin xs.length)) : List Value := pre.map fun k => Value.int .u64 (gr now (xs.take (k.val + 1)))
theorem sndV_snoc (now : Int) (xs : List Int) (pre : List (Fin xs.length)) (x : Fin xs.length) : sndV now xs (pre ++ [x]) = sndV now xs pre ++ [.int .u64 (gr now (xs.take (x.val + 1)))] := by simp [sndV]
theorem sndV_all (now : Int) (xs : List Int) (ys : List (Fin xs.length)) (h : ys.map (·.val) = List.range xs.length) : sndV now xs ys = (cl now xs xs.length).map (Value.int .u64) := by
  unfold sndV cl
  rw [← h]
  simp

theorem owns_base {w' : World} {B B' e n : Nat} {v : Value} {l : List Value} (h : w'.ownsRow B e 1 v n l) (hB : B' ≤ B) : w'.ownsRow B' e 1 v n l := by
  obtain ⟨h1, h2 | ⟨g, cap, cur, h3, hg, h4⟩⟩ := h
  · exact ⟨h1, .inl h2⟩
  · exact ⟨h1, .inr ⟨g, cap, cur, h3, by omega, h4⟩⟩
def bkV (now : Int) (xs : List Int) (pre : List (Fin xs.length)) : List Nat := (pre.map (·.val)).filter fun k => decide (nth xs k < gr now (xs.take (k + 1)))
theorem bkV_hit (now : Int) (xs : List Int) (pre : List (Fin xs.length)) (x : Fin xs.length) (h : nth xs x.val < gr now (xs.take (x.val + 1))) : (bkV now xs (pre ++ [x])).map (fun k : Nat => Value.int .i64 k) = (bkV now xs pre).map (fun k : Nat => Value.int .i64 k) ++ [.int .i64 (x.val : Int)] ∧ (bkV now xs (pre ++ [x])).length = (bkV now xs pre).length + 1 := by
  unfold bkV
  simp [List.filter_append, h]
theorem bkV_miss (now : Int) (xs : List Int) (pre : List (Fin xs.length)) (x : Fin xs.length) (h : ¬ nth xs x.val < gr now (xs.take (x.val + 1))) : bkV now xs (pre ++ [x]) = bkV now xs pre := by
  unfold bkV
  simp [List.filter_append, h]
theorem bkV_len (now : Int) (xs : List Int) (pre : List (Fin xs.length)) : (bkV now xs pre).length ≤ pre.length := by
  unfold bkV
  refine Nat.le_trans (List.length_filter_le _ _) (by simp)
theorem gr_lt_iff (now : Int) (xs : List Int) (k : Nat) (h : k < xs.length) : nth xs k < gr now (xs.take (k + 1)) ↔ nth xs k < gr now (xs.take k) := by
  rw [← gr_step now xs k h]
  unfold mx
  split <;> omega
theorem bk_eq (now : Int) (xs : List Int) : ∀ n, n ≤ xs.length → ((List.range n).filter fun k => decide (nth xs k < gr now (xs.take (k + 1)))).map (fun k : Nat => (k : Int)) = bkq now xs n := by
  intro n
  induction n with
  | zero => intro _; rfl
  | succ n ih =>
    intro h
    rw [List.range_succ, List.filter_append, List.map_append, ih (by omega)]
    show _ = if nth xs n < gr now (xs.take n) then bkq now xs n ++ [(n : Int)] else bkq now xs n
    have := gr_lt_iff now xs n (by omega)
    by_cases hh : nth xs n < gr now (xs.take n)
    · rw [if_pos hh]
      simp [this.2 hh]
    · rw [if_neg hh]
      simp [show ¬ nth xs n < gr now (xs.take (n + 1)) from fun q => hh (this.1 q)]
theorem bkV_all (now : Int) (xs : List Int) (ys : List (Fin xs.length)) (h : ys.map (·.val) = List.range xs.length) : (bkV now xs ys).map (fun k : Nat => Value.int .i64 k) = (bkq now xs xs.length).map (Value.int .i64) ∧ (bkV now xs ys).length = (bkq now xs xs.length).length := by
  have := bk_eq now xs xs.length (Nat.le_refl _)
  unfold bkV
  rw [h, ← this]
  simp

end Go.Proofs.Ytegbcagcfmijcaa
