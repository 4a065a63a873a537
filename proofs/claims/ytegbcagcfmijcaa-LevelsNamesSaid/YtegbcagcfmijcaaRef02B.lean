/-
  The reference of layer 2, walked: clamped ticks, readings that go back.
-/
import Derived.Test.YtegbcagcfmijcaaRef02
namespace Go.Proofs.Ytegbcagcfmijcaa
open Go.RowKit

/-- The clamped ticks. -/
def cl (now : Int) (xs : List Int) (k : Nat) : List Int := (List.range k).map fun i => gr now (xs.take (i + 1))
theorem cl_succ (now : Int) (xs : List Int) (k : Nat) : cl now xs (k + 1) = cl now xs k ++ [gr now (xs.take (k + 1))] := by
  unfold cl
  rw [List.range_succ, List.map_append]
  rfl
theorem cl_len (now : Int) (xs : List Int) (k : Nat) : (cl now xs k).length = k := by unfold cl; simp

theorem info_u64 : (Try.prog.info? 25).map (fun i => (i.zero, i.size, i.bytes)) = some (some (.int .u64 0), 1, 8) := by kernel_rfl

theorem own_snoc {w' : World} {B e : Nat} {v : Value} {k : Nat} {xs : List Int} {x : Int} (h : w'.ownsRow B e 1 v (k + 1) (xs.map (Value.int .u64) ++ [.int .u64 x])) : w'.ownsRow B e 1 v (k + 1) ((xs ++ [x]).map (Value.int .u64)) := by
  rw [List.map_append]
  exact h

theorem own_block {w' : World} {B e n : Nat} {v : Value} {l : List Value} (h : w'.ownsRow B e 1 v n l) : ∀ k, v.ownBlock = some k → B ≤ k := by
  intro k hk
  obtain ⟨_, ⟨rfl, _⟩ | ⟨g, cap, cur, rfl, hg, _⟩⟩ := h
  · cases hk
  · cases hk
    exact hg
theorem one_cell {w : World} {x : Value} {t : TypeId} : ∀ (j : Nat) (u : Value), [x][j]? = some u → (w.alloc (.cells #[x] t)).cell? ((⟨w.heap.size, 0, none⟩ : Addr).add j) = some u := by
  intro j u h
  cases j with
  | zero =>
    simp at h
    subst h
    simp [Addr.add]
  | succ j => simp at h

theorem owns_drewN {w : World} {B e n : Nat} {v : Value} {l : List Value} (h : w.ownsRow B e 1 v n l) (m : Nat) : (w.drewN m).ownsRow B e 1 v n l := h
theorem below_drewN' {B : Nat} {a w : World} (h : Below B a w) (n : Nat) : Below B a (w.drewN n) := ⟨h.os, h.tape, h.output, h.size, h.block⟩
/-- The indices of those that go back. -/
def bkq (now : Int) (xs : List Int) : Nat → List Int
  | 0 => []
  | k + 1 => if nth xs k < gr now (xs.take k) then bkq now xs k ++ [(k : Int)] else bkq now xs k
theorem bk_len (now : Int) (xs : List Int) (k : Nat) : (bkq now xs k).length ≤ k := by
  induction k with
  | zero => simp [bkq]
  | succ k ih =>
    unfold bkq
    split
    · simp; omega
    · omega
theorem info_int : (Try.prog.info? 3).map (fun i => (i.zero, i.size, i.bytes)) = some (some (.int .i64 0), 1, 8) := by kernel_rfl
theorem own_snoc_i {w' : World} {B e n : Nat} {v : Value} {xs : List Int} {x : Int} (h : w'.ownsRow B e 1 v (n + 1) (xs.map (Value.int .i64) ++ [.int .i64 x])) : w'.ownsRow B e 1 v (n + 1) ((xs ++ [x]).map (Value.int .i64)) := by
  rw [List.map_append]
  exact h

end Go.Proofs.Ytegbcagcfmijcaa
