/-
  clock.Merge, walked: the merged ticks of two rising lists.
-/
import Derived.Test.YtegbcagcfmijcaaClockB
namespace Go.Proofs.Ytegbcagcfmijcaa
open Go.RowKit

/-- The merged lists. -/
def mg (xs ys : List Int) : List Int := List.merge xs ys (fun a b => decide (a ≤ b))
theorem mg_nil_left (ys : List Int) : mg [] ys = ys := by unfold mg; exact List.nil_merge ys
theorem mg_nil_right (xs : List Int) : mg xs [] = xs := by unfold mg; exact List.merge_right xs
theorem mg_left (x y : Int) (xs ys : List Int) (h : x ≤ y) : mg (x :: xs) (y :: ys) = x :: mg xs (y :: ys) := by
  unfold mg; rw [List.cons_merge_cons, if_pos (by simpa using h)]
theorem mg_right (x y : Int) (xs ys : List Int) (h : ¬ x ≤ y) : mg (x :: xs) (y :: ys) = y :: mg (x :: xs) ys := by
  unfold mg; rw [List.cons_merge_cons, if_neg (by simpa using h)]
theorem mg_len (xs ys : List Int) : (mg xs ys).length = xs.length + ys.length := by unfold mg; simp [List.length_merge]

/-- A slice that is what is left of a list. -/
structure Left (w : World) (v : Value) (n : Nat) (xs : List Int) : Prop where
  len : xs.length = n
  is : ∃ at0 cap, v = .slice at0 n cap ∧ Ints w .u64 at0 cap xs

theorem Left.cons {w : World} {v : Value} {n : Nat} {x : Int} {xs : List Int} (h : Left w v n (x :: xs)) : ∃ b off cap m, n = m + 1 ∧ v = .slice (some ⟨b, off, none⟩) (m + 1) (cap + 1) ∧ m ≤ cap ∧ cap < 9223372036854775807 ∧ w.cell? ⟨b, off, none⟩ = some (.int .u64 x) ∧
    Left w (.slice (if cap = 0 then some ⟨b, off, none⟩ else some ⟨b, off + 1, none⟩) m cap) m xs := by
  obtain ⟨hl, at0, cap, rfl, hi⟩ := h
  obtain ⟨b, off, rfl, hc⟩ := hi.cells (by simp)
  have hr := hi.room
  have hm := hi.most
  simp at hr hl
  refine ⟨b, off, cap - 1, xs.length, by omega, by rw [← hl, Nat.sub_add_cancel (by omega)], by omega, by omega, by have := hc 0 (by simp); simpa [nth] using this, rfl, _, _, rfl, by omega, by omega, fun h0 => ?_⟩
  refine ⟨b, off + 1, by rw [if_neg (by omega)], fun i hi => ?_⟩
  have := hc (i + 1) (by simp; omega)
  rw [show off + 1 + i = off + (i + 1) by omega]
  exact this

theorem own_not {w' : World} {B e n b : Nat} {v : Value} {l : List Value} (h : w'.ownsRow B e 1 v n l) (hb : b < B) : v.ownBlock ≠ some b := fun q => by
  have := own_block h b q
  omega
theorem cell_below' {w w' : World} {b o : Nat} {v : Value} (hb : Below w.heap.size w w') (h : w.cell? ⟨b, o, none⟩ = some v) : w'.cell? ⟨b, o, none⟩ = some v := by
  rw [hb.cell (p := ⟨b, o, none⟩) (lt_of_cell' h)]; exact h

end Go.Proofs.Ytegbcagcfmijcaa
