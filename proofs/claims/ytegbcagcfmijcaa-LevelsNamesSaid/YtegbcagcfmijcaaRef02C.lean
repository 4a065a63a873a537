/-
  The reference of layer 2, walked: merged ticks, each tick of the second list put in its place.
-/
import Derived.Test.YtegbcagcfmijcaaClockM
import Derived.Test.YtegbcagcfmijcaaSlicesB
import Derived.IntWalk
namespace Go.Proofs.Ytegbcagcfmijcaa
open Go.RowKit

/-- Where a tick is put. -/
def insAt (l : List Int) (y : Int) : Nat → Nat
  | 0 => 0
  | k + 1 => if y < nth l k then insAt l y k else k + 1
theorem insAt_le (l : List Int) (y : Int) (k : Nat) : insAt l y k ≤ k := by
  induction k with
  | zero => exact Nat.le_refl _
  | succ k ih => unfold insAt; split <;> omega
theorem insAt_ge (l : List Int) (y : Int) (k : Nat) : ∀ i, insAt l y k ≤ i → i < k → y < nth l i := by
  induction k with
  | zero => intro i _ h; omega
  | succ k ih =>
    intro i h1 h2
    unfold insAt at h1
    split at h1
    · rename_i hy
      rcases Nat.lt_or_ge i k with q | q
      · exact ih i h1 q
      · obtain rfl : i = k := by omega
        exact hy
    · omega
theorem insAt_lt (l : List Int) (y : Int) (k : Nat) : ∀ p, insAt l y k = p + 1 → nth l p ≤ y := by
  induction k with
  | zero => intro p h; cases h
  | succ k ih =>
    intro p h
    unfold insAt at h
    split at h
    · exact ih p h
    · rename_i hy
      obtain rfl : p = k := by omega
      omega

def insR (l : List Int) (y : Int) : List Int := l.take (insAt l y l.length) ++ y :: l.drop (insAt l y l.length)
theorem insR_len (l : List Int) (y : Int) : (insR l y).length = l.length + 1 := by
  have := insAt_le l y l.length
  unfold insR
  simp
  omega
theorem insR_perm (l : List Int) (y : Int) : (insR l y).Perm (l ++ [y]) := by
  unfold insR
  refine List.perm_middle.trans ?_
  rw [List.take_append_drop]
  exact (List.perm_append_singleton y l).symm

theorem ris_iff (l : List Int) : risB l = true ↔ l.Pairwise (· ≤ ·) := by
  unfold risB
  rw [decide_eq_true_iff, List.pairwise_iff_getElem]
  have hn : ∀ i (h : i < l.length), nth l i = l[i] := fun i h => by
    unfold nth
    rw [List.getD_eq_getElem?_getD, List.getElem?_eq_getElem h]
    rfl
  constructor
  · intro h i j hi hj hij
    rw [← hn i hi, ← hn j hj]
    clear hn
    induction j with
    | zero => omega
    | succ j ih =>
      have h1 := h j (by omega) hj
      rcases Nat.lt_or_ge i j with q | q
      · exact Int.le_trans (ih (by omega) q) h1
      · obtain rfl : i = j := by omega
        exact h1
  · intro h i hi hj
    rw [hn i hi, hn (i + 1) hj]
    exact h i (i + 1) hi hj (by omega)

theorem nth_get {l : List Int} {i : Nat} (h : i < l.length) : nth l i = l[i] := by
  unfold nth
  rw [List.getD_eq_getElem?_getD, List.getElem?_eq_getElem h]
  rfl
theorem insR_sorted (l : List Int) (y : Int) (h : l.Pairwise (· ≤ ·)) : (insR l y).Pairwise (· ≤ ·) := by
  have hp := insAt_le l y l.length
  have hge := insAt_ge l y l.length
  have hlt := insAt_lt l y l.length
  unfold insR
  obtain ⟨p, hpe⟩ : ∃ p, insAt l y l.length = p := ⟨_, rfl⟩
  rw [hpe] at hp hge hlt ⊢
  rw [List.pairwise_append]
  refine ⟨h.sublist (List.take_sublist _ _), ?_, ?_⟩
  · rw [List.pairwise_cons]
    refine ⟨fun z hz => ?_, h.sublist (List.drop_sublist _ _)⟩
    obtain ⟨i, hi, rfl⟩ := List.mem_iff_getElem.1 hz
    rw [List.getElem_drop, ← nth_get]
    simp at hi
    exact Int.le_of_lt (hge (p + i) (by omega) (by omega))
  · intro a ha b hb
    obtain ⟨i, hi, rfl⟩ := List.mem_iff_getElem.1 ha
    simp at hi
    rw [List.getElem_take]
    have hr : ∀ i j (hi : i < l.length) (hj : j < l.length), i ≤ j → l[i] ≤ l[j] := fun i j hi hj hij => by
      rcases Nat.lt_or_ge i j with q | q
      · exact (List.pairwise_iff_getElem.1 h) i j hi hj q
      · obtain rfl : i = j := by omega
        exact Int.le_refl _
    have hy : l[i]'(by omega) ≤ y := by
      obtain ⟨q, rfl⟩ : ∃ q, p = q + 1 := ⟨p - 1, by omega⟩
      have h2 := hlt q rfl
      rw [nth_get (by omega)] at h2
      exact Int.le_trans (hr i q (by omega) (by omega) (by omega)) h2
    rcases List.mem_cons.1 hb with rfl | hb
    · exact hy
    · obtain ⟨j, hj, rfl⟩ := List.mem_iff_getElem.1 hb
      simp at hj
      rw [List.getElem_drop]
      exact hr i (p + j) (by omega) (by omega) (by omega)

def insAll (l : List Int) : List Int → List Int
  | [] => l
  | y :: ys => insAll (insR l y) ys
theorem insAll_snoc (l ys : List Int) (y : Int) : insAll l (ys ++ [y]) = insR (insAll l ys) y := by
  induction ys generalizing l with
  | nil => rfl
  | cons z ys ih => exact ih _
theorem insAll_len (l ys : List Int) : (insAll l ys).length = l.length + ys.length := by
  induction ys generalizing l with
  | nil => rfl
  | cons z ys ih => simp [insAll, ih, insR_len]; omega
theorem insAll_perm (l ys : List Int) : (insAll l ys).Perm (l ++ ys) := by
  induction ys generalizing l with
  | nil => simp [insAll]
  | cons z ys ih =>
    refine (ih _).trans ?_
    refine ((insR_perm l z).append_right ys).trans ?_
    simp
theorem insAll_sorted (l ys : List Int) (h : l.Pairwise (· ≤ ·)) : (insAll l ys).Pairwise (· ≤ ·) := by
  induction ys generalizing l with
  | nil => exact h
  | cons z ys ih => exact ih _ (insR_sorted l z h)

theorem mg_perm (xs ys : List Int) : (mg xs ys).Perm (xs ++ ys) := List.merge_perm_append _
theorem mg_sorted (xs ys : List Int) (h1 : xs.Pairwise (· ≤ ·)) (h2 : ys.Pairwise (· ≤ ·)) : (mg xs ys).Pairwise (· ≤ ·) := by
  have := List.pairwise_merge (le := fun a b : Int => decide (a ≤ b)) (by simp; omega) (by simp; omega) xs ys (by simpa using h1) (by simpa using h2)
  unfold mg
  simpa using this
theorem sorted_unique {l m : List Int} (hp : l.Perm m) (h1 : l.Pairwise (· ≤ ·)) (h2 : m.Pairwise (· ≤ ·)) : l = m :=
  List.Perm.eq_of_pairwise (fun _ _ _ _ h k => Int.le_antisymm h k) h1 h2 hp
theorem insAll_mg (xs ys : List Int) (h1 : risB xs = true) (h2 : risB ys = true) : insAll xs ys = mg xs ys :=
  sorted_unique ((insAll_perm xs ys).trans (mg_perm xs ys).symm) (insAll_sorted _ _ ((ris_iff _).1 h1)) (mg_sorted _ _ ((ris_iff _).1 h1) ((ris_iff _).1 h2))
theorem mg_comm (xs ys : List Int) (h1 : risB xs = true) (h2 : risB ys = true) : mg xs ys = mg ys xs :=
  sorted_unique ((mg_perm xs ys).trans (List.perm_append_comm.trans (mg_perm ys xs).symm)) (mg_sorted _ _ ((ris_iff _).1 h1) ((ris_iff _).1 h2)) (mg_sorted _ _ ((ris_iff _).1 h2) ((ris_iff _).1 h1))

def midL (L : List Int) (k : Nat) (c : Int) : List Int := L.take k ++ c :: L.drop k
theorem midL_len (L : List Int) (k : Nat) (c : Int) (h : k ≤ L.length) : (midL L k c).length = L.length + 1 := by unfold midL; simp; omega
theorem midL_end (L : List Int) (c : Int) : midL L L.length c = L ++ [c] := by unfold midL; simp
theorem midL_set (L : List Int) (k : Nat) (c y : Int) (h : k ≤ L.length) : ((midL L k c).map (Value.int .u64)).set k (.int .u64 y) = (midL L k y).map (Value.int .u64) := by
  unfold midL
  rw [List.map_append, List.map_append, List.set_append_right _ _ (by simp; omega)]
  simp [Nat.min_eq_left h]
theorem midL_down (L : List Int) (k : Nat) (h : k < L.length) : midL L (k + 1) (nth L k) = midL L k (nth L k) := by
  unfold midL
  rw [take_succ_nth h, List.append_assoc]
  congr 1
  rw [List.drop_eq_getElem_cons h, ← nth_get h]
  rfl
theorem midL_at (L : List Int) (k : Nat) (c : Int) (h : k < L.length) : ((midL L (k + 1) c).map (Value.int .u64))[k]? = some (.int .u64 (nth L k)) := by
  unfold midL
  rw [List.map_append, List.getElem?_append_left (by simp; omega), List.getElem?_map, List.getElem?_take_of_lt (by omega), List.getElem?_eq_getElem h, nth_get h]
  rfl
theorem midL_mid (L : List Int) (k : Nat) (c : Int) (h : k ≤ L.length) : ((midL L k c).map (Value.int .u64))[k]? = some (.int .u64 c) := by
  unfold midL
  rw [List.map_append, List.getElem?_append_right (by simp; omega)]
  simp [Nat.min_eq_left h]

end Go.Proofs.Ytegbcagcfmijcaa
