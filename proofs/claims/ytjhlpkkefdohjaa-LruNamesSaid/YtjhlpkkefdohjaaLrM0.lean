/-
  LruUses: touches and last uses of lists.
-/
import Derived.Test.YtjhlpkkefdohjaaLrL
namespace Go.Proofs.Ytjhlpkkefdohjaa
open Go.RowKit

theorem isR_lowO {α : Type} {L : Lay α} {w : World} {v : Value} {xs : List α} (h : IsR L w v xs) (hp : 0 < xs.length) : v.ownBlock ≠ some w.heap.size := by
  obtain ⟨a, c, rfl, hi⟩ := h
  obtain ⟨b0, off, rfl, hc⟩ := hi.cells hp
  obtain ⟨u, hu⟩ : ∃ u, (L.f xs[0])[0]? = some u := ⟨_, List.getElem?_eq_getElem (by rw [L.len xs[0]]; exact L.pos)⟩
  have := lt_of_cell' (hc 0 xs[0] (List.getElem?_eq_getElem hp) 0 u hu)
  intro e
  obtain rfl : b0 = w.heap.size := by simpa [Value.ownBlock] using e
  omega
theorem IsO.low {w : World} {v : Value} {O : Od} (h : IsO w v O) (h1 : 0 < O.pv.length) (h2 : 0 < O.nx.length) : OffO w.heap.size v := by
  obtain ⟨x, y, rfl, r1, r2⟩ := h
  exact ⟨x, y, _, _, rfl, isR_lowO r1 h1, isR_lowO r2 h2⟩
/-- The list behind one more touch. -/
def tch (n : Nat) (acc : List Nat) (x : Int) : List Nat := if 0 ≤ x ∧ x < (n : Int) then x.toNat :: woO acc x.toNat else acc
def tL (n : Nat) (ls : List Int) : List Nat := ls.foldl (tch n) []
/-- The last uses, gathered from the end on. -/
def bks (n : Nat) (acc : List Nat) (x : Int) : List Nat := if 0 ≤ x ∧ x < (n : Int) then (if x.toNat ∈ acc then acc else acc ++ [x.toNat]) else acc
theorem tL_snoc {n : Nat} {ls : List Int} {k : Nat} {x : Int} (h : ls[k]? = some x) : tL n (ls.take (k + 1)) = tch n (tL n (ls.take k)) x := by
  unfold tL
  rw [List.take_add_one, h, List.foldl_append]
  rfl
def bk (n : Nat) (ls : List Int) : List Nat := ls.reverse.foldl (bks n) []
theorem bk_cons {n : Nat} {ls : List Int} {m : Nat} {x : Int} (h : ls[m]? = some x) : bk n (ls.drop m) = bks n (bk n (ls.drop (m + 1))) x := by
  obtain ⟨hm, rfl⟩ := List.getElem?_eq_some_iff.1 h
  rw [List.drop_eq_getElem_cons hm]
  unfold bk
  rw [List.reverse_cons, List.foldl_append]
  rfl
theorem bks_len (n : Nat) (acc : List Nat) (x : Int) : (bks n acc x).length ≤ acc.length + 1 := by
  unfold bks
  split
  · split
    · omega
    · rw [List.length_append, List.length_singleton]
      omega
  · omega
theorem foldl_bks_len (n : Nat) : ∀ (r : List Int) (acc : List Nat), (r.foldl (bks n) acc).length ≤ acc.length + r.length
  | [], acc => Nat.le_refl _
  | x :: r, acc => by
    have h1 := foldl_bks_len n r (bks n acc x)
    have h2 := bks_len n acc x
    rw [List.foldl_cons, List.length_cons]
    omega
theorem bk_len (n : Nat) (ls : List Int) : (bk n ls).length ≤ ls.length := by
  have := foldl_bks_len n ls.reverse []
  rw [List.length_reverse] at this
  unfold bk
  simpa using this
theorem bk_gen (n : Nat) : ∀ (r : List Int) (acc : List Nat), r.foldl (bks n) acc = acc ++ (tL n r.reverse).filter fun j => decide (j ∉ acc)
  | [], acc => by simp [tL]
  | x :: r, acc => by
    rw [List.foldl_cons, bk_gen n r, List.reverse_cons]
    have e : tL n (r.reverse ++ [x]) = tch n (tL n r.reverse) x := by
      unfold tL
      rw [List.foldl_append]
      rfl
    rw [e]
    obtain ⟨A, hA⟩ : ∃ A, tL n r.reverse = A := ⟨_, rfl⟩
    rw [hA]
    unfold bks tch
    by_cases h : 0 ≤ x ∧ x < (n : Int)
    · rw [if_pos h, if_pos h]
      by_cases hm : x.toNat ∈ acc
      · rw [if_pos hm, List.filter_cons_of_neg (by simp [hm])]
        unfold woO
        rw [List.filter_filter]
        congr 1
        apply List.filter_congr
        intro j _
        by_cases q : j ∈ acc
        · simp [q]
        · have : j ≠ x.toNat := fun e => q (by rw [e]; exact hm)
          simp [q, this]
      · rw [if_neg hm, List.filter_cons_of_pos (by simp [hm]), List.append_assoc]
        unfold woO
        rw [List.filter_filter]
        show acc ++ ([x.toNat] ++ _) = acc ++ ([x.toNat] ++ _)
        congr 2
        apply List.filter_congr
        intro j _
        by_cases q : j ∈ acc
        · simp [q]
        · simp [q]
    · rw [if_neg h, if_neg h]
theorem bk_all (n : Nat) (ls : List Int) : bk n ls = tL n ls := by
  unfold bk
  rw [bk_gen, List.reverse_reverse, List.nil_append]
  exact List.filter_eq_self.2 fun j _ => by simp
theorem vo_zero {n : Nat} (h1 : 1 ≤ n) (h2 : n ≤ 16) : VO (ofL n []) [] := VO.of h1 h2 (fun _ h => (by cases h)) List.nodup_nil


end Go.Proofs.Ytjhlpkkefdohjaa
