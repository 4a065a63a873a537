/-
  The reference of layer 3, walked: waits and changes.
-/
import Derived.Test.YtegbcagcfmijcaaRef03E
namespace Go.Proofs.Ytegbcagcfmijcaa
open Go.RowKit

theorem put6 {w : World} {b : Nat} {a0 a1 a2 a3 a4 a5 : Value} (h : Box w b [a0, a1, a2, a3, a4, a5]) (x0 x1 x2 x3 x4 x5 : Value) :
    Box ((((((w.setCell ⟨b, 0, none⟩ x0).setCell ⟨b, 1, none⟩ x1).setCell ⟨b, 2, none⟩ x2).setCell ⟨b, 3, none⟩ x3).setCell ⟨b, 4, none⟩ x4).setCell ⟨b, 5, none⟩ x5) b [x0, x1, x2, x3, x4, x5] :=
  (((((h.set 0 x0).set 1 x1).set 2 x2).set 3 x3).set 4 x4).set 5 x5
theorem other6 {w : World} {b c : Nat} {vs : List Value} (h : Box w c vs) (hc : b ≠ c) (x0 x1 x2 x3 x4 x5 : Value) :
    Box ((((((w.setCell ⟨b, 0, none⟩ x0).setCell ⟨b, 1, none⟩ x1).setCell ⟨b, 2, none⟩ x2).setCell ⟨b, 3, none⟩ x3).setCell ⟨b, 4, none⟩ x4).setCell ⟨b, 5, none⟩ x5) c vs :=
  (((((h.other hc x0).other hc x1).other hc x2).other hc x3).other hc x4).other hc x5
theorem below6 {w w1 : World} (h : Below w.heap.size w w1) (x0 x1 x2 x3 x4 x5 : Value) :
    Below w.heap.size w ((((((w1.setCell ⟨w.heap.size, 0, none⟩ x0).setCell ⟨w.heap.size, 1, none⟩ x1).setCell ⟨w.heap.size, 2, none⟩ x2).setCell ⟨w.heap.size, 3, none⟩ x3).setCell ⟨w.heap.size, 4, none⟩ x4).setCell ⟨w.heap.size, 5, none⟩ x5) :=
  (((((h.setCell (Nat.le_refl _) x0).setCell (Nat.le_refl _) x1).setCell (Nat.le_refl _) x2).setCell (Nat.le_refl _) x3).setCell (Nat.le_refl _) x4).setCell (Nat.le_refl _) x5
theorem below6b {w w1 : World} {b : Nat} (hb : w.heap.size ≤ b) (h : Below w.heap.size w w1) (x0 x1 x2 x3 x4 x5 : Value) :
    Below w.heap.size w ((((((w1.setCell ⟨b, 0, none⟩ x0).setCell ⟨b, 1, none⟩ x1).setCell ⟨b, 2, none⟩ x2).setCell ⟨b, 3, none⟩ x3).setCell ⟨b, 4, none⟩ x4).setCell ⟨b, 5, none⟩ x5) :=
  (((((h.setCell hb x0).setCell hb x1).setCell hb x2).setCell hb x3).setCell hb x4).setCell hb x5
theorem IsWait.unique {bu ra pe le pt a c n m : Int} (hb : Buc bu ra pe le pt a) (h1 : IsWait bu ra pe le pt a c n) (h2 : IsWait bu ra pe le pt a c m) : n = m := by
  have key : ∀ k, isU k → k ≤ 18446744073709551615 - a → c ≤ filL bu ra pe le pt a (a + k) → ¬ filL bu ra pe le pt a 18446744073709551615 < c := fun k q0 q1 q2 q3 => by
    have := filL_mono (t1 := a + k) (t2 := 18446744073709551615) hb (by unfold isU at q0; omega) (by omega)
    omega
  rcases h1.is with ⟨e1, f1⟩ | ⟨b1, l1, m1⟩
  · rcases h2.is with ⟨e2, _⟩ | ⟨b2, l2, _⟩
    · rw [e1, e2]
    · exact absurd f1 (key m h2.num b2 l2)
  · rcases h2.is with ⟨_, f2⟩ | ⟨b2, l2, m2⟩
    · exact absurd f2 (key n h1.num b1 l1)
    · have n1 := h1.num.1
      have n2 := h2.num.1
      rcases Int.lt_trichotomy n m with q | q | q
      · have := m2 n n1 q; omega
      · exact q
      · have := m1 m n2 q; omega
end Go.Proofs.Ytegbcagcfmijcaa
