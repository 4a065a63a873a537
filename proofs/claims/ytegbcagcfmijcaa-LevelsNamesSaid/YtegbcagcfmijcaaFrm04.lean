/-
  A great frame under a letter: what a slot holds behind slots that were written.
-/
import Derived.Test.YtegbcagcfmijcaaHeld04
namespace Go.Proofs.Ytegbcagcfmijcaa
open Go.RowKit

theorem F_frame {F : Act → Prop} {a0 : Act} (n : Nat) (hs : a0.tmps.size = n) (h : ∀ a : Act, a.tmps.size = n → Hid (a = a0) → F a) : F a0 := h a0 hs rfl
theorem put_size (a : Act) (d : Nat) (v : Value) : (a.put (some d) v).tmps.size = a.tmps.size := by simp [Act.put]
theorem ev_same {a : Act} {d : Nat} {v : Value} (h : d < a.tmps.size) : (a.put (some d) v).eval (.tmp d) = v := by simp [Act.put, Act.eval, h]
theorem ev_ne {a : Act} {d k : Nat} {v : Value} (h : k ≠ d) : (a.put (some d) v).eval (.tmp k) = a.eval (.tmp k) := by
  have h' : d ≠ k := fun e => h e.symm
  simp [Act.put, Act.eval, h']
theorem ev_const {a : Act} {v : Value} : a.eval (.const v) = v := rfl
theorem put_comm {a : Act} (i j : Nat) (h : i ≠ j) {x y : Value} : (a.put (some i) x).put (some j) y = (a.put (some j) y).put (some i) x := by
  simp only [Act.put]
  rw [Array.setIfInBounds_comm _ _ h]

end Go.Proofs.Ytegbcagcfmijcaa
