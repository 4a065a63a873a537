/-
  Lists of ticks and of costs that came in, opened.
-/
import Derived.Test.YtegbcagcfmijcaaLaw03
import Derived.Test.YtegbcagcfmijcaaSlices
namespace Go.Proofs.Ytegbcagcfmijcaa
open Go.ChangeShapes Go.WideShapes Go.ChangeAt Go.RowKit Go.Joins

theorem nth_all {P : Int → Prop} {xs : List Int} (h : ∀ x ∈ xs, P x) (k : Nat) (hk : k < xs.length) : P (nth xs k) := by
  unfold nth
  rw [List.getD_eq_getElem?_getD, List.getElem?_eq_getElem hk, Option.getD_some]
  exact h _ (List.getElem_mem hk)
section
variable {H : Type} {enc : TypeId × Value → H} {W : World} {r : Reach} {b0 : Nat} {v : Value} {d : DataW H} {p : List MemPlace}
set_option maxRecDepth 100000 in
theorem open_ticks (hv : Value.okWide Try.prog W r b0 41 v) (h : DataW.Trod enc Try.prog W 0 (fun _ => true) true 41 v d p) :
    ∃ (at0 : Option Addr) (cap : Nat) (xs : List Int), v = .slice at0 xs.length cap ∧ Ints W .u64 at0 cap xs ∧ (∀ k, k < xs.length → isU (nth xs k)) := by
  obtain ⟨at0, cap, xs, rfl, hi, hw⟩ := open_ints_any Try.underlying41 Try.underlying25 (by kernel_rfl) hv h
  exact ⟨at0, cap, xs, rfl, hi, nth_all fun x hx => bounds_u64 (hw x hx)⟩
set_option maxRecDepth 100000 in
theorem open_costs (hv : Value.okWide Try.prog W r b0 42 v) (h : DataW.Trod enc Try.prog W 0 (fun _ => true) true 42 v d p) :
    ∃ (at0 : Option Addr) (cap : Nat) (xs : List Int), v = .slice at0 xs.length cap ∧ Ints W .i64 at0 cap xs ∧ (∀ k, k < xs.length → tickI (nth xs k)) := by
  obtain ⟨at0, cap, xs, rfl, hi, hw⟩ := open_ints_any Try.underlying42 Try.underlying2 (by kernel_rfl) hv h
  exact ⟨at0, cap, xs, rfl, hi, nth_all fun x hx => by have := bounds_i64 (hw x hx); unfold tickI; omega⟩
end

end Go.Proofs.Ytegbcagcfmijcaa
