/-
  The contracts of package wide with their results under names; wide numbers compared as values.
-/
import Derived.Test.YtegbcagcfmijcaaWideDiv
namespace Go.Proofs.Ytegbcagcfmijcaa
open Go.RowKit

theorem u0 : isU 0 := by unfold isU; omega
theorem u1 : isU 1 := by unfold isU; omega
theorem u10 : isU 10 := by unfold isU; omega
theorem uMax : isU 18446744073709551615 := by unfold isU; omega
theorem isU_hi_mul {x y : Int} (h1 : isU x) (h2 : isU y) : isU (wHi (x * y)) := by
  unfold isU at *
  have h : x * y ≤ 18446744073709551615 * 18446744073709551615 := Int.mul_le_mul h1.2 h2.2 h2.1 (by omega)
  have h0 : 0 ≤ x * y := Int.mul_nonneg h1.1 h2.1
  unfold wHi
  omega
theorem wParts {n h l : Int} (hl : isU l) (e : n = wN h l) : wHi n = h ∧ wLo n = l := by rw [e]; exact ⟨wHi_wN hl, wLo_wN hl⟩
theorem add_ok {ah al bh bl h l : Int} (w : World) (h1 : isU ah) (h2 : isU al) (h3 : isU bh) (h4 : isU bl) (g1 : isU h) (g2 : isU l) (e : wN ah al + wN bh bl = wN h l) :
    Calls Try.prog 40 #[.agg #[.int .u64 ah, .int .u64 al], .agg #[.int .u64 bh, .int .u64 bl]] w fun e w' =>
      e = .returned (.tuple #[.agg #[.int .u64 h, .int .u64 l], .int .i64 0]) ∧ Below w.heap.size w w' := by
  have hw := isW_of g1 g2
  unfold isW at hw
  have hp := wParts g2 (rfl : wN h l = wN h l)
  refine (add_any ah al bh bl w h1 h2 h3 h4).mono fun e' w' ⟨he, hb⟩ => ⟨?_, hb⟩
  rw [he, e, show addV (wN h l) = wN h l from if_pos hw.2, show addE (wN h l) = 0 from if_pos hw.2, hp.1, hp.2]
theorem add_no {ah al bh bl : Int} (w : World) (h1 : isU ah) (h2 : isU al) (h3 : isU bh) (h4 : isU bl) (e : ¬ wN ah al + wN bh bl < 340282366920938463463374607431768211456) :
    Calls Try.prog 40 #[.agg #[.int .u64 ah, .int .u64 al], .agg #[.int .u64 bh, .int .u64 bl]] w fun e w' =>
      e = .returned (.tuple #[.agg #[.int .u64 0, .int .u64 0], .int .i64 16]) ∧ Below w.heap.size w w' := by
  refine (add_any ah al bh bl w h1 h2 h3 h4).mono fun e' w' ⟨he, hb⟩ => ⟨?_, hb⟩
  rw [he, show addV (wN ah al + wN bh bl) = 0 from if_neg e, show addE (wN ah al + wN bh bl) = 16 from if_neg e]
  rfl
theorem mul_ok {x y h l : Int} (w : World) (h1 : isU x) (h2 : isU y) (g2 : isU l) (e : x * y = wN h l) :
    Calls Try.prog 41 #[.int .u64 x, .int .u64 y] w fun e w' => e = .returned (.agg #[.int .u64 h, .int .u64 l]) ∧ Below w.heap.size w w' := by
  have hp := wParts g2 e
  refine (mul_any x y w h1 h2).mono fun e' w' ⟨he, hb⟩ => ⟨?_, hb⟩
  rw [he, hp.1, hp.2]
theorem div_ok {ah al d h l r : Int} (w : World) (h1 : isU ah) (h2 : isU al) (h3 : isU d) (hd : d ≠ 0) (g2 : isU l) (e : wN ah al / d = wN h l) (er : wN ah al % d = r) :
    Calls Try.prog 42 #[.agg #[.int .u64 ah, .int .u64 al], .int .u64 d] w fun e w' =>
      e = .returned (.tuple #[.agg #[.int .u64 h, .int .u64 l], .int .u64 r, .int .i64 0]) ∧ Below w.heap.size w w' := by
  have hp := wParts g2 e
  refine (div_any ah al d w h1 h2 h3).mono fun e' w' ⟨he, hb⟩ => ⟨?_, hb⟩
  rw [he, show divV (wN ah al) d = wN ah al / d from if_neg hd, show divR (wN ah al) d = wN ah al % d from if_neg hd, show divE d = 0 from if_neg hd, er, hp.1, hp.2]
theorem div_no {ah al : Int} (w : World) (h1 : isU ah) (h2 : isU al) :
    Calls Try.prog 42 #[.agg #[.int .u64 ah, .int .u64 al], .int .u64 0] w fun e w' =>
      e = .returned (.tuple #[.agg #[.int .u64 0, .int .u64 0], .int .u64 0, .int .i64 26]) ∧ Below w.heap.size w w' := div_any ah al 0 w h1 h2 u0
theorem up_ok {ah al d h l : Int} (w : World) (h1 : isU ah) (h2 : isU al) (h3 : isU d) (hd : d ≠ 0) (g2 : isU l) (e : upV (wN ah al) d = wN h l) :
    Calls Try.prog 39 #[.agg #[.int .u64 ah, .int .u64 al], .int .u64 d] w fun e w' =>
      e = .returned (.tuple #[.agg #[.int .u64 h, .int .u64 l], .int .i64 0]) ∧ Below w.heap.size w w' := by
  have hp := wParts g2 e
  refine (up_any ah al d w h1 h2 h3).mono fun e' w' ⟨he, hb⟩ => ⟨?_, hb⟩
  rw [he, show divE d = 0 from if_neg hd, hp.1, hp.2]
theorem up_no {ah al : Int} (w : World) (h1 : isU ah) (h2 : isU al) :
    Calls Try.prog 39 #[.agg #[.int .u64 ah, .int .u64 al], .int .u64 0] w fun e w' =>
      e = .returned (.tuple #[.agg #[.int .u64 0, .int .u64 0], .int .i64 26]) ∧ Below w.heap.size w w' := up_any ah al 0 w h1 h2 u0
theorem cmp_ok {ah al bh bl n : Int} (w : World) (h2 : isU al) (h4 : isU bl) (e : cmpI (wN ah al) (wN bh bl) = n) :
    Calls Try.prog 33 #[.agg #[.int .u64 ah, .int .u64 al], .agg #[.int .u64 bh, .int .u64 bl]] w fun e w' => e = .returned (.int .i64 n) ∧ Below w.heap.size w w' := by
  rw [← e]; exact wcmp_any ah al bh bl w h2 h4
/-- Two wide numbers compared with ==, as one truth. -/
def wEq (a b c d : Int) : Bool := a == c && b == d
theorem eqW_run (a b c d : Int) (w : World) : (binOp .eql 69 (.agg #[.int .u64 a, .int .u64 b]) (.agg #[.int .u64 c, .int .u64 d])).run Try.prog w = .ok (.bool (wEq a b c d)) w := by
  by_cases e1 : a = c
  · by_cases e2 : b = d
    · simp [go_sem, wEq, e1, e2]
    · simp [go_sem, wEq, e1, e2]
  · simp [go_sem, wEq, e1]
theorem neqW_run (a b c d : Int) (w : World) : (binOp .neq 69 (.agg #[.int .u64 a, .int .u64 b]) (.agg #[.int .u64 c, .int .u64 d])).run Try.prog w = .ok (.bool (!wEq a b c d)) w := by
  by_cases e1 : a = c
  · by_cases e2 : b = d
    · simp [go_sem, wEq, e1, e2]
    · simp [go_sem, wEq, e1, e2]
  · simp [go_sem, wEq, e1]

end Go.Proofs.Ytegbcagcfmijcaa
