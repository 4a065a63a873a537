/-
  The arguments of the statements of layer 3, opened: a limit, a bucket, a tick, a cost, lists of ticks and costs.
-/
import Derived.Test.YtegbcagcfmijcaaLawKit03
import Derived.Test.YtegbcagcfmijcaaKit
import Derived.Deep.Strs
namespace Go.Proofs.Ytegbcagcfmijcaa
open Go.ChangeShapes Go.WideShapes Go.ChangeAt Go.RowKit Go.Joins

/-- There is a wait for every cost. -/
theorem wait_is {bu ra pe le pt a : Int} (hb : Buc bu ra pe le pt a) (c : Int) : ∃ n, IsWait bu ra pe le pt a c n := by
  obtain ⟨z1, z2, z3, z4, z5, z6⟩ := hb.nums
  have hl0 := hb.l0
  have hq0 := hb.q0
  have hq1 := hb.q1
  have ht := hb.tick
  unfold isU at ht
  by_cases c1 : c ≤ le
  · exact ⟨_, isWait_zero hb c1⟩
  · by_cases c2 : bu < c
    · exact ⟨_, isWait_never hb (.inl c2)⟩
    · have e1 : (c - le) * pe = c * pe - le * pe := Int.sub_mul c le pe
      have g2 : 1 * pe ≤ (c - le) * pe := Int.mul_le_mul_of_nonneg_right (by omega) (by omega)
      have hvol : vol pe le pt = le * pe + pt := rfl
      by_cases c3 : ra = 0
      · exact ⟨_, isWait_never hb (.inr (by rw [c3, Int.mul_zero]; omega))⟩
      · obtain ⟨m, em⟩ : ∃ m, upV ((c - le) * pe - pt) ra = m := ⟨_, rfl⟩
        obtain ⟨s1, s2, s3⟩ := up_spec (show 0 < ra by omega) (show 0 ≤ (c - le) * pe - pt by omega) em
        by_cases c4 : m ≤ 18446744073709551615 - a
        · exact ⟨_, isWait_some hb (by omega) s3 c4 (by omega) (fun q => by have := s2 q; omega)⟩
        · have k1 : vol pe le pt + (18446744073709551615 - a) * ra < c * pe := by
            have := s2 (by omega)
            have := Int.mul_le_mul_of_nonneg_right (show 18446744073709551615 - a ≤ m - 1 by omega) z3
            omega
          exact ⟨_, isWait_never hb (.inr k1)⟩
def tickI (n : Int) : Prop := -9223372036854775808 ≤ n ∧ n ≤ 9223372036854775807
theorem array6 {α : Type} {cs : Array α} (h : cs.size = 6) : ∃ c0 c1 c2 c3 c4 c5, cs = #[c0, c1, c2, c3, c4, c5] := by
  obtain ⟨l⟩ := cs
  match l, h with
  | [c0, c1, c2, c3, c4, c5], _ => exact ⟨c0, c1, c2, c3, c4, c5, rfl⟩
section
variable {H : Type} {enc : TypeId × Value → H} {W : World} {r : Reach} {b0 base : Nat} {sp : Nat → Bool} {held : Bool} {v : Value} {d : DataW H} {p : List MemPlace}
set_option maxRecDepth 100000 in
theorem open_u (hv : Value.okWide Try.prog W r b0 25 v) (h : DataW.Trod enc Try.prog W base sp held 25 v d p) : ∃ x : Int, v = .int .u64 x ∧ isU x := by
  obtain ⟨a, rfl, _, _, wa⟩ := open_int Try.underlying25 hv h
  exact ⟨a, rfl, bounds_u64 wa⟩
set_option maxRecDepth 100000 in
theorem open_cost (hv : Value.okWide Try.prog W r b0 2 v) (h : DataW.Trod enc Try.prog W base sp held 2 v d p) : ∃ x : Int, v = .int .i64 x ∧ tickI x := by
  obtain ⟨a, rfl, _, _, wa⟩ := open_int Try.underlying2 hv h
  refine ⟨a, rfl, ?_⟩
  have := bounds_i64 wa
  unfold tickI
  omega
set_option maxRecDepth 100000 in
theorem open_limit_cells {m : Nat} {c0 c1 c2 : Value} {y : DataW H × List MemPlace} (h : DataW.trod enc Try.prog W base sp held m 24 [c0, c1, c2] = some y) :
    ∃ x0 x1 x2 : Int, c0 = .int .i64 x0 ∧ c1 = .int .i64 x1 ∧ c2 = .int .i64 x2 ∧ tickI x0 ∧ tickI x1 ∧ tickI x2 := by
  obtain ⟨y0, y1, y2, n, _, _, h0, h1, h2⟩ := Go.Deep.trod_struct3 Try.underlying24 h
  obtain ⟨a0, e0, _, w0⟩ := DataW.trod_int Try.underlying2 h0
  obtain ⟨a1, e1, _, w1⟩ := DataW.trod_int Try.underlying2 h1
  obtain ⟨a2, e2, _, w2⟩ := DataW.trod_int Try.underlying2 h2
  have hc : Try.prog.cellsOf 2 = 1 := by kernel_rfl
  simp [hc] at e0 e1 e2
  have := bounds_i64 w0
  have := bounds_i64 w1
  have := bounds_i64 w2
  exact ⟨a0, a1, a2, e0, e1, e2, by unfold tickI; omega, by unfold tickI; omega, by unfold tickI; omega⟩
set_option maxRecDepth 100000 in
theorem open_limit (hv : Value.okWide Try.prog W r b0 24 v) (h : DataW.Trod enc Try.prog W base sp held 24 v d p) :
    ∃ x0 x1 x2 : Int, v = .agg #[.int .i64 x0, .int .i64 x1, .int .i64 x2] ∧ tickI x0 ∧ tickI x1 ∧ tickI x2 := by
  obtain ⟨cs, rfl, hsz⟩ := okWide_struct Try.underlying24 hv
  obtain ⟨c0, c1, c2, rfl⟩ := array3 (hsz.trans (by kernel_rfl))
  obtain ⟨fuel, hf⟩ := h
  obtain ⟨x0, x1, x2, rfl, rfl, rfl, t0, t1, t2⟩ := open_limit_cells (by simpa [Value.cells] using hf)
  exact ⟨x0, x1, x2, rfl, t0, t1, t2⟩
set_option maxRecDepth 100000 in
theorem open_bucket (hv : Value.okWide Try.prog W r b0 27 v) (h : DataW.Trod enc Try.prog W base sp held 27 v d p) :
    ∃ x0 x1 x2 x3 x4 x5 : Int, v = .agg #[.int .i64 x0, .int .i64 x1, .int .i64 x2, .int .i64 x3, .int .i64 x4, .int .u64 x5] ∧ isU x5 := by
  obtain ⟨cs, rfl, hsz⟩ := okWide_struct Try.underlying27 hv
  obtain ⟨c0, c1, c2, c3, c4, c5, rfl⟩ := array6 (hsz.trans (by kernel_rfl))
  obtain ⟨fuel, hf⟩ := h
  obtain ⟨y0, y1, y2, y3, n, _, _, h0, h1, h2, h3⟩ := trod_struct4 Try.underlying27 hf
  have hc : Try.prog.cellsOf 2 = 1 := by kernel_rfl
  have hu : Try.prog.cellsOf 25 = 1 := by kernel_rfl
  have hL : Try.prog.cellsOf 24 = 3 := by kernel_rfl
  simp [hL, Value.cells] at h0
  obtain ⟨x0, x1, x2, rfl, rfl, rfl, _⟩ := open_limit_cells h0
  obtain ⟨a1, e1, _, w1⟩ := DataW.trod_int Try.underlying2 h1
  obtain ⟨a2, e2, _, w2⟩ := DataW.trod_int Try.underlying2 h2
  obtain ⟨a3, e3, _, w3⟩ := DataW.trod_int Try.underlying25 h3
  simp [hc, hu, Value.cells] at e1 e2 e3
  subst e1 e2 e3
  exact ⟨x0, x1, x2, a1, a2, a3, rfl, bounds_u64 w3⟩
end

end Go.Proofs.Ytegbcagcfmijcaa
