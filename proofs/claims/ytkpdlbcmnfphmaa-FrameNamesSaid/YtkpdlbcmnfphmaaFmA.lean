/-
  Package frame, walked: isCap, number, areLimits.
-/
import Derived.Test.YtkpdlbcmnfphmaaFmCell
namespace Go.Proofs.Ytkpdlbcmnfphmaa
open Go.RowKit

set_option maxHeartbeats 800000 in
theorem cap_is {n : Int} {q : Bool} (hq : Hid (Cap n ↔ q = true)) (w : World) : Calls Try.prog 47 #[.int .u8 n] w fun e w' => e = .returned (.bool q) ∧ Below w.heap.size w w' := by
  go_enter Try.func47, Try.ntmps47
  go_wp2
  all_goals go_returns
  all_goals refine ⟨?_, by go_grown⟩
  all_goals refine ret_b ?_
  all_goals (rw [Bool.eq_iff_iff, ← hq.out]; unfold Cap; simp; try omega)

set_option maxRecDepth 100000 in
theorem bfld (k n : Int) (W : World) : (Instr.build 83 #[(0, .int .u8 k), (1, .int .u64 n)]).run Try.prog W = .ok (.agg (fcell k n zeroD).toArray) W := by kernel_rfl
set_option maxRecDepth 100000 in
set_option maxHeartbeats 1600000 in
theorem num_is (k n : Int) (w : World) : Calls Try.prog 39 #[.int .u8 k, .int .u64 n] w fun e w' => e = .returned (.agg (fcell k n zeroD).toArray) ∧ Below w.heap.size w w' := by
  go_enter Try.func39, Try.ntmps39
  go_wp2_with (refine wpList_store_box (cs := fcell k n zeroD) rfl _ _ _ rfl (Box.newc (l := Fd.zero.v) rfl rfl) rfl rfl (sizeC _ _ _ rfl) rfl (oneC _ _ _) ?_; intro w1 hW1)
  refine bodyPost_ret (results_box (b := w.heap.size) (cs := fcell k n zeroD) Try.results39 hW1.box rfl Try.underlying83 rfl (sizeC _ _ _ rfl)) rfl ⟨rfl, hW1.below _ _ (Nat.le_refl _) (by go_grown)⟩

theorem idx_lim0 (b0 r0 p0 b1 r1 p1 b2 r2 p2 : Int) (W : World) : (Instr.index 25 (.agg #[.int .i64 b0, .int .i64 r0, .int .i64 p0, .int .i64 b1, .int .i64 r1, .int .i64 p1, .int .i64 b2, .int .i64 r2, .int .i64 p2]) (.int .i64 0)).run Try.prog W = .ok (.agg #[.int .i64 b0, .int .i64 r0, .int .i64 p0]) W := by kernel_rfl
theorem idx_lim1 (b0 r0 p0 b1 r1 p1 b2 r2 p2 : Int) (W : World) : (Instr.index 25 (.agg #[.int .i64 b0, .int .i64 r0, .int .i64 p0, .int .i64 b1, .int .i64 r1, .int .i64 p1, .int .i64 b2, .int .i64 r2, .int .i64 p2]) (.int .i64 1)).run Try.prog W = .ok (.agg #[.int .i64 b1, .int .i64 r1, .int .i64 p1]) W := by kernel_rfl
theorem idx_lim2 (b0 r0 p0 b1 r1 p1 b2 r2 p2 : Int) (W : World) : (Instr.index 25 (.agg #[.int .i64 b0, .int .i64 r0, .int .i64 p0, .int .i64 b1, .int .i64 r1, .int .i64 p1, .int .i64 b2, .int .i64 r2, .int .i64 p2]) (.int .i64 2)).run Try.prog W = .ok (.agg #[.int .i64 b2, .int .i64 r2, .int .i64 p2]) W := by kernel_rfl
set_option maxRecDepth 100000 in
set_option maxHeartbeats 1600000 in
theorem lims_f {b0 r0 p0 b1 r1 p1 b2 r2 p2 : Int} (h0 : Hid (limE b0 r0 p0 = 8)) (w : World) : Calls Try.prog 46 #[.agg #[.int .i64 b0, .int .i64 r0, .int .i64 p0, .int .i64 b1, .int .i64 r1, .int .i64 p1, .int .i64 b2, .int .i64 r2, .int .i64 p2]] w fun e w' => e = .returned (.bool false) ∧ Below w.heap.size w w' := by
  have I0 := fun W => idx_lim0 b0 r0 p0 b1 r1 p1 b2 r2 p2 W
  go_enter Try.func46, Try.ntmps46
  go_wp2_with fail
  refine wp_loop_rounds 5 ?_
  rw [rounds_succ]
  go_wp2_with fail
  refine (limit_is h0 _).mono ?_
  rintro e w1 ⟨rfl, hb1⟩
  have hB1 : Below w.heap.size w w1 := below_thru (by go_grown) hb1
  have hs1 := hB1.size
  clear hb1
  go_wp2_with fail
  go_returns
  exact ⟨rfl, hB1⟩

set_option maxRecDepth 100000 in
set_option maxHeartbeats 1600000 in
theorem lims_tf {b0 r0 p0 b1 r1 p1 b2 r2 p2 : Int} (h0 : Hid (limE b0 r0 p0 = 0)) (h1 : Hid (limE b1 r1 p1 = 8)) (w : World) : Calls Try.prog 46 #[.agg #[.int .i64 b0, .int .i64 r0, .int .i64 p0, .int .i64 b1, .int .i64 r1, .int .i64 p1, .int .i64 b2, .int .i64 r2, .int .i64 p2]] w fun e w' => e = .returned (.bool false) ∧ Below w.heap.size w w' := by
  have I0 := fun W => idx_lim0 b0 r0 p0 b1 r1 p1 b2 r2 p2 W
  have I1 := fun W => idx_lim1 b0 r0 p0 b1 r1 p1 b2 r2 p2 W
  go_enter Try.func46, Try.ntmps46
  go_wp2_with fail
  refine wp_loop_rounds 5 ?_
  rw [rounds_succ]
  go_wp2_with fail
  refine (limit_is h0 _).mono ?_
  rintro e w1 ⟨rfl, hb1⟩
  have hB1 : Below w.heap.size w w1 := below_thru (by go_grown) hb1
  have hs1 := hB1.size
  clear hb1
  go_wp2_with fail
  rw [rounds_succ]
  go_wp2_with fail
  refine (limit_is h1 _).mono ?_
  rintro e w2 ⟨rfl, hb2⟩
  have hB2 : Below w.heap.size w w2 := below_thru (by go_grown) hb2
  have hs2 := hB2.size
  clear hb2 hB1 hs1
  go_wp2_with fail
  go_returns
  exact ⟨rfl, hB2⟩

set_option maxRecDepth 100000 in
set_option maxHeartbeats 1600000 in
theorem lims_ttf {b0 r0 p0 b1 r1 p1 b2 r2 p2 : Int} (h0 : Hid (limE b0 r0 p0 = 0)) (h1 : Hid (limE b1 r1 p1 = 0)) (h2 : Hid (limE b2 r2 p2 = 8)) (w : World) : Calls Try.prog 46 #[.agg #[.int .i64 b0, .int .i64 r0, .int .i64 p0, .int .i64 b1, .int .i64 r1, .int .i64 p1, .int .i64 b2, .int .i64 r2, .int .i64 p2]] w fun e w' => e = .returned (.bool false) ∧ Below w.heap.size w w' := by
  have I0 := fun W => idx_lim0 b0 r0 p0 b1 r1 p1 b2 r2 p2 W
  have I1 := fun W => idx_lim1 b0 r0 p0 b1 r1 p1 b2 r2 p2 W
  have I2 := fun W => idx_lim2 b0 r0 p0 b1 r1 p1 b2 r2 p2 W
  go_enter Try.func46, Try.ntmps46
  go_wp2_with fail
  refine wp_loop_rounds 5 ?_
  rw [rounds_succ]
  go_wp2_with fail
  refine (limit_is h0 _).mono ?_
  rintro e w1 ⟨rfl, hb1⟩
  have hB1 : Below w.heap.size w w1 := below_thru (by go_grown) hb1
  have hs1 := hB1.size
  clear hb1
  go_wp2_with fail
  rw [rounds_succ]
  go_wp2_with fail
  refine (limit_is h1 _).mono ?_
  rintro e w2 ⟨rfl, hb2⟩
  have hB2 : Below w.heap.size w w2 := below_thru (by go_grown) hb2
  have hs2 := hB2.size
  clear hb2 hB1 hs1
  go_wp2_with fail
  rw [rounds_succ]
  go_wp2_with fail
  refine (limit_is h2 _).mono ?_
  rintro e w3 ⟨rfl, hb3⟩
  have hB3 : Below w.heap.size w w3 := below_thru (by go_grown) hb3
  have hs3 := hB3.size
  clear hb3 hB2 hs2
  go_wp2_with fail
  go_returns
  exact ⟨rfl, hB3⟩

set_option maxRecDepth 100000 in
set_option maxHeartbeats 1600000 in
theorem lims_ttt {b0 r0 p0 b1 r1 p1 b2 r2 p2 : Int} (h0 : Hid (limE b0 r0 p0 = 0)) (h1 : Hid (limE b1 r1 p1 = 0)) (h2 : Hid (limE b2 r2 p2 = 0)) (w : World) : Calls Try.prog 46 #[.agg #[.int .i64 b0, .int .i64 r0, .int .i64 p0, .int .i64 b1, .int .i64 r1, .int .i64 p1, .int .i64 b2, .int .i64 r2, .int .i64 p2]] w fun e w' => e = .returned (.bool true) ∧ Below w.heap.size w w' := by
  have I0 := fun W => idx_lim0 b0 r0 p0 b1 r1 p1 b2 r2 p2 W
  have I1 := fun W => idx_lim1 b0 r0 p0 b1 r1 p1 b2 r2 p2 W
  have I2 := fun W => idx_lim2 b0 r0 p0 b1 r1 p1 b2 r2 p2 W
  go_enter Try.func46, Try.ntmps46
  go_wp2_with fail
  refine wp_loop_rounds 5 ?_
  rw [rounds_succ]
  go_wp2_with fail
  refine (limit_is h0 _).mono ?_
  rintro e w1 ⟨rfl, hb1⟩
  have hB1 : Below w.heap.size w w1 := below_thru (by go_grown) hb1
  have hs1 := hB1.size
  clear hb1
  go_wp2_with fail
  rw [rounds_succ]
  go_wp2_with fail
  refine (limit_is h1 _).mono ?_
  rintro e w2 ⟨rfl, hb2⟩
  have hB2 : Below w.heap.size w w2 := below_thru (by go_grown) hb2
  have hs2 := hB2.size
  clear hb2 hB1 hs1
  go_wp2_with fail
  rw [rounds_succ]
  go_wp2_with fail
  refine (limit_is h2 _).mono ?_
  rintro e w3 ⟨rfl, hb3⟩
  have hB3 : Below w.heap.size w w3 := below_thru (by go_grown) hb3
  have hs3 := hB3.size
  clear hb3 hB2 hs2
  go_wp2_with fail
  rw [rounds_succ]
  go_wp2_with fail
  go_returns
  exact ⟨rfl, hB3⟩

def lcell (c : Cmd) : List Value := [.int .i64 c.l0.b, .int .i64 c.l0.r, .int .i64 c.l0.p, .int .i64 c.l1.b, .int .i64 c.l1.r, .int .i64 c.l1.p, .int .i64 c.l2.b, .int .i64 c.l2.r, .int .i64 c.l2.p]
theorem lims_is (c : Cmd) {q : Bool} (hq : Hid (c.lims ↔ q = true)) (w : World) : Calls Try.prog 46 #[.agg (lcell c).toArray] w fun e w' => e = .returned (.bool q) ∧ Below w.heap.size w w' := by
  have hf : ¬ c.lims → q = false := fun h => by
    cases q
    · rfl
    · exact absurd (hq.out.2 rfl) h
  by_cases h0 : c.l0.ok
  · by_cases h1 : c.l1.ok
    · by_cases h2 : c.l2.ok
      · rw [hq.out.1 ⟨h0, h1, h2⟩]
        exact lims_ttt (Lib.hid h0) (Lib.hid h1) (Lib.hid h2) w
      · rw [hf (fun h => h2 h.2.2)]
        exact lims_ttf (Lib.hid h0) (Lib.hid h1) (Lib.hid (Lm.not_ok h2)) w
    · rw [hf (fun h => h1 h.2.1)]
      exact lims_tf (Lib.hid h0) (Lib.hid (Lm.not_ok h1)) w
  · rw [hf (fun h => h0 h.1)]
    exact lims_f (Lib.hid (Lm.not_ok h0)) w

end Go.Proofs.Ytkpdlbcmnfphmaa
