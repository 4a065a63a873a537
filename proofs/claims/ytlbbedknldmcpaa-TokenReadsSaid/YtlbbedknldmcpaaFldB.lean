/-
  Package field, walked: Check.
-/
import Derived.Test.YtlbbedknldmcpaaFldA
import Derived.Test.YtlbbedknldmcpaaArrEq
namespace Go.Proofs.Ytlbbedknldmcpaa
open Go.RowKit

theorem decF (p : Prop) [Decidable p] (b : Bool) (h : p ↔ b = true) : decide p = b := by cases b <;> simp_all
theorem zeroV : (zeroD.map (Value.int .u8)).toArray = #[.int .u8 0, .int .u8 0, .int .u8 0, .int .u8 0, .int .u8 0, .int .u8 0, .int .u8 0, .int .u8 0, .int .u8 0, .int .u8 0, .int .u8 0, .int .u8 0, .int .u8 0, .int .u8 0, .int .u8 0, .int .u8 0, .int .u8 0, .int .u8 0, .int .u8 0, .int .u8 0, .int .u8 0, .int .u8 0, .int .u8 0, .int .u8 0, .int .u8 0, .int .u8 0, .int .u8 0, .int .u8 0, .int .u8 0, .int .u8 0, .int .u8 0, .int .u8 0] := rfl
theorem size_u8' : (Try.prog.info? 5).map (·.size) = some 1 := by kernel_rfl

theorem eqD {k : IntKind} (xs : List Int) (hx : xs.length = 32) (hk : k = .u8) (ys : Array Value) (hy : ys = (zeroD.map (Value.int .u8)).toArray) (W : World) : (Op.equalIn 10000 25 (.agg (xs.map (Value.int k)).toArray) (.agg ys)).run Try.prog W = .ok (decide (xs = zeroD)) W := by
  subst hk hy
  exact eq_ints W 9998 Try.underlying25 Try.underlying5 size_u8' xs zeroD hx rfl
theorem Fd.err_none {f : Fd} (h : wid f.k = 0) : f.err = 8 := by unfold Fd.err Fd.ok; rw [h]; simp
theorem Fd.err_much {f : Fd} (h : gre f.k < f.n) : f.err = 8 := by
  unfold Fd.err Fd.ok
  rw [show decide (f.n ≤ gre f.k) = false from decide_eq_false (by omega)]; simp
theorem Fd.err_dig {f : Fd} (h6 : f.k ≠ 6) (h : f.d ≠ zeroD) : f.err = 8 := by
  unfold Fd.err Fd.ok
  rw [show decide (f.k = 6) = false from decide_eq_false h6, show decide (f.d = zeroD) = false from decide_eq_false h]; simp
theorem Fd.err_fine {f : Fd} (h : wid f.k ≠ 0) (h1 : f.n ≤ gre f.k) (h2 : f.k = 6 ∨ f.d = zeroD) : f.err = 0 := by
  unfold Fd.err Fd.ok
  rw [if_pos]
  rw [decide_eq_true h, decide_eq_true h1]
  rcases h2 with q | q
  · rw [decide_eq_true q]; rfl
  · rw [decide_eq_true q]; simp
theorem lenDig (f : Fd) : (Try.prog.info? 25).map (·.size) = some (f.d.map (Value.int .u8)).length := by rw [sizeDig, List.length_map, f.hl]

set_option maxRecDepth 100000 in
set_option maxHeartbeats 1600000 in
theorem check_is (f : Fd) (w : World) : Calls Try.prog 24 #[.agg f.v.toArray] w fun e w' => e = .returned (.int .i64 f.err) ∧ Below w.heap.size w w' := by
  have W := width_is f.k
  have G := great_is f.k
  have hX : Box (w.alloc (.cells f.v.toArray 44)) w.heap.size f.v := Box.newc rfl rfl
  have hB : Below w.heap.size w (w.alloc (.cells f.v.toArray 44)) := by go_grown
  have hS := lenDig f
  obtain ⟨V, hV⟩ : ∃ V, f.v = V := ⟨_, rfl⟩
  rw [hV] at hX hB ⊢
  obtain ⟨w1, hw1⟩ : ∃ w1, w.alloc (.cells V.toArray 44) = w1 := ⟨_, rfl⟩
  have c0 := hX.c 0 (.int .u8 f.k) (by rw [← hV]; rfl)
  have c1 := hX.c 1 (.int .u64 f.n) (by rw [← hV]; rfl)
  have hD := hX.rangeFrom 2 (f.d.map (Value.int .u8)) (by rw [← hV]; rfl)
  have hz := hX.lt
  rw [hw1] at c0 c1 hD hB hz
  clear hX
  by_cases h0 : wid f.k = 0
  · have hc : widE f.k = 2 := if_pos h0
    have hr := Fd.err_none h0
    rw [hc, h0] at W
    rw [hr]
    clear hc hr h0 G hS hD hV
    go_enter Try.func24, Try.ntmps24
    go_wp2_with fail
    refine (W _).mono ?_
    rintro e w2 ⟨rfl, rfl⟩
    go_wp2_with fail
    go_returns
    exact ⟨rfl, hB⟩
  have hc : widE f.k = 0 := if_neg h0
  obtain ⟨m, hm⟩ : ∃ m : Int, ((wid f.k : Nat) : Int) = m := ⟨_, rfl⟩
  rw [hc, hm] at W
  by_cases h1 : gre f.k < f.n
  · have hd : decide (gre f.k < f.n) = true := decide_eq_true h1
    have hr := Fd.err_much h1
    rw [hr]
    clear hc hr h0 hS hD hV h1 hm
    go_enter Try.func24, Try.ntmps24
    go_wp2_with fail
    refine (W _).mono ?_
    rintro e w2 ⟨rfl, rfl⟩
    go_wp2_with fail
    go_quiet ((go_at_call 28; exact Calls.quiet_of_same (G _)))
    go_wp2_with fail
    go_returns
    exact ⟨rfl, below_drewN hB _⟩
  have hd : decide (gre f.k < f.n) = false := decide_eq_false h1
  by_cases h6 : f.k = 6
  · have hr := Fd.err_fine h0 (by omega) (Or.inl h6)
    rw [hr]
    rw [h6] at W G hd c0
    clear hc hr h0 hS hD hV h1 hm
    go_enter Try.func24, Try.ntmps24
    go_wp2_with fail
    refine (W _).mono ?_
    rintro e w2 ⟨rfl, rfl⟩
    go_wp2_with fail
    go_quiet ((go_at_call 28; exact Calls.quiet_of_same (G _)))
    go_wp2_with fail
    go_returns
    exact ⟨rfl, below_drewN hB _⟩
  have hk : (f.k != 6) = true := by simpa using h6
  have hE := eqD f.d f.hl rfl _ zeroV.symm
  by_cases h7 : f.d = zeroD
  · have hr := Fd.err_fine h0 (by omega) (Or.inr h7)
    rw [hr]
    rw [decide_eq_true h7] at hE
    clear hc hr h0 hV h1 hm h7 h6
    go_enter Try.func24, Try.ntmps24
    go_wp2_with fail
    refine (W _).mono ?_
    rintro e w2 ⟨rfl, rfl⟩
    go_wp2_with fail
    go_quiet ((go_at_call 28; exact Calls.quiet_of_same (G _)))
    go_wp2_with (refine wpList_load_rangew rfl _ _ rfl hD rfl Try.underlying25 rfl hS ?_)
    go_returns
    exact ⟨rfl, below_drewN hB _⟩
  · have hr := Fd.err_dig h6 h7
    rw [hr]
    rw [decide_eq_false h7] at hE
    clear hc hr h0 hV h1 hm h7 h6
    go_enter Try.func24, Try.ntmps24
    go_wp2_with fail
    refine (W _).mono ?_
    rintro e w2 ⟨rfl, rfl⟩
    go_wp2_with fail
    go_quiet ((go_at_call 28; exact Calls.quiet_of_same (G _)))
    go_wp2_with (refine wpList_load_rangew rfl _ _ rfl hD rfl Try.underlying25 rfl hS ?_)
    go_returns
    exact ⟨rfl, below_drewN hB _⟩

end Go.Proofs.Ytlbbedknldmcpaa
