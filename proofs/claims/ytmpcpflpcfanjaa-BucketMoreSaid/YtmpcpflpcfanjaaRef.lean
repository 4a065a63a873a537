/-
  The reference of layer 1, walked: comparing, sums, differences, products.
-/
import Derived.Test.YtmpcpflpcfanjaaWideOk
namespace Go.Proofs.Ytmpcpflpcfanjaa
open Go.RowKit

theorem ret_wide_int {x y h l e e' : Int} (hx : x = h) (hy : y = l) (he : e = e') : Ending.returned (.tuple #[.agg #[.int .u64 x, .int .u64 y], .int .i64 e]) = .returned (.tuple #[.agg #[.int .u64 h, .int .u64 l], .int .i64 e']) := by rw [hx, hy, he]
theorem ret_wide {x y h l : Int} (hx : x = h) (hy : y = l) : Ending.returned (.agg #[.int .u64 x, .int .u64 y]) = .returned (.agg #[.int .u64 h, .int .u64 l]) := by rw [hx, hy]

set_option maxHeartbeats 800000 in
theorem rcmp_any (ah al bh bl : Int) (w : World) (h2 : isU al) (h4 : isU bl) :
    Calls Try.prog 95 #[.agg #[.int .u64 ah, .int .u64 al], .agg #[.int .u64 bh, .int .u64 bl]] w fun e w' => e = .returned (.int .i64 (cmpI (wN ah al) (wN bh bl))) ∧ Below w.heap.size w w' := by
  rw [← cmp_or h2 h4]
  have hq := fun w => eqW_run ah al bh bl w
  rcases Int.lt_trichotomy ah bh with h | h | h
  · have E := Lib.hid (show orI (cmpI ah bh) (cmpI al bl) = -1 by rw [show cmpI ah bh = -1 from if_pos h]; rfl)
    have d1 : decide (ah < bh) = true := decide_eq_true h
    clear h
    go_enter Try.func95, Try.ntmps95
    go_wp2
    go_returns
    refine ⟨by rw [E.out]; rfl, ?_⟩
    go_grown
  · subst h
    have e0 : cmpI ah ah = 0 := (if_neg (by omega)).trans (if_neg (by omega))
    have E := Lib.hid (show orI (cmpI ah ah) (cmpI al bl) = cmpI al bl by rw [e0]; rfl)
    have d1 : decide (ah < ah) = false := decide_eq_false (by omega)
    clear e0
    rcases Int.lt_trichotomy al bl with k | k | k
    · have K := Lib.hid (show cmpI al bl = -1 from if_pos k)
      have d2 : decide (al < bl) = true := decide_eq_true k
      clear k
      go_enter Try.func95, Try.ntmps95
      go_wp2
      go_returns
      refine ⟨by rw [E.out, K.out]; rfl, ?_⟩
      go_grown
    · subst k
      have K := Lib.hid (show cmpI al al = 0 from (if_neg (by omega)).trans (if_neg (by omega)))
      have d2 : decide (al < al) = false := decide_eq_false (by omega)
      have d3 : wEq ah al ah al = true := by simp [wEq]
      go_enter Try.func95, Try.ntmps95
      go_wp2
      go_returns
      refine ⟨by rw [E.out, K.out]; rfl, ?_⟩
      go_grown
    · have K := Lib.hid (show cmpI al bl = 1 from (if_neg (by omega)).trans (if_pos k))
      have d2 : decide (al < bl) = false := decide_eq_false (by omega)
      have d3 : wEq ah al ah bl = false := by unfold wEq; rw [show (al == bl) = false from beq_eq_false_iff_ne.2 (by omega), Bool.and_false]
      clear k
      go_enter Try.func95, Try.ntmps95
      go_wp2
      go_returns
      refine ⟨by rw [E.out, K.out]; rfl, ?_⟩
      go_grown
  · have E := Lib.hid (show orI (cmpI ah bh) (cmpI al bl) = 1 by rw [show cmpI ah bh = 1 from (if_neg (by omega)).trans (if_pos h)]; rfl)
    have d1 : decide (ah < bh) = false := decide_eq_false (by omega)
    have d2 : (ah == bh) = false := beq_eq_false_iff_ne.2 (by omega)
    have d3 : wEq ah al bh bl = false := by unfold wEq; rw [d2, Bool.false_and]
    clear h
    go_enter Try.func95, Try.ntmps95
    go_wp2
    go_returns
    refine ⟨by rw [E.out]; rfl, ?_⟩
    go_grown

set_option maxHeartbeats 800000 in
theorem radd_ok {ah al bh bl h l : Int} (w : World) (h1 : isU ah) (h2 : isU al) (h3 : isU bh) (h4 : isU bl) (g1 : isU h) (g2 : isU l) (e : wN ah al + wN bh bl = wN h l) :
    Calls Try.prog 92 #[.agg #[.int .u64 ah, .int .u64 al], .agg #[.int .u64 bh, .int .u64 bl]] w fun e w' =>
      e = .returned (.tuple #[.agg #[.int .u64 h, .int .u64 l], .int .i64 0]) ∧ Below w.heap.size w w' := by
  unfold isU at *
  unfold wN at e
  have d2 : decide (bh > 18446744073709551615 - ah) = false := decide_eq_false (by omega)
  by_cases c : bl > 18446744073709551615 - al
  · have E := Lib.hid e
    have d1 : decide (bl > 18446744073709551615 - al) = true := decide_eq_true c
    have s1 : IntKind.u64.wrap (ah + bh) = ah + bh := IntWalk.u64_in _ ⟨by omega, by omega⟩
    have s2 : IntKind.u64.wrap (al + bl) = al + bl - 18446744073709551616 := by rw [IntKind.wrap_u64]; omega
    have s3 : IntKind.u64.wrap (ah + bh + 1) = ah + bh + 1 := IntWalk.u64_in _ ⟨by omega, by omega⟩
    have d3 : (ah + bh == 18446744073709551615) = false := beq_eq_false_iff_ne.2 (by omega)
    clear e
    go_enter Try.func92, Try.ntmps92
    go_wp2
    go_returns
    refine ⟨ret_wide_int (by have := E.out; omega) (by have := E.out; omega) rfl, ?_⟩
    go_grown
  · have E := Lib.hid e
    have d1 : decide (bl > 18446744073709551615 - al) = false := decide_eq_false c
    have s1 : IntKind.u64.wrap (ah + bh) = ah + bh := IntWalk.u64_in _ ⟨by omega, by omega⟩
    have s2 : IntKind.u64.wrap (al + bl) = al + bl := IntWalk.u64_in _ ⟨by omega, by omega⟩
    clear e
    go_enter Try.func92, Try.ntmps92
    go_wp2
    go_returns
    refine ⟨ret_wide_int (by have := E.out; omega) (by have := E.out; omega) rfl, ?_⟩
    go_grown

set_option maxHeartbeats 800000 in
theorem radd_no {ah al bh bl : Int} (w : World) (h1 : isU ah) (h2 : isU al) (h3 : isU bh) (h4 : isU bl) (e : 340282366920938463463374607431768211456 ≤ wN ah al + wN bh bl) :
    Calls Try.prog 92 #[.agg #[.int .u64 ah, .int .u64 al], .agg #[.int .u64 bh, .int .u64 bl]] w fun e w' =>
      e = .returned (.tuple #[.agg #[.int .u64 0, .int .u64 0], .int .i64 16]) ∧ Below w.heap.size w w' := by
  have _ := h3
  unfold isU at *
  unfold wN at e
  by_cases d : bh > 18446744073709551615 - ah
  · have d2 : decide (bh > 18446744073709551615 - ah) = true := decide_eq_true d
    clear e d
    by_cases c : bl > 18446744073709551615 - al
    all_goals
      go_enter Try.func92, Try.ntmps92
      go_wp2
      go_returns
      refine ⟨rfl, ?_⟩
      go_grown
  · have d2 : decide (bh > 18446744073709551615 - ah) = false := decide_eq_false d
    have c : bl > 18446744073709551615 - al := by omega
    have d1 : decide (bl > 18446744073709551615 - al) = true := decide_eq_true c
    have s1 : IntKind.u64.wrap (ah + bh) = 18446744073709551615 := by rw [IntKind.wrap_u64]; omega
    clear e d
    go_enter Try.func92, Try.ntmps92
    go_wp2
    go_returns
    refine ⟨rfl, ?_⟩
    go_grown

set_option maxHeartbeats 800000 in
theorem rless_ok {ah al bh bl h l : Int} (w : World) (h1 : isU ah) (h2 : isU al) (h3 : isU bh) (h4 : isU bl) (g1 : isU h) (g2 : isU l) (e : wN ah al - wN bh bl = wN h l) :
    Calls Try.prog 97 #[.agg #[.int .u64 ah, .int .u64 al], .agg #[.int .u64 bh, .int .u64 bl]] w fun e w' =>
      e = .returned (.agg #[.int .u64 h, .int .u64 l]) ∧ Below w.heap.size w w' := by
  unfold isU at *
  unfold wN at e
  have E := Lib.hid e
  by_cases c : bl > al
  · have d1 : decide (bl > al) = true := decide_eq_true c
    have s1 : IntKind.u64.wrap (ah - bh) = ah - bh := IntWalk.u64_in _ ⟨by omega, by omega⟩
    have s3 : IntKind.u64.wrap (ah - bh - 1) = ah - bh - 1 := IntWalk.u64_in _ ⟨by omega, by omega⟩
    have s2 : IntKind.u64.wrap (al - bl) = al - bl + 18446744073709551616 := by rw [IntKind.wrap_u64]; omega
    clear e
    go_enter Try.func97, Try.ntmps97
    go_wp2
    go_returns
    refine ⟨ret_wide (by have := E.out; omega) (by have := E.out; omega), ?_⟩
    go_grown
  · have d1 : decide (bl > al) = false := decide_eq_false c
    have s1 : IntKind.u64.wrap (ah - bh) = ah - bh := IntWalk.u64_in _ ⟨by omega, by omega⟩
    have s2 : IntKind.u64.wrap (al - bl) = al - bl := IntWalk.u64_in _ ⟨by omega, by omega⟩
    clear e
    go_enter Try.func97, Try.ntmps97
    go_wp2
    go_returns
    refine ⟨ret_wide (by have := E.out; omega) (by have := E.out; omega), ?_⟩
    go_grown

end Go.Proofs.Ytmpcpflpcfanjaa
