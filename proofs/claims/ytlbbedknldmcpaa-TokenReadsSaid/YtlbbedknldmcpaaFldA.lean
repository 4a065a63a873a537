/-
  Package field, walked: widths, greatest numbers; the reference's widths.
-/
import Derived.Test.YtlbbedknldmcpaaFldRow
import Derived.Test.YtlbbedknldmcpaaKit
namespace Go.Proofs.Ytlbbedknldmcpaa
open Go.RowKit

def widE (k : Int) : Int := if wid k = 0 then 2 else 0
theorem kcases (k : Int) : k = 1 ∨ k = 2 ∨ k = 3 ∨ k = 4 ∨ k = 5 ∨ k = 6 ∨ k = 7 ∨ ((k == 1) = false ∧ (k == 2) = false ∧ (k == 3) = false ∧ (k == 4) = false ∧ (k == 5) = false ∧ (k == 6) = false ∧ (k == 7) = false ∧ wid k = 0 ∧ gre k = 0) := by
  by_cases h1 : k = 1; · simp [h1]
  by_cases h2 : k = 2; · simp [h2]
  by_cases h3 : k = 3; · simp [h3]
  by_cases h4 : k = 4; · simp [h4]
  by_cases h5 : k = 5; · simp [h5]
  by_cases h6 : k = 6; · simp [h6]
  by_cases h7 : k = 7; · simp [h7]
  have e1 : wid k = 0 := by unfold wid; (repeat' split) <;> omega
  have e2 : gre k = 0 := by unfold gre; (repeat' split) <;> omega
  simp [h1, h2, h3, h4, h5, h6, h7, e1, e2]

set_option maxRecDepth 100000 in
set_option maxHeartbeats 1600000 in
theorem width_is (k : Int) (w : World) : Calls Try.prog 27 #[.int .u8 k] w fun e w' => e = .returned (.tuple #[.int .i64 (wid k : Nat), .int .i64 (widE k)]) ∧ w' = w := by
  rcases kcases k with rfl | rfl | rfl | rfl | rfl | rfl | rfl | ⟨e1, e2, e3, e4, e5, e6, e7, hw, hg⟩
  · go_enter Try.func27, Try.ntmps27
    go_wp2_with fail
    go_returns
    exact ⟨rfl, rfl⟩
  · go_enter Try.func27, Try.ntmps27
    go_wp2_with fail
    go_returns
    exact ⟨rfl, rfl⟩
  · go_enter Try.func27, Try.ntmps27
    go_wp2_with fail
    go_returns
    exact ⟨rfl, rfl⟩
  · go_enter Try.func27, Try.ntmps27
    go_wp2_with fail
    go_returns
    exact ⟨rfl, rfl⟩
  · go_enter Try.func27, Try.ntmps27
    go_wp2_with fail
    go_returns
    exact ⟨rfl, rfl⟩
  · go_enter Try.func27, Try.ntmps27
    go_wp2_with fail
    go_returns
    exact ⟨rfl, rfl⟩
  · go_enter Try.func27, Try.ntmps27
    go_wp2_with fail
    go_returns
    exact ⟨rfl, rfl⟩
  · go_enter Try.func27, Try.ntmps27
    go_wp2_with fail
    go_returns
    exact ⟨by simp [hw, widE], rfl⟩

set_option maxRecDepth 100000 in
set_option maxHeartbeats 1600000 in
theorem great_is (k : Int) (w : World) : Calls Try.prog 28 #[.int .u8 k] w fun e w' => e = .returned (.int .u64 (gre k)) ∧ w' = w := by
  rcases kcases k with rfl | rfl | rfl | rfl | rfl | rfl | rfl | ⟨e1, e2, e3, e4, e5, e6, e7, hw, hg⟩
  · go_enter Try.func28, Try.ntmps28
    go_wp2_with fail
    go_returns
    exact ⟨rfl, rfl⟩
  · go_enter Try.func28, Try.ntmps28
    go_wp2_with fail
    go_returns
    exact ⟨rfl, rfl⟩
  · go_enter Try.func28, Try.ntmps28
    go_wp2_with fail
    go_returns
    exact ⟨rfl, rfl⟩
  · go_enter Try.func28, Try.ntmps28
    go_wp2_with fail
    go_returns
    exact ⟨rfl, rfl⟩
  · go_enter Try.func28, Try.ntmps28
    go_wp2_with fail
    go_returns
    exact ⟨rfl, rfl⟩
  · go_enter Try.func28, Try.ntmps28
    go_wp2_with fail
    go_returns
    exact ⟨rfl, rfl⟩
  · go_enter Try.func28, Try.ntmps28
    go_wp2_with fail
    go_returns
    exact ⟨rfl, rfl⟩
  · go_enter Try.func28, Try.ntmps28
    go_wp2_with fail
    go_returns
    exact ⟨by simp [hg], rfl⟩

set_option maxRecDepth 100000 in
set_option maxHeartbeats 1600000 in
theorem wd_is (k : Int) (w : World) : Calls Try.prog 22 #[.int .u8 k] w fun e w' => e = .returned (.int .i64 (wid k : Nat)) ∧ w' = w := by
  obtain ⟨n, hn⟩ : ∃ n : Int, ((wid k : Nat) : Int) = n := ⟨_, rfl⟩
  obtain ⟨c, hc⟩ : ∃ c : Int, widE k = c := ⟨_, rfl⟩
  have W := width_is k w
  rw [hn, hc] at W
  rw [hn]
  clear hn hc
  go_enter Try.func22, Try.ntmps22
  go_wp2_with fail
  refine W.mono ?_
  rintro e w1 ⟨rfl, rfl⟩
  go_wp2_with fail
  go_returns
  exact ⟨rfl, rfl⟩

end Go.Proofs.Ytlbbedknldmcpaa
