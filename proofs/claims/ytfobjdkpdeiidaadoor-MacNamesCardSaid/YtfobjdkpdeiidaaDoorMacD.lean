/-
  Comparing without an early end: Compare, Same.
-/
import Derived.Test.YtfobjdkpdeiidaaDoorMacA
namespace Go.Proofs.YtfobjdkpdeiidaaDoor
open Go.RowKit

set_option maxRecDepth 100000 in
set_option maxHeartbeats 1600000 in
theorem compare_is {v1 v2 : Value} {xs ys : List Int} (w : World) (h1 : Hid (IsL w .u8 v1 xs)) (h2 : Hid (IsL w .u8 v2 ys)) :
    Calls Tryd.prog 14 #[v1, v2] w fun e w' => e = .returned (.tuple #[.bool (sameB xs ys), .int .i64 ((max xs.length ys.length : Nat) : Int)]) ∧ Below w.heap.size w w' := by
  obtain ⟨a1, c1, rfl, hin1, _⟩ := id h1.out
  obtain ⟨a2, c2, rfl, hin2, _⟩ := id h2.out
  have r1 := hin1.room
  have m1 := hin1.most
  have r2 := hin2.room
  have m2 := hin2.most
  clear hin1 hin2
  obtain ⟨M, hM⟩ : ∃ M, max xs.length ys.length = M := ⟨_, rfl⟩
  have hmax : max (xs.length : Int) (ys.length : Int) = (M : Int) := by omega
  have hMm : M ≤ 9223372036854775807 := by omega
  have HS := Lib.hid (show cmpK xs ys M = sameB xs ys by rw [← hM]; exact cmpK_all xs ys)
  rw [hM]
  go_enter Tryd.func14, Tryd.ntmps14
  go_wp2_with fail
  clear hmax
  go_loopw [6, 7, 14] (fun s l i wr => ∃ k : Nat, k ≤ M ∧ s = .bool (cmpK xs ys k) ∧ l = .int .i64 k ∧ i = .int .i64 k ∧ Below w.heap.size w wr) (fun _ _ i _ => M - (intOf i).toNat)
  case atStart => exact ⟨0, by omega, by rw [cmpK_zero], rfl, rfl, Below.refl _ _⟩
  case round =>
    obtain ⟨k, hk, rfl, rfl, rfl, hB⟩ := hrel
    by_cases hlt : k < M
    · have hlti : (k : Int) < (M : Int) := by omega
      go_wp2_with fail
      refine (place_is k _ (h1.out.below hB) (by omega)).mono ?_
      rintro e w1 ⟨rfl, hb⟩
      have hB1 := below_thru hB hb
      clear hb
      go_wp2_with fail
      refine (place_is k _ (h2.out.below hB1) (by omega)).mono ?_
      rintro e w2 ⟨rfl, hb⟩
      have hB2 := below_thru hB1 hb
      have hE : ∀ W : World, (Op.equalIn 10000 53 (.agg #[.int .u8 (plA xs k), .int .u8 (plB xs k)]) (.agg #[.int .u8 (plA ys k), .int .u8 (plB ys k)])).run Tryd.prog W = .ok (decide ([plA xs k, plB xs k] = [plA ys k, plB ys k])) W := fun W =>
        eq_ints W 9998 Tryd.underlying53 Tryd.underlying5 (by kernel_rfl) [plA xs k, plB xs k] [plA ys k, plB ys k] rfl rfl
      have hsu := Lib.hid (cmpK_succ xs ys k)
      obtain ⟨q, hq⟩ : ∃ q, decide ([plA xs k, plB xs k] = [plA ys k, plB ys k]) = q := ⟨_, rfl⟩
      rw [hq] at hE hsu
      obtain ⟨c, hc⟩ : ∃ c, cmpK xs ys k = c := ⟨_, rfl⟩
      rw [hc] at hsu ⊢
      generalize plA xs k = p1 at hE ⊢
      generalize plB xs k = p2 at hE ⊢
      generalize plA ys k = p3 at hE ⊢
      generalize plB ys k = p4 at hE ⊢
      clear hq hc hb hB1 hB
      cases q
      · go_wp2_with fail
        go_roundw
        case rel => exact ⟨k + 1, by omega, by rw [hsu.out]; rfl, by go_num, by go_num, hB2⟩
        case measure => simp [intOf]; omega
      · go_wp2_with fail
        go_roundw
        case rel => exact ⟨k + 1, by omega, by rw [hsu.out]; rfl, by go_num, by go_num, hB2⟩
        case measure => simp [intOf]; omega
    · obtain rfl : k = M := by omega
      rw [HS.out]
      go_wp2_with fail
      go_returns
      exact ⟨rfl, hB⟩

set_option maxRecDepth 100000 in
set_option maxHeartbeats 1600000 in
theorem mac_same {D1 D2 : List Int} (w : World) (l1 : D1.length = 32) (l2 : D2.length = 32) :
    Calls Tryd.prog 15 #[.agg (D1.map (Value.int .u8)).toArray, .agg (D2.map (Value.int .u8)).toArray] w fun e w' => e = .returned (.bool (sameB D1 D2)) ∧ Below w.heap.size w w' := by
  go_enter Tryd.func15, Tryd.ntmps15
  go_upto_region 1 with fail

  have hx1 : Box ((w.alloc (.cells (D1.map (Value.int .u8)).toArray 31)).alloc (.cells (D2.map (Value.int .u8)).toArray 31)) w.heap.size (D1.map (Value.int .u8)) := Box.alloc (Box.newc rfl rfl) _
  have hx2 : Box ((w.alloc (.cells (D1.map (Value.int .u8)).toArray 31)).alloc (.cells (D2.map (Value.int .u8)).toArray 31)) (w.heap.size + 1) (D2.map (Value.int .u8)) := Box.newc rfl (by simp)
  have J1 := Lib.hid (IsL.box 32 l1 hx1 (by omega))
  have J2 := Lib.hid (IsL.box 32 l2 hx2 (by omega))
  have L1 := Lib.hid l1
  have L2 := Lib.hid l2
  have hB : Below w.heap.size w ((w.alloc (.cells (D1.map (Value.int .u8)).toArray 31)).alloc (.cells (D2.map (Value.int .u8)).toArray 31)) := by go_grown
  clear hx1 hx2 l1 l2
  go_region_held3 (fun _ => True) (trivial) (first | (go_at_call 14; refine (compare_is _ (Lib.hid (IsL.drew J1.out)) (Lib.hid (IsL.drew J2.out))).mono ?_; rintro e w1 ⟨rfl, hb⟩; have hB1 : Below w.heap.size w w1 := below_thru (by go_grown) hb; clear hb))
  all_goals

    go_wp2_with fail
    go_returns
    exact ⟨rfl, hB1⟩

end Go.Proofs.YtfobjdkpdeiidaaDoor
