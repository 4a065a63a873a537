/-
  What 'alive' of the statements of layer 2 returns, walked: true.
-/
import Derived.Test.YtdalbngfhinadaaList02
import Derived.Handy
namespace Go.Proofs.Ytdalbngfhinadaa
open Go.RowKit

theorem below_thru {w W w1 : World} (h : Below w.heap.size w W) (hb : Below W.heap.size W w1) : Below w.heap.size w w1 := h.trans (hb.mono h.size)

theorem mg_1424 : mg [1, 4] [2, 4] = [1, 2, 4, 4] := by
  rw [mg_left _ _ _ _ (by decide), mg_right _ _ _ _ (by decide), mg_left _ _ _ _ (by decide), mg_nil_left]

set_option maxRecDepth 100000 in
set_option maxHeartbeats 1600000 in
theorem alive02_any (w : World) : Calls Try.prog 15 #[] w fun e w' => e = .returned (.bool true) ∧ Below w.heap.size w w' := by
  have a1 := Lib.hid (show clV 5 [3, 7, 6, 9] = [5, 7, 7, 9] by decide)
  have a2 := Lib.hid (show clE [3, 7, 6, 9] = 0 by decide)
  have a3 := Lib.hid (show bkL 5 [3, 7, 6, 9] = [0, 2] by decide)
  have a4 := Lib.hid (show mgV [1, 4] [2, 4] = [1, 2, 4, 4] by rw [← mg_1424]; rfl)
  have a5 := Lib.hid (show mgE [1, 4] [2, 4] = 0 by decide)
  have b1 := Lib.hid (show sinceV 7 9 = 2 by decide)
  have b2 := Lib.hid (show sinceE 7 9 = 0 by decide)
  have b3 := Lib.hid (show afterV 18446744073709551615 1 = 0 by decide)
  have b4 := Lib.hid (show afterE 18446744073709551615 1 = 16 by decide)
  go_enter Try.func15, Try.ntmps15
  have L_l_0 : Hid (IsL (w.alloc (.cells #[.int .u64 3, .int .u64 7, .int .u64 6, .int .u64 9] 26)) .u64 (.slice (some ⟨w.heap.size, 0, none⟩) 4 4) [3, 7, 6, 9]) := Lib.hid (IsL.built [3, 7, 6, 9] rfl rfl rfl rfl (by decide))
  go_wp2_with fail
  refine (clamps_is a1 a2 (by repeat (first | (with_reducible exact Hid.out (by with_reducible assumption)) | (with_reducible refine IsL.alloc ?_ _) | (with_reducible refine IsL.drew ?_) | (with_reducible refine IsL.drewN ?_ _) | (with_reducible exact IsL.none)))).mono ?_
  rintro e w1 ⟨v_a, rfl, hl, hb⟩
  have hB1 : Below w.heap.size w w1 := below_thru (by go_grown) hb
  have hs1 : w.heap.size ≤ w1.heap.size := hB1.size
  have L_l_1 : Hid (IsL w1 .u64 (.slice (some ⟨w.heap.size, 0, none⟩) 4 4) [3, 7, 6, 9]) := Lib.hid (IsL.below (by repeat (first | (with_reducible exact Hid.out (by with_reducible assumption)) | (with_reducible refine IsL.alloc ?_ _) | (with_reducible refine IsL.drew ?_) | (with_reducible refine IsL.drewN ?_ _) | (with_reducible exact IsL.none))) hb)
  clear hb L_l_0
  have L_a_1 := Lib.hid hl
  clear hl
  go_wp2_with fail
  refine (back_is a3 a2 (by repeat (first | (with_reducible exact Hid.out (by with_reducible assumption)) | (with_reducible refine IsL.alloc ?_ _) | (with_reducible refine IsL.drew ?_) | (with_reducible refine IsL.drewN ?_ _) | (with_reducible exact IsL.none)))).mono ?_
  rintro e w2 ⟨v_b, rfl, hl, hb⟩
  have hB2 : Below w.heap.size w w2 := below_thru (by go_grown) hb
  have hs2 : w.heap.size ≤ w2.heap.size := hB2.size
  have L_l_2 : Hid (IsL w2 .u64 (.slice (some ⟨w.heap.size, 0, none⟩) 4 4) [3, 7, 6, 9]) := Lib.hid (IsL.below (by repeat (first | (with_reducible exact Hid.out (by with_reducible assumption)) | (with_reducible refine IsL.alloc ?_ _) | (with_reducible refine IsL.drew ?_) | (with_reducible refine IsL.drewN ?_ _) | (with_reducible exact IsL.none))) hb)
  have L_a_2 : Hid (IsL w2 .u64 v_a [5, 7, 7, 9]) := Lib.hid (IsL.below (by repeat (first | (with_reducible exact Hid.out (by with_reducible assumption)) | (with_reducible refine IsL.alloc ?_ _) | (with_reducible refine IsL.drew ?_) | (with_reducible refine IsL.drewN ?_ _) | (with_reducible exact IsL.none))) hb)
  clear hb hB1 hs1 L_l_1 L_a_1
  have L_b_2 := Lib.hid hl
  clear hl
  clear L_l_2
  go_wp2_with fail
  refine (since_is b1 b2 (by unfold tick; omega) (by unfold tick; omega)).mono ?_
  rintro e w3 ⟨rfl, hb⟩
  have hB3 : Below w.heap.size w w3 := below_thru (by go_grown) hb
  have hs3 : w.heap.size ≤ w3.heap.size := hB3.size
  have L_a_3 : Hid (IsL w3 .u64 v_a [5, 7, 7, 9]) := Lib.hid (IsL.below (by repeat (first | (with_reducible exact Hid.out (by with_reducible assumption)) | (with_reducible refine IsL.alloc ?_ _) | (with_reducible refine IsL.drew ?_) | (with_reducible refine IsL.drewN ?_ _) | (with_reducible exact IsL.none))) hb)
  have L_b_3 : Hid (IsL w3 .i64 v_b [0, 2]) := Lib.hid (IsL.below (by repeat (first | (with_reducible exact Hid.out (by with_reducible assumption)) | (with_reducible refine IsL.alloc ?_ _) | (with_reducible refine IsL.drew ?_) | (with_reducible refine IsL.drewN ?_ _) | (with_reducible exact IsL.none))) hb)
  clear hb hB2 hs2 L_a_2 L_b_2
  go_wp2_with fail
  refine (after_is b3 b4 (by unfold tick; omega) (by unfold tick; omega)).mono ?_
  rintro e w4 ⟨rfl, hb⟩
  have hB4 : Below w.heap.size w w4 := below_thru (by go_grown) hb
  have hs4 : w.heap.size ≤ w4.heap.size := hB4.size
  have L_a_4 : Hid (IsL w4 .u64 v_a [5, 7, 7, 9]) := Lib.hid (IsL.below (by repeat (first | (with_reducible exact Hid.out (by with_reducible assumption)) | (with_reducible refine IsL.alloc ?_ _) | (with_reducible refine IsL.drew ?_) | (with_reducible refine IsL.drewN ?_ _) | (with_reducible exact IsL.none))) hb)
  have L_b_4 : Hid (IsL w4 .i64 v_b [0, 2]) := Lib.hid (IsL.below (by repeat (first | (with_reducible exact Hid.out (by with_reducible assumption)) | (with_reducible refine IsL.alloc ?_ _) | (with_reducible refine IsL.drew ?_) | (with_reducible refine IsL.drewN ?_ _) | (with_reducible exact IsL.none))) hb)
  clear hb hB3 hs3 L_a_3 L_b_3
  go_wp2_with fail
  refine (merge_is a4 a5 (by first | (exact IsL.built [1, 4] (by simp) rfl rfl rfl (by decide)) | (refine IsL.alloc ?_ _; exact IsL.built [1, 4] (by simp) rfl rfl rfl (by decide)) | (refine IsL.drew ?_; exact IsL.built [1, 4] (by simp) rfl rfl rfl (by decide))) (by first | (exact IsL.built [2, 4] (by simp) rfl rfl rfl (by decide)) | (refine IsL.alloc ?_ _; exact IsL.built [2, 4] (by simp) rfl rfl rfl (by decide)) | (refine IsL.drew ?_; exact IsL.built [2, 4] (by simp) rfl rfl rfl (by decide)))).mono ?_
  rintro e w5 ⟨v_m, rfl, hl, hb⟩
  have hB5 : Below w.heap.size w w5 := below_thru (by go_grown) hb
  have hs5 : w.heap.size ≤ w5.heap.size := hB5.size
  have L_a_5 : Hid (IsL w5 .u64 v_a [5, 7, 7, 9]) := Lib.hid (IsL.below (by repeat (first | (with_reducible exact Hid.out (by with_reducible assumption)) | (with_reducible refine IsL.alloc ?_ _) | (with_reducible refine IsL.drew ?_) | (with_reducible refine IsL.drewN ?_ _) | (with_reducible exact IsL.none))) hb)
  have L_b_5 : Hid (IsL w5 .i64 v_b [0, 2]) := Lib.hid (IsL.below (by repeat (first | (with_reducible exact Hid.out (by with_reducible assumption)) | (with_reducible refine IsL.alloc ?_ _) | (with_reducible refine IsL.drew ?_) | (with_reducible refine IsL.drewN ?_ _) | (with_reducible exact IsL.none))) hb)
  clear hb hB4 hs4 L_a_4 L_b_4
  have L_m_5 := Lib.hid hl
  clear hl
  go_wp2_with fail
  refine (same_tt (xs := [5, 7, 7, 9]) (by repeat (first | (with_reducible exact Hid.out (by with_reducible assumption)) | (with_reducible refine IsL.alloc ?_ _) | (with_reducible refine IsL.drew ?_) | (with_reducible refine IsL.drewN ?_ _) | (with_reducible exact IsL.none))) (by first | (exact IsL.built [5, 7, 7, 9] (by simp) rfl rfl rfl (by decide)) | (refine IsL.alloc ?_ _; exact IsL.built [5, 7, 7, 9] (by simp) rfl rfl rfl (by decide)) | (refine IsL.drew ?_; exact IsL.built [5, 7, 7, 9] (by simp) rfl rfl rfl (by decide)))).mono ?_
  rintro e w6 ⟨rfl, hb⟩
  have hB6 : Below w.heap.size w w6 := below_thru (by go_grown) hb
  have hs6 : w.heap.size ≤ w6.heap.size := hB6.size
  have L_a_6 : Hid (IsL w6 .u64 v_a [5, 7, 7, 9]) := Lib.hid (IsL.below (by repeat (first | (with_reducible exact Hid.out (by with_reducible assumption)) | (with_reducible refine IsL.alloc ?_ _) | (with_reducible refine IsL.drew ?_) | (with_reducible refine IsL.drewN ?_ _) | (with_reducible exact IsL.none))) hb)
  have L_b_6 : Hid (IsL w6 .i64 v_b [0, 2]) := Lib.hid (IsL.below (by repeat (first | (with_reducible exact Hid.out (by with_reducible assumption)) | (with_reducible refine IsL.alloc ?_ _) | (with_reducible refine IsL.drew ?_) | (with_reducible refine IsL.drewN ?_ _) | (with_reducible exact IsL.none))) hb)
  have L_m_6 : Hid (IsL w6 .u64 v_m [1, 2, 4, 4]) := Lib.hid (IsL.below (by repeat (first | (with_reducible exact Hid.out (by with_reducible assumption)) | (with_reducible refine IsL.alloc ?_ _) | (with_reducible refine IsL.drew ?_) | (with_reducible refine IsL.drewN ?_ _) | (with_reducible exact IsL.none))) hb)
  clear hb hB5 hs5 L_a_5 L_b_5 L_m_5
  go_wp2_with fail
  refine (same_i_tt (xs := [0, 2]) (by repeat (first | (with_reducible exact Hid.out (by with_reducible assumption)) | (with_reducible refine IsL.alloc ?_ _) | (with_reducible refine IsL.drew ?_) | (with_reducible refine IsL.drewN ?_ _) | (with_reducible exact IsL.none))) (by first | (exact IsL.built [0, 2] (by simp) rfl rfl rfl (by decide)) | (refine IsL.alloc ?_ _; exact IsL.built [0, 2] (by simp) rfl rfl rfl (by decide)) | (refine IsL.drew ?_; exact IsL.built [0, 2] (by simp) rfl rfl rfl (by decide)))).mono ?_
  rintro e w7 ⟨rfl, hb⟩
  have hB7 : Below w.heap.size w w7 := below_thru (by go_grown) hb
  have hs7 : w.heap.size ≤ w7.heap.size := hB7.size
  have L_a_7 : Hid (IsL w7 .u64 v_a [5, 7, 7, 9]) := Lib.hid (IsL.below (by repeat (first | (with_reducible exact Hid.out (by with_reducible assumption)) | (with_reducible refine IsL.alloc ?_ _) | (with_reducible refine IsL.drew ?_) | (with_reducible refine IsL.drewN ?_ _) | (with_reducible exact IsL.none))) hb)
  have L_b_7 : Hid (IsL w7 .i64 v_b [0, 2]) := Lib.hid (IsL.below (by repeat (first | (with_reducible exact Hid.out (by with_reducible assumption)) | (with_reducible refine IsL.alloc ?_ _) | (with_reducible refine IsL.drew ?_) | (with_reducible refine IsL.drewN ?_ _) | (with_reducible exact IsL.none))) hb)
  have L_m_7 : Hid (IsL w7 .u64 v_m [1, 2, 4, 4]) := Lib.hid (IsL.below (by repeat (first | (with_reducible exact Hid.out (by with_reducible assumption)) | (with_reducible refine IsL.alloc ?_ _) | (with_reducible refine IsL.drew ?_) | (with_reducible refine IsL.drewN ?_ _) | (with_reducible exact IsL.none))) hb)
  clear hb hB6 hs6 L_a_6 L_b_6 L_m_6
  go_wp2_with fail
  refine (same_tt (xs := [1, 2, 4, 4]) (by repeat (first | (with_reducible exact Hid.out (by with_reducible assumption)) | (with_reducible refine IsL.alloc ?_ _) | (with_reducible refine IsL.drew ?_) | (with_reducible refine IsL.drewN ?_ _) | (with_reducible exact IsL.none))) (by first | (exact IsL.built [1, 2, 4, 4] (by simp) rfl rfl rfl (by decide)) | (refine IsL.alloc ?_ _; exact IsL.built [1, 2, 4, 4] (by simp) rfl rfl rfl (by decide)) | (refine IsL.drew ?_; exact IsL.built [1, 2, 4, 4] (by simp) rfl rfl rfl (by decide)))).mono ?_
  rintro e w8 ⟨rfl, hb⟩
  have hB8 : Below w.heap.size w w8 := below_thru (by go_grown) hb
  have hs8 : w.heap.size ≤ w8.heap.size := hB8.size
  have L_a_8 : Hid (IsL w8 .u64 v_a [5, 7, 7, 9]) := Lib.hid (IsL.below (by repeat (first | (with_reducible exact Hid.out (by with_reducible assumption)) | (with_reducible refine IsL.alloc ?_ _) | (with_reducible refine IsL.drew ?_) | (with_reducible refine IsL.drewN ?_ _) | (with_reducible exact IsL.none))) hb)
  have L_b_8 : Hid (IsL w8 .i64 v_b [0, 2]) := Lib.hid (IsL.below (by repeat (first | (with_reducible exact Hid.out (by with_reducible assumption)) | (with_reducible refine IsL.alloc ?_ _) | (with_reducible refine IsL.drew ?_) | (with_reducible refine IsL.drewN ?_ _) | (with_reducible exact IsL.none))) hb)
  have L_m_8 : Hid (IsL w8 .u64 v_m [1, 2, 4, 4]) := Lib.hid (IsL.below (by repeat (first | (with_reducible exact Hid.out (by with_reducible assumption)) | (with_reducible refine IsL.alloc ?_ _) | (with_reducible refine IsL.drew ?_) | (with_reducible refine IsL.drewN ?_ _) | (with_reducible exact IsL.none))) hb)
  clear hb hB7 hs7 L_a_7 L_b_7 L_m_7
  go_wp2_with fail
  go_returns
  exact ⟨rfl, hB8⟩

end Go.Proofs.Ytdalbngfhinadaa
