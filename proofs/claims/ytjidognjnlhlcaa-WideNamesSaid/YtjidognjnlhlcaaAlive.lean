/-
  What 'alive' of the statements' package returns, walked: true.
-/
import Derived.Test.YtjidognjnlhlcaaWideDiv
namespace Go.Proofs.Ytjidognjnlhlcaa
open Go.RowKit

theorem u0 : isU 0 := by unfold isU; omega
theorem u1 : isU 1 := by unfold isU; omega
theorem u10 : isU 10 := by unfold isU; omega
theorem uMax : isU 18446744073709551615 := by unfold isU; omega

set_option maxHeartbeats 800000 in
theorem alive_any (w : World) : Calls Try.prog 17 #[] w fun e w' => e = .returned (.bool true) ∧ Below w.heap.size w w' := by
  have a1 : wHi (divV (wN 1 0) 10) = 0 := by decide
  have a2 : wLo (divV (wN 1 0) 10) = 1844674407370955161 := by decide
  have a3 : divR (wN 1 0) 10 = 6 := by decide
  have a4 : divE 10 = 0 := by decide
  have a5 : wHi (upV (wN 1 0) 10) = 0 := by decide
  have a6 : wLo (upV (wN 1 0) 10) = 1844674407370955162 := by decide
  have a7 : wHi (addV (wN 0 18446744073709551615 + wN 0 1)) = 1 := by decide
  have a8 : wLo (addV (wN 0 18446744073709551615 + wN 0 1)) = 0 := by decide
  have a9 : addE (wN 0 18446744073709551615 + wN 0 1) = 0 := by decide
  have a10 : subE (wN 0 0 - wN 0 1) = 16 := by decide
  have a11 : wHi (18446744073709551615 * 18446744073709551615) = 18446744073709551614 := by decide
  have a12 : wLo (18446744073709551615 * 18446744073709551615) = 1 := by decide
  go_enter Try.func17, Try.ntmps17
  go_wp2_with fail
  refine (div_any _ _ _ _ u1 u0 u10).mono ?_
  rintro e w1 ⟨rfl, hb⟩
  have hB1 : Below w.heap.size w w1 := below_thru (by go_grown) hb
  have hs1 : w.heap.size ≤ w1.heap.size := hB1.size
  clear hb
  simp only [a1, a2, a3, a4]
  go_wp2_with fail
  refine (up_any _ _ _ _ u1 u0 u10).mono ?_
  rintro e w2 ⟨rfl, hb⟩
  have hB2 : Below w.heap.size w w2 := below_thru (by go_grown) hb
  have hs2 : w.heap.size ≤ w2.heap.size := hB2.size
  have x_q2 : Box w2 (w1.heap.size) [.int .u64 0, .int .u64 1844674407370955161] := (by refine Box.below ?_ hb; repeat (first | assumption | (refine Box.drew ?_) | (refine Box.drewN ?_ _) | (refine Box.new ?_; simp; done) | (refine Box.alloc ?_ _) | (refine Box.other ?_ (by simp; omega) _)))
  have z_q2 := x_q2.lt
  have c_q2_0 := x_q2.c 0 _ rfl
  have f_q2_0 := x_q2.f 0 _ rfl
  have c_q2_1 := x_q2.c 1 _ rfl
  have f_q2_1 := x_q2.f 1 _ rfl
  clear hb hB1 hs1
  simp only [a5, a6, a4]
  go_wp2_with fail
  refine (of_any _ _).mono ?_
  rintro e w3 ⟨rfl, hb⟩
  have hB3 : Below w.heap.size w w3 := below_thru (by go_grown) hb
  have hs3 : w.heap.size ≤ w3.heap.size := hB3.size
  have x_q3 : Box w3 (w1.heap.size) [.int .u64 0, .int .u64 1844674407370955161] := (by refine Box.below ?_ hb; repeat (first | assumption | (refine Box.drew ?_) | (refine Box.drewN ?_ _) | (refine Box.new ?_; simp; done) | (refine Box.alloc ?_ _) | (refine Box.other ?_ (by simp; omega) _)))
  have z_q3 := x_q3.lt
  have c_q3_0 := x_q3.c 0 _ rfl
  have f_q3_0 := x_q3.f 0 _ rfl
  have c_q3_1 := x_q3.c 1 _ rfl
  have f_q3_1 := x_q3.f 1 _ rfl
  have x_u3 : Box w3 (w2.heap.size) [.int .u64 0, .int .u64 1844674407370955162] := (by refine Box.below ?_ hb; repeat (first | assumption | (refine Box.drew ?_) | (refine Box.drewN ?_ _) | (refine Box.new ?_; simp; done) | (refine Box.alloc ?_ _) | (refine Box.other ?_ (by simp; omega) _)))
  have z_u3 := x_u3.lt
  have c_u3_0 := x_u3.c 0 _ rfl
  have f_u3_0 := x_u3.f 0 _ rfl
  have c_u3_1 := x_u3.c 1 _ rfl
  have f_u3_1 := x_u3.f 1 _ rfl
  clear hb hB2 hs2 x_q2 z_q2 c_q2_0 c_q2_1 f_q2_0 f_q2_1
  go_wp2_with fail
  refine (of_any _ _).mono ?_
  rintro e w4 ⟨rfl, hb⟩
  have hB4 : Below w.heap.size w w4 := below_thru (by go_grown) hb
  have hs4 : w.heap.size ≤ w4.heap.size := hB4.size
  have x_q4 : Box w4 (w1.heap.size) [.int .u64 0, .int .u64 1844674407370955161] := (by refine Box.below ?_ hb; repeat (first | assumption | (refine Box.drew ?_) | (refine Box.drewN ?_ _) | (refine Box.new ?_; simp; done) | (refine Box.alloc ?_ _) | (refine Box.other ?_ (by simp; omega) _)))
  have z_q4 := x_q4.lt
  have c_q4_0 := x_q4.c 0 _ rfl
  have f_q4_0 := x_q4.f 0 _ rfl
  have c_q4_1 := x_q4.c 1 _ rfl
  have f_q4_1 := x_q4.f 1 _ rfl
  have x_u4 : Box w4 (w2.heap.size) [.int .u64 0, .int .u64 1844674407370955162] := (by refine Box.below ?_ hb; repeat (first | assumption | (refine Box.drew ?_) | (refine Box.drewN ?_ _) | (refine Box.new ?_; simp; done) | (refine Box.alloc ?_ _) | (refine Box.other ?_ (by simp; omega) _)))
  have z_u4 := x_u4.lt
  have c_u4_0 := x_u4.c 0 _ rfl
  have f_u4_0 := x_u4.f 0 _ rfl
  have c_u4_1 := x_u4.c 1 _ rfl
  have f_u4_1 := x_u4.f 1 _ rfl
  clear hb hB3 hs3 x_q3 z_q3 c_q3_0 c_q3_1 f_q3_0 f_q3_1 x_u3 z_u3 c_u3_0 c_u3_1 f_u3_0 f_u3_1
  go_wp2_with fail
  refine (add_any _ _ _ _ _ u0 uMax u0 u1).mono ?_
  rintro e w5 ⟨rfl, hb⟩
  have hB5 : Below w.heap.size w w5 := below_thru (by go_grown) hb
  have hs5 : w.heap.size ≤ w5.heap.size := hB5.size
  have x_q5 : Box w5 (w1.heap.size) [.int .u64 0, .int .u64 1844674407370955161] := (by refine Box.below ?_ hb; repeat (first | assumption | (refine Box.drew ?_) | (refine Box.drewN ?_ _) | (refine Box.new ?_; simp; done) | (refine Box.alloc ?_ _) | (refine Box.other ?_ (by simp; omega) _)))
  have z_q5 := x_q5.lt
  have c_q5_0 := x_q5.c 0 _ rfl
  have f_q5_0 := x_q5.f 0 _ rfl
  have c_q5_1 := x_q5.c 1 _ rfl
  have f_q5_1 := x_q5.f 1 _ rfl
  have x_u5 : Box w5 (w2.heap.size) [.int .u64 0, .int .u64 1844674407370955162] := (by refine Box.below ?_ hb; repeat (first | assumption | (refine Box.drew ?_) | (refine Box.drewN ?_ _) | (refine Box.new ?_; simp; done) | (refine Box.alloc ?_ _) | (refine Box.other ?_ (by simp; omega) _)))
  have z_u5 := x_u5.lt
  have c_u5_0 := x_u5.c 0 _ rfl
  have f_u5_0 := x_u5.f 0 _ rfl
  have c_u5_1 := x_u5.c 1 _ rfl
  have f_u5_1 := x_u5.f 1 _ rfl
  clear hb hB4 hs4 x_q4 z_q4 c_q4_0 c_q4_1 f_q4_0 f_q4_1 x_u4 z_u4 c_u4_0 c_u4_1 f_u4_0 f_u4_1
  simp only [a7, a8, a9]
  go_wp2_with fail
  refine (of_any _ _).mono ?_
  rintro e w6 ⟨rfl, hb⟩
  have hB6 : Below w.heap.size w w6 := below_thru (by go_grown) hb
  have hs6 : w.heap.size ≤ w6.heap.size := hB6.size
  have x_q6 : Box w6 (w1.heap.size) [.int .u64 0, .int .u64 1844674407370955161] := (by refine Box.below ?_ hb; repeat (first | assumption | (refine Box.drew ?_) | (refine Box.drewN ?_ _) | (refine Box.new ?_; simp; done) | (refine Box.alloc ?_ _) | (refine Box.other ?_ (by simp; omega) _)))
  have z_q6 := x_q6.lt
  have c_q6_0 := x_q6.c 0 _ rfl
  have f_q6_0 := x_q6.f 0 _ rfl
  have c_q6_1 := x_q6.c 1 _ rfl
  have f_q6_1 := x_q6.f 1 _ rfl
  have x_u6 : Box w6 (w2.heap.size) [.int .u64 0, .int .u64 1844674407370955162] := (by refine Box.below ?_ hb; repeat (first | assumption | (refine Box.drew ?_) | (refine Box.drewN ?_ _) | (refine Box.new ?_; simp; done) | (refine Box.alloc ?_ _) | (refine Box.other ?_ (by simp; omega) _)))
  have z_u6 := x_u6.lt
  have c_u6_0 := x_u6.c 0 _ rfl
  have f_u6_0 := x_u6.f 0 _ rfl
  have c_u6_1 := x_u6.c 1 _ rfl
  have f_u6_1 := x_u6.f 1 _ rfl
  have x_s6 : Box w6 (w5.heap.size) [.int .u64 1, .int .u64 0] := (by refine Box.below ?_ hb; repeat (first | assumption | (refine Box.drew ?_) | (refine Box.drewN ?_ _) | (refine Box.new ?_; simp; done) | (refine Box.alloc ?_ _) | (refine Box.other ?_ (by simp; omega) _)))
  have z_s6 := x_s6.lt
  have c_s6_0 := x_s6.c 0 _ rfl
  have f_s6_0 := x_s6.f 0 _ rfl
  have c_s6_1 := x_s6.c 1 _ rfl
  have f_s6_1 := x_s6.f 1 _ rfl
  clear hb hB5 hs5 x_q5 z_q5 c_q5_0 c_q5_1 f_q5_0 f_q5_1 x_u5 z_u5 c_u5_0 c_u5_1 f_u5_0 f_u5_1
  go_wp2_with fail
  refine (of_any _ _).mono ?_
  rintro e w7 ⟨rfl, hb⟩
  have hB7 : Below w.heap.size w w7 := below_thru (by go_grown) hb
  have hs7 : w.heap.size ≤ w7.heap.size := hB7.size
  have x_q7 : Box w7 (w1.heap.size) [.int .u64 0, .int .u64 1844674407370955161] := (by refine Box.below ?_ hb; repeat (first | assumption | (refine Box.drew ?_) | (refine Box.drewN ?_ _) | (refine Box.new ?_; simp; done) | (refine Box.alloc ?_ _) | (refine Box.other ?_ (by simp; omega) _)))
  have z_q7 := x_q7.lt
  have c_q7_0 := x_q7.c 0 _ rfl
  have f_q7_0 := x_q7.f 0 _ rfl
  have c_q7_1 := x_q7.c 1 _ rfl
  have f_q7_1 := x_q7.f 1 _ rfl
  have x_u7 : Box w7 (w2.heap.size) [.int .u64 0, .int .u64 1844674407370955162] := (by refine Box.below ?_ hb; repeat (first | assumption | (refine Box.drew ?_) | (refine Box.drewN ?_ _) | (refine Box.new ?_; simp; done) | (refine Box.alloc ?_ _) | (refine Box.other ?_ (by simp; omega) _)))
  have z_u7 := x_u7.lt
  have c_u7_0 := x_u7.c 0 _ rfl
  have f_u7_0 := x_u7.f 0 _ rfl
  have c_u7_1 := x_u7.c 1 _ rfl
  have f_u7_1 := x_u7.f 1 _ rfl
  have x_s7 : Box w7 (w5.heap.size) [.int .u64 1, .int .u64 0] := (by refine Box.below ?_ hb; repeat (first | assumption | (refine Box.drew ?_) | (refine Box.drewN ?_ _) | (refine Box.new ?_; simp; done) | (refine Box.alloc ?_ _) | (refine Box.other ?_ (by simp; omega) _)))
  have z_s7 := x_s7.lt
  have c_s7_0 := x_s7.c 0 _ rfl
  have f_s7_0 := x_s7.f 0 _ rfl
  have c_s7_1 := x_s7.c 1 _ rfl
  have f_s7_1 := x_s7.f 1 _ rfl
  clear hb hB6 hs6 x_q6 z_q6 c_q6_0 c_q6_1 f_q6_0 f_q6_1 x_u6 z_u6 c_u6_0 c_u6_1 f_u6_0 f_u6_1 x_s6 z_s6 c_s6_0 c_s6_1 f_s6_0 f_s6_1
  go_wp2_with fail
  refine (sub_any _ _ _ _ _ u0 u0 u0 u1).mono ?_
  rintro e w8 ⟨rfl, hb⟩
  have hB8 : Below w.heap.size w w8 := below_thru (by go_grown) hb
  have hs8 : w.heap.size ≤ w8.heap.size := hB8.size
  have x_q8 : Box w8 (w1.heap.size) [.int .u64 0, .int .u64 1844674407370955161] := (by refine Box.below ?_ hb; repeat (first | assumption | (refine Box.drew ?_) | (refine Box.drewN ?_ _) | (refine Box.new ?_; simp; done) | (refine Box.alloc ?_ _) | (refine Box.other ?_ (by simp; omega) _)))
  have z_q8 := x_q8.lt
  have c_q8_0 := x_q8.c 0 _ rfl
  have f_q8_0 := x_q8.f 0 _ rfl
  have c_q8_1 := x_q8.c 1 _ rfl
  have f_q8_1 := x_q8.f 1 _ rfl
  have x_u8 : Box w8 (w2.heap.size) [.int .u64 0, .int .u64 1844674407370955162] := (by refine Box.below ?_ hb; repeat (first | assumption | (refine Box.drew ?_) | (refine Box.drewN ?_ _) | (refine Box.new ?_; simp; done) | (refine Box.alloc ?_ _) | (refine Box.other ?_ (by simp; omega) _)))
  have z_u8 := x_u8.lt
  have c_u8_0 := x_u8.c 0 _ rfl
  have f_u8_0 := x_u8.f 0 _ rfl
  have c_u8_1 := x_u8.c 1 _ rfl
  have f_u8_1 := x_u8.f 1 _ rfl
  have x_s8 : Box w8 (w5.heap.size) [.int .u64 1, .int .u64 0] := (by refine Box.below ?_ hb; repeat (first | assumption | (refine Box.drew ?_) | (refine Box.drewN ?_ _) | (refine Box.new ?_; simp; done) | (refine Box.alloc ?_ _) | (refine Box.other ?_ (by simp; omega) _)))
  have z_s8 := x_s8.lt
  have c_s8_0 := x_s8.c 0 _ rfl
  have f_s8_0 := x_s8.f 0 _ rfl
  have c_s8_1 := x_s8.c 1 _ rfl
  have f_s8_1 := x_s8.f 1 _ rfl
  clear hb hB7 hs7 x_q7 z_q7 c_q7_0 c_q7_1 f_q7_0 f_q7_1 x_u7 z_u7 c_u7_0 c_u7_1 f_u7_0 f_u7_1 x_s7 z_s7 c_s7_0 c_s7_1 f_s7_0 f_s7_1
  simp only [a10]
  go_wp2_with fail
  refine (mul_any _ _ _ uMax uMax).mono ?_
  rintro e w9 ⟨rfl, hb⟩
  have hB9 : Below w.heap.size w w9 := below_thru (by go_grown) hb
  have hs9 : w.heap.size ≤ w9.heap.size := hB9.size
  have x_q9 : Box w9 (w1.heap.size) [.int .u64 0, .int .u64 1844674407370955161] := (by refine Box.below ?_ hb; repeat (first | assumption | (refine Box.drew ?_) | (refine Box.drewN ?_ _) | (refine Box.new ?_; simp; done) | (refine Box.alloc ?_ _) | (refine Box.other ?_ (by simp; omega) _)))
  have z_q9 := x_q9.lt
  have c_q9_0 := x_q9.c 0 _ rfl
  have f_q9_0 := x_q9.f 0 _ rfl
  have c_q9_1 := x_q9.c 1 _ rfl
  have f_q9_1 := x_q9.f 1 _ rfl
  have x_u9 : Box w9 (w2.heap.size) [.int .u64 0, .int .u64 1844674407370955162] := (by refine Box.below ?_ hb; repeat (first | assumption | (refine Box.drew ?_) | (refine Box.drewN ?_ _) | (refine Box.new ?_; simp; done) | (refine Box.alloc ?_ _) | (refine Box.other ?_ (by simp; omega) _)))
  have z_u9 := x_u9.lt
  have c_u9_0 := x_u9.c 0 _ rfl
  have f_u9_0 := x_u9.f 0 _ rfl
  have c_u9_1 := x_u9.c 1 _ rfl
  have f_u9_1 := x_u9.f 1 _ rfl
  have x_s9 : Box w9 (w5.heap.size) [.int .u64 1, .int .u64 0] := (by refine Box.below ?_ hb; repeat (first | assumption | (refine Box.drew ?_) | (refine Box.drewN ?_ _) | (refine Box.new ?_; simp; done) | (refine Box.alloc ?_ _) | (refine Box.other ?_ (by simp; omega) _)))
  have z_s9 := x_s9.lt
  have c_s9_0 := x_s9.c 0 _ rfl
  have f_s9_0 := x_s9.f 0 _ rfl
  have c_s9_1 := x_s9.c 1 _ rfl
  have f_s9_1 := x_s9.f 1 _ rfl
  clear hb hB8 hs8 x_q8 z_q8 c_q8_0 c_q8_1 f_q8_0 f_q8_1 x_u8 z_u8 c_u8_0 c_u8_1 f_u8_0 f_u8_1 x_s8 z_s8 c_s8_0 c_s8_1 f_s8_0 f_s8_1
  simp only [a11, a12]
  go_wp2
  go_returns
  refine ⟨rfl, ?_⟩
  go_grown

end Go.Proofs.Ytjidognjnlhlcaa
