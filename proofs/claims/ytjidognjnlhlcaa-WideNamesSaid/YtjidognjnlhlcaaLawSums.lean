/-
  For any two wide numbers and a small one WideSums returns true and leaves its arguments as they were. Conditions: none.
-/
import Derived.Test.YtjidognjnlhlcaaRefB
import Derived.Test.YtjidognjnlhlcaaOpen
namespace Go.Proofs.Ytjidognjnlhlcaa
open Go.ChangeShapes Go.WideShapes Go.ChangeAt Go.RowKit Go.Joins

theorem add_nm {ah al bh bl h l e : Int} (w : World) (h1 : isU ah) (h2 : isU al) (h3 : isU bh) (h4 : isU bl) (e1 : wHi (addV (wN ah al + wN bh bl)) = h) (e2 : wLo (addV (wN ah al + wN bh bl)) = l) (e3 : addE (wN ah al + wN bh bl) = e) :
    Calls Try.prog 9 #[.agg #[.int .u64 ah, .int .u64 al], .agg #[.int .u64 bh, .int .u64 bl]] w fun e' w' =>
      e' = .returned (.tuple #[.agg #[.int .u64 h, .int .u64 l], .int .i64 e]) ∧ Below w.heap.size w w' := by
  rw [← e1, ← e2, ← e3]; exact add_any ah al bh bl w h1 h2 h3 h4

theorem sub_nm {ah al bh bl h l e : Int} (w : World) (h1 : isU ah) (h2 : isU al) (h3 : isU bh) (h4 : isU bl) (e1 : wHi (subV (wN ah al - wN bh bl)) = h) (e2 : wLo (subV (wN ah al - wN bh bl)) = l) (e3 : subE (wN ah al - wN bh bl) = e) :
    Calls Try.prog 11 #[.agg #[.int .u64 ah, .int .u64 al], .agg #[.int .u64 bh, .int .u64 bl]] w fun e' w' =>
      e' = .returned (.tuple #[.agg #[.int .u64 h, .int .u64 l], .int .i64 e]) ∧ Below w.heap.size w w' := by
  rw [← e1, ← e2, ← e3]; exact sub_any ah al bh bl w h1 h2 h3 h4

theorem radd_nm {ah al bh bl h l e : Int} (w : World) (h1 : isU ah) (h2 : isU al) (h3 : isU bh) (h4 : isU bl) (e1 : wHi (addV (wN ah al + wN bh bl)) = h) (e2 : wLo (addV (wN ah al + wN bh bl)) = l) (e3 : addE (wN ah al + wN bh bl) = e) :
    Calls Try.prog 18 #[.agg #[.int .u64 ah, .int .u64 al], .agg #[.int .u64 bh, .int .u64 bl]] w fun e' w' =>
      e' = .returned (.tuple #[.agg #[.int .u64 h, .int .u64 l], .int .i64 e]) ∧ Below w.heap.size w w' := by
  have hA := isW_of h1 h2
  have hB := isW_of h3 h4
  by_cases g : wN ah al + wN bh bl < 340282366920938463463374607431768211456
  · have hw : isW (wN ah al + wN bh bl) := ⟨by have := hA.1; have := hB.1; omega, g⟩
    rw [← e1, ← e2, ← e3, show addV (wN ah al + wN bh bl) = wN ah al + wN bh bl from if_pos g, show addE (wN ah al + wN bh bl) = 0 from if_pos g]
    exact radd_ok w h1 h2 h3 h4 (isU_hi hw) (isU_lo _) (wN_parts _).symm
  · rw [← e1, ← e2, ← e3, show addV (wN ah al + wN bh bl) = 0 from if_neg g, show addE (wN ah al + wN bh bl) = 16 from if_neg g]
    exact radd_no w h1 h2 h3 h4 (by omega)

theorem rsub_nm {ah al bh bl h l e : Int} (w : World) (h1 : isU ah) (h2 : isU al) (h3 : isU bh) (h4 : isU bl) (e1 : wHi (subV (wN ah al - wN bh bl)) = h) (e2 : wLo (subV (wN ah al - wN bh bl)) = l) (e3 : subE (wN ah al - wN bh bl) = e) :
    Calls Try.prog 19 #[.agg #[.int .u64 ah, .int .u64 al], .agg #[.int .u64 bh, .int .u64 bl]] w fun e' w' =>
      e' = .returned (.tuple #[.agg #[.int .u64 h, .int .u64 l], .int .i64 e]) ∧ Below w.heap.size w w' := by
  have hA := isW_of h1 h2
  have hB := isW_of h3 h4
  by_cases g : 0 ≤ wN ah al - wN bh bl
  · have hw : isW (wN ah al - wN bh bl) := ⟨g, by have := hA.2; have := hB.1; omega⟩
    have d : decide (cmpI (wN ah al) (wN bh bl) < 0) = false := by
      refine decide_eq_false ?_
      unfold cmpI
      rw [if_neg (by omega)]
      split <;> omega
    rw [← e1, ← e2, ← e3, show subV (wN ah al - wN bh bl) = wN ah al - wN bh bl from if_pos g, show subE (wN ah al - wN bh bl) = 0 from if_pos g]
    exact rsub_ok w h1 h2 h3 h4 (isU_hi hw) (isU_lo _) (Lib.hid (wN_parts _).symm) d
  · have d : decide (cmpI (wN ah al) (wN bh bl) < 0) = true := by
      refine decide_eq_true ?_
      rw [show cmpI (wN ah al) (wN bh bl) = -1 from if_pos (by omega)]
      omega
    rw [← e1, ← e2, ← e3, show subV (wN ah al - wN bh bl) = 0 from if_neg g, show subE (wN ah al - wN bh bl) = 16 from if_neg g]
    exact rsub_no w h2 h4 d

theorem small_nm {h l v e : Int} (w : World) (e1 : smV h l = v) (e2 : smE h = e) :
    Calls Try.prog 12 #[.agg #[.int .u64 h, .int .u64 l]] w fun e' w' => e' = .returned (.tuple #[.int .u64 v, .int .i64 e]) ∧ Below w.heap.size w w' := by
  rw [← e1, ← e2]; exact small_any h l w
theorem rsmall_nm {h l v e : Int} (w : World) (hh : isU h) (e1 : smV h l = v) (e2 : smE h = e) :
    Calls Try.prog 20 #[.agg #[.int .u64 h, .int .u64 l]] w fun e' w' => e' = .returned (.tuple #[.int .u64 v, .int .i64 e]) ∧ Below w.heap.size w w' := by
  rw [← e1, ← e2]; exact rsmall_any h l w hh
theorem rcmp_nm {ah al bh bl n : Int} (w : World) (h2 : isU al) (h4 : isU bl) (e : cmpI (wN ah al) (wN bh bl) = n) :
    Calls Try.prog 21 #[.agg #[.int .u64 ah, .int .u64 al], .agg #[.int .u64 bh, .int .u64 bl]] w fun e w' => e = .returned (.int .i64 n) ∧ Below w.heap.size w w' := by
  rw [← e]; exact rcmp_any ah al bh bl w h2 h4

def sumsCall (ah al bh bl x : Int) (w : World) : Prop :=
  Calls Try.prog 4 #[.agg #[.int .u64 ah, .int .u64 al], .agg #[.int .u64 bh, .int .u64 bl], .int .u64 x] w fun e w' => e = .returned (.bool true) ∧ Below w.heap.size w w'

set_option maxRecDepth 100000 in
set_option maxHeartbeats 3200000 in
theorem sums_any (ah al bh bl x ph pl pe mh ml me sv se n : Int) (w : World) (h1 : isU ah) (h2 : isU al) (h3 : isU bh) (h4 : isU bl)
    (e1 : Hid (wHi (addV (wN ah al + wN bh bl)) = ph)) (e2 : Hid (wLo (addV (wN ah al + wN bh bl)) = pl)) (e3 : Hid (addE (wN ah al + wN bh bl) = pe))
    (e4 : Hid (wHi (subV (wN ah al - wN bh bl)) = mh)) (e5 : Hid (wLo (subV (wN ah al - wN bh bl)) = ml)) (e6 : Hid (subE (wN ah al - wN bh bl) = me))
    (e7 : Hid (smV ah al = sv)) (e8 : Hid (smE ah = se)) (e9 : Hid (cmpI (wN ah al) (wN bh bl) = n)) : sumsCall ah al bh bl x w := by
  unfold sumsCall
  go_enter Try.func4, Try.ntmps4
  go_wp2_with fail
  refine (add_nm _ h1 h2 h3 h4 e1.out e2.out e3.out).mono ?_
  rintro e w1 ⟨rfl, hb⟩
  have hB1 : Below w.heap.size w w1 := below_thru (by go_grown) hb
  have hs1 : w.heap.size ≤ w1.heap.size := hB1.size
  have x_a1 : Box w1 (w.heap.size) [.int .u64 ah, .int .u64 al] := (by refine Box.below ?_ hb; repeat (first | (with_reducible assumption) | (with_reducible refine Box.drew ?_) | (with_reducible refine Box.drewN ?_ _) | ((with_reducible refine Box.new ?_); simp; done) | (with_reducible apply Box.set2) | (with_reducible refine Box.alloc ?_ _) | (with_reducible refine Box.other ?_ (by first | (dsimp only; omega) | omega) _)))
  have z_a1 := x_a1.lt
  have c_a1_0 := x_a1.c 0 _ rfl
  have f_a1_0 := x_a1.f 0 _ rfl
  have c_a1_1 := x_a1.c 1 _ rfl
  have f_a1_1 := x_a1.f 1 _ rfl
  have x_b1 : Box w1 (w.heap.size + 1) [.int .u64 bh, .int .u64 bl] := (by refine Box.below ?_ hb; repeat (first | (with_reducible assumption) | (with_reducible refine Box.drew ?_) | (with_reducible refine Box.drewN ?_ _) | ((with_reducible refine Box.new ?_); simp; done) | (with_reducible apply Box.set2) | (with_reducible refine Box.alloc ?_ _) | (with_reducible refine Box.other ?_ (by first | (dsimp only; omega) | omega) _)))
  have z_b1 := x_b1.lt
  have c_b1_0 := x_b1.c 0 _ rfl
  have f_b1_0 := x_b1.f 0 _ rfl
  have c_b1_1 := x_b1.c 1 _ rfl
  have f_b1_1 := x_b1.f 1 _ rfl
  clear hb
  go_wp2_with fail
  refine (radd_nm _ h1 h2 h3 h4 e1.out e2.out e3.out).mono ?_
  rintro e w2 ⟨rfl, hb⟩
  have hB2 : Below w.heap.size w w2 := below_thru (by go_grown) hb
  have hs2 : w.heap.size ≤ w2.heap.size := hB2.size
  have x_a2 : Box w2 (w.heap.size) [.int .u64 ah, .int .u64 al] := (by refine Box.below ?_ hb; repeat (first | (with_reducible assumption) | (with_reducible refine Box.drew ?_) | (with_reducible refine Box.drewN ?_ _) | ((with_reducible refine Box.new ?_); simp; done) | (with_reducible apply Box.set2) | (with_reducible refine Box.alloc ?_ _) | (with_reducible refine Box.other ?_ (by first | (dsimp only; omega) | omega) _)))
  have z_a2 := x_a2.lt
  have c_a2_0 := x_a2.c 0 _ rfl
  have f_a2_0 := x_a2.f 0 _ rfl
  have c_a2_1 := x_a2.c 1 _ rfl
  have f_a2_1 := x_a2.f 1 _ rfl
  have x_b2 : Box w2 (w.heap.size + 1) [.int .u64 bh, .int .u64 bl] := (by refine Box.below ?_ hb; repeat (first | (with_reducible assumption) | (with_reducible refine Box.drew ?_) | (with_reducible refine Box.drewN ?_ _) | ((with_reducible refine Box.new ?_); simp; done) | (with_reducible apply Box.set2) | (with_reducible refine Box.alloc ?_ _) | (with_reducible refine Box.other ?_ (by first | (dsimp only; omega) | omega) _)))
  have z_b2 := x_b2.lt
  have c_b2_0 := x_b2.c 0 _ rfl
  have f_b2_0 := x_b2.f 0 _ rfl
  have c_b2_1 := x_b2.c 1 _ rfl
  have f_b2_1 := x_b2.f 1 _ rfl
  have x_p2 : Box w2 (w1.heap.size) [.int .u64 ph, .int .u64 pl] := (by refine Box.below ?_ hb; repeat (first | (with_reducible assumption) | (with_reducible refine Box.drew ?_) | (with_reducible refine Box.drewN ?_ _) | ((with_reducible refine Box.new ?_); simp; done) | (with_reducible apply Box.set2) | (with_reducible refine Box.alloc ?_ _) | (with_reducible refine Box.other ?_ (by first | (dsimp only; omega) | omega) _)))
  have z_p2 := x_p2.lt
  have c_p2_0 := x_p2.c 0 _ rfl
  have f_p2_0 := x_p2.f 0 _ rfl
  have c_p2_1 := x_p2.c 1 _ rfl
  have f_p2_1 := x_p2.f 1 _ rfl
  clear hb hB1 hs1 x_a1 z_a1 c_a1_0 c_a1_1 f_a1_0 f_a1_1 x_b1 z_b1 c_b1_0 c_b1_1 f_b1_0 f_b1_1
  go_wp2_with fail
  refine (sub_nm _ h1 h2 h3 h4 e4.out e5.out e6.out).mono ?_
  rintro e w3 ⟨rfl, hb⟩
  have hB3 : Below w.heap.size w w3 := below_thru (by go_grown) hb
  have hs3 : w.heap.size ≤ w3.heap.size := hB3.size
  have x_a3 : Box w3 (w.heap.size) [.int .u64 ah, .int .u64 al] := (by refine Box.below ?_ hb; repeat (first | (with_reducible assumption) | (with_reducible refine Box.drew ?_) | (with_reducible refine Box.drewN ?_ _) | ((with_reducible refine Box.new ?_); simp; done) | (with_reducible apply Box.set2) | (with_reducible refine Box.alloc ?_ _) | (with_reducible refine Box.other ?_ (by first | (dsimp only; omega) | omega) _)))
  have z_a3 := x_a3.lt
  have c_a3_0 := x_a3.c 0 _ rfl
  have f_a3_0 := x_a3.f 0 _ rfl
  have c_a3_1 := x_a3.c 1 _ rfl
  have f_a3_1 := x_a3.f 1 _ rfl
  have x_b3 : Box w3 (w.heap.size + 1) [.int .u64 bh, .int .u64 bl] := (by refine Box.below ?_ hb; repeat (first | (with_reducible assumption) | (with_reducible refine Box.drew ?_) | (with_reducible refine Box.drewN ?_ _) | ((with_reducible refine Box.new ?_); simp; done) | (with_reducible apply Box.set2) | (with_reducible refine Box.alloc ?_ _) | (with_reducible refine Box.other ?_ (by first | (dsimp only; omega) | omega) _)))
  have z_b3 := x_b3.lt
  have c_b3_0 := x_b3.c 0 _ rfl
  have f_b3_0 := x_b3.f 0 _ rfl
  have c_b3_1 := x_b3.c 1 _ rfl
  have f_b3_1 := x_b3.f 1 _ rfl
  have x_p3 : Box w3 (w1.heap.size) [.int .u64 ph, .int .u64 pl] := (by refine Box.below ?_ hb; repeat (first | (with_reducible assumption) | (with_reducible refine Box.drew ?_) | (with_reducible refine Box.drewN ?_ _) | ((with_reducible refine Box.new ?_); simp; done) | (with_reducible apply Box.set2) | (with_reducible refine Box.alloc ?_ _) | (with_reducible refine Box.other ?_ (by first | (dsimp only; omega) | omega) _)))
  have z_p3 := x_p3.lt
  have c_p3_0 := x_p3.c 0 _ rfl
  have f_p3_0 := x_p3.f 0 _ rfl
  have c_p3_1 := x_p3.c 1 _ rfl
  have f_p3_1 := x_p3.f 1 _ rfl
  have x_q3 : Box w3 (w2.heap.size) [.int .u64 ph, .int .u64 pl] := (by refine Box.below ?_ hb; repeat (first | (with_reducible assumption) | (with_reducible refine Box.drew ?_) | (with_reducible refine Box.drewN ?_ _) | ((with_reducible refine Box.new ?_); simp; done) | (with_reducible apply Box.set2) | (with_reducible refine Box.alloc ?_ _) | (with_reducible refine Box.other ?_ (by first | (dsimp only; omega) | omega) _)))
  have z_q3 := x_q3.lt
  have c_q3_0 := x_q3.c 0 _ rfl
  have f_q3_0 := x_q3.f 0 _ rfl
  have c_q3_1 := x_q3.c 1 _ rfl
  have f_q3_1 := x_q3.f 1 _ rfl
  clear hb hB2 hs2 x_a2 z_a2 c_a2_0 c_a2_1 f_a2_0 f_a2_1 x_b2 z_b2 c_b2_0 c_b2_1 f_b2_0 f_b2_1 x_p2 z_p2 c_p2_0 c_p2_1 f_p2_0 f_p2_1
  go_wp2_with fail
  refine (rsub_nm _ h1 h2 h3 h4 e4.out e5.out e6.out).mono ?_
  rintro e w4 ⟨rfl, hb⟩
  have hB4 : Below w.heap.size w w4 := below_thru (by go_grown) hb
  have hs4 : w.heap.size ≤ w4.heap.size := hB4.size
  have x_a4 : Box w4 (w.heap.size) [.int .u64 ah, .int .u64 al] := (by refine Box.below ?_ hb; repeat (first | (with_reducible assumption) | (with_reducible refine Box.drew ?_) | (with_reducible refine Box.drewN ?_ _) | ((with_reducible refine Box.new ?_); simp; done) | (with_reducible apply Box.set2) | (with_reducible refine Box.alloc ?_ _) | (with_reducible refine Box.other ?_ (by first | (dsimp only; omega) | omega) _)))
  have z_a4 := x_a4.lt
  have c_a4_0 := x_a4.c 0 _ rfl
  have f_a4_0 := x_a4.f 0 _ rfl
  have c_a4_1 := x_a4.c 1 _ rfl
  have f_a4_1 := x_a4.f 1 _ rfl
  have x_b4 : Box w4 (w.heap.size + 1) [.int .u64 bh, .int .u64 bl] := (by refine Box.below ?_ hb; repeat (first | (with_reducible assumption) | (with_reducible refine Box.drew ?_) | (with_reducible refine Box.drewN ?_ _) | ((with_reducible refine Box.new ?_); simp; done) | (with_reducible apply Box.set2) | (with_reducible refine Box.alloc ?_ _) | (with_reducible refine Box.other ?_ (by first | (dsimp only; omega) | omega) _)))
  have z_b4 := x_b4.lt
  have c_b4_0 := x_b4.c 0 _ rfl
  have f_b4_0 := x_b4.f 0 _ rfl
  have c_b4_1 := x_b4.c 1 _ rfl
  have f_b4_1 := x_b4.f 1 _ rfl
  have x_p4 : Box w4 (w1.heap.size) [.int .u64 ph, .int .u64 pl] := (by refine Box.below ?_ hb; repeat (first | (with_reducible assumption) | (with_reducible refine Box.drew ?_) | (with_reducible refine Box.drewN ?_ _) | ((with_reducible refine Box.new ?_); simp; done) | (with_reducible apply Box.set2) | (with_reducible refine Box.alloc ?_ _) | (with_reducible refine Box.other ?_ (by first | (dsimp only; omega) | omega) _)))
  have z_p4 := x_p4.lt
  have c_p4_0 := x_p4.c 0 _ rfl
  have f_p4_0 := x_p4.f 0 _ rfl
  have c_p4_1 := x_p4.c 1 _ rfl
  have f_p4_1 := x_p4.f 1 _ rfl
  have x_q4 : Box w4 (w2.heap.size) [.int .u64 ph, .int .u64 pl] := (by refine Box.below ?_ hb; repeat (first | (with_reducible assumption) | (with_reducible refine Box.drew ?_) | (with_reducible refine Box.drewN ?_ _) | ((with_reducible refine Box.new ?_); simp; done) | (with_reducible apply Box.set2) | (with_reducible refine Box.alloc ?_ _) | (with_reducible refine Box.other ?_ (by first | (dsimp only; omega) | omega) _)))
  have z_q4 := x_q4.lt
  have c_q4_0 := x_q4.c 0 _ rfl
  have f_q4_0 := x_q4.f 0 _ rfl
  have c_q4_1 := x_q4.c 1 _ rfl
  have f_q4_1 := x_q4.f 1 _ rfl
  have x_r4 : Box w4 (w3.heap.size) [.int .u64 mh, .int .u64 ml] := (by refine Box.below ?_ hb; repeat (first | (with_reducible assumption) | (with_reducible refine Box.drew ?_) | (with_reducible refine Box.drewN ?_ _) | ((with_reducible refine Box.new ?_); simp; done) | (with_reducible apply Box.set2) | (with_reducible refine Box.alloc ?_ _) | (with_reducible refine Box.other ?_ (by first | (dsimp only; omega) | omega) _)))
  have z_r4 := x_r4.lt
  have c_r4_0 := x_r4.c 0 _ rfl
  have f_r4_0 := x_r4.f 0 _ rfl
  have c_r4_1 := x_r4.c 1 _ rfl
  have f_r4_1 := x_r4.f 1 _ rfl
  clear hb hB3 hs3 x_a3 z_a3 c_a3_0 c_a3_1 f_a3_0 f_a3_1 x_b3 z_b3 c_b3_0 c_b3_1 f_b3_0 f_b3_1 x_p3 z_p3 c_p3_0 c_p3_1 f_p3_0 f_p3_1 x_q3 z_q3 c_q3_0 c_q3_1 f_q3_0 f_q3_1
  go_wp2_with fail
  refine (small_nm _ e7.out e8.out).mono ?_
  rintro e w5 ⟨rfl, hb⟩
  have hB5 : Below w.heap.size w w5 := below_thru (by go_grown) hb
  have hs5 : w.heap.size ≤ w5.heap.size := hB5.size
  have x_a5 : Box w5 (w.heap.size) [.int .u64 ah, .int .u64 al] := (by refine Box.below ?_ hb; repeat (first | (with_reducible assumption) | (with_reducible refine Box.drew ?_) | (with_reducible refine Box.drewN ?_ _) | ((with_reducible refine Box.new ?_); simp; done) | (with_reducible apply Box.set2) | (with_reducible refine Box.alloc ?_ _) | (with_reducible refine Box.other ?_ (by first | (dsimp only; omega) | omega) _)))
  have z_a5 := x_a5.lt
  have c_a5_0 := x_a5.c 0 _ rfl
  have f_a5_0 := x_a5.f 0 _ rfl
  have c_a5_1 := x_a5.c 1 _ rfl
  have f_a5_1 := x_a5.f 1 _ rfl
  have x_b5 : Box w5 (w.heap.size + 1) [.int .u64 bh, .int .u64 bl] := (by refine Box.below ?_ hb; repeat (first | (with_reducible assumption) | (with_reducible refine Box.drew ?_) | (with_reducible refine Box.drewN ?_ _) | ((with_reducible refine Box.new ?_); simp; done) | (with_reducible apply Box.set2) | (with_reducible refine Box.alloc ?_ _) | (with_reducible refine Box.other ?_ (by first | (dsimp only; omega) | omega) _)))
  have z_b5 := x_b5.lt
  have c_b5_0 := x_b5.c 0 _ rfl
  have f_b5_0 := x_b5.f 0 _ rfl
  have c_b5_1 := x_b5.c 1 _ rfl
  have f_b5_1 := x_b5.f 1 _ rfl
  have x_p5 : Box w5 (w1.heap.size) [.int .u64 ph, .int .u64 pl] := (by refine Box.below ?_ hb; repeat (first | (with_reducible assumption) | (with_reducible refine Box.drew ?_) | (with_reducible refine Box.drewN ?_ _) | ((with_reducible refine Box.new ?_); simp; done) | (with_reducible apply Box.set2) | (with_reducible refine Box.alloc ?_ _) | (with_reducible refine Box.other ?_ (by first | (dsimp only; omega) | omega) _)))
  have z_p5 := x_p5.lt
  have c_p5_0 := x_p5.c 0 _ rfl
  have f_p5_0 := x_p5.f 0 _ rfl
  have c_p5_1 := x_p5.c 1 _ rfl
  have f_p5_1 := x_p5.f 1 _ rfl
  have x_q5 : Box w5 (w2.heap.size) [.int .u64 ph, .int .u64 pl] := (by refine Box.below ?_ hb; repeat (first | (with_reducible assumption) | (with_reducible refine Box.drew ?_) | (with_reducible refine Box.drewN ?_ _) | ((with_reducible refine Box.new ?_); simp; done) | (with_reducible apply Box.set2) | (with_reducible refine Box.alloc ?_ _) | (with_reducible refine Box.other ?_ (by first | (dsimp only; omega) | omega) _)))
  have z_q5 := x_q5.lt
  have c_q5_0 := x_q5.c 0 _ rfl
  have f_q5_0 := x_q5.f 0 _ rfl
  have c_q5_1 := x_q5.c 1 _ rfl
  have f_q5_1 := x_q5.f 1 _ rfl
  have x_r5 : Box w5 (w3.heap.size) [.int .u64 mh, .int .u64 ml] := (by refine Box.below ?_ hb; repeat (first | (with_reducible assumption) | (with_reducible refine Box.drew ?_) | (with_reducible refine Box.drewN ?_ _) | ((with_reducible refine Box.new ?_); simp; done) | (with_reducible apply Box.set2) | (with_reducible refine Box.alloc ?_ _) | (with_reducible refine Box.other ?_ (by first | (dsimp only; omega) | omega) _)))
  have z_r5 := x_r5.lt
  have c_r5_0 := x_r5.c 0 _ rfl
  have f_r5_0 := x_r5.f 0 _ rfl
  have c_r5_1 := x_r5.c 1 _ rfl
  have f_r5_1 := x_r5.f 1 _ rfl
  have x_s5 : Box w5 (w4.heap.size) [.int .u64 mh, .int .u64 ml] := (by refine Box.below ?_ hb; repeat (first | (with_reducible assumption) | (with_reducible refine Box.drew ?_) | (with_reducible refine Box.drewN ?_ _) | ((with_reducible refine Box.new ?_); simp; done) | (with_reducible apply Box.set2) | (with_reducible refine Box.alloc ?_ _) | (with_reducible refine Box.other ?_ (by first | (dsimp only; omega) | omega) _)))
  have z_s5 := x_s5.lt
  have c_s5_0 := x_s5.c 0 _ rfl
  have f_s5_0 := x_s5.f 0 _ rfl
  have c_s5_1 := x_s5.c 1 _ rfl
  have f_s5_1 := x_s5.f 1 _ rfl
  clear hb hB4 hs4 x_a4 z_a4 c_a4_0 c_a4_1 f_a4_0 f_a4_1 x_b4 z_b4 c_b4_0 c_b4_1 f_b4_0 f_b4_1 x_p4 z_p4 c_p4_0 c_p4_1 f_p4_0 f_p4_1 x_q4 z_q4 c_q4_0 c_q4_1 f_q4_0 f_q4_1 x_r4 z_r4 c_r4_0 c_r4_1 f_r4_0 f_r4_1
  go_wp2_with fail
  refine (rsmall_nm _ h1 e7.out e8.out).mono ?_
  rintro e w6 ⟨rfl, hb⟩
  have hB6 : Below w.heap.size w w6 := below_thru (by go_grown) hb
  have hs6 : w.heap.size ≤ w6.heap.size := hB6.size
  have x_a6 : Box w6 (w.heap.size) [.int .u64 ah, .int .u64 al] := (by refine Box.below ?_ hb; repeat (first | (with_reducible assumption) | (with_reducible refine Box.drew ?_) | (with_reducible refine Box.drewN ?_ _) | ((with_reducible refine Box.new ?_); simp; done) | (with_reducible apply Box.set2) | (with_reducible refine Box.alloc ?_ _) | (with_reducible refine Box.other ?_ (by first | (dsimp only; omega) | omega) _)))
  have z_a6 := x_a6.lt
  have c_a6_0 := x_a6.c 0 _ rfl
  have f_a6_0 := x_a6.f 0 _ rfl
  have c_a6_1 := x_a6.c 1 _ rfl
  have f_a6_1 := x_a6.f 1 _ rfl
  have x_b6 : Box w6 (w.heap.size + 1) [.int .u64 bh, .int .u64 bl] := (by refine Box.below ?_ hb; repeat (first | (with_reducible assumption) | (with_reducible refine Box.drew ?_) | (with_reducible refine Box.drewN ?_ _) | ((with_reducible refine Box.new ?_); simp; done) | (with_reducible apply Box.set2) | (with_reducible refine Box.alloc ?_ _) | (with_reducible refine Box.other ?_ (by first | (dsimp only; omega) | omega) _)))
  have z_b6 := x_b6.lt
  have c_b6_0 := x_b6.c 0 _ rfl
  have f_b6_0 := x_b6.f 0 _ rfl
  have c_b6_1 := x_b6.c 1 _ rfl
  have f_b6_1 := x_b6.f 1 _ rfl
  have x_p6 : Box w6 (w1.heap.size) [.int .u64 ph, .int .u64 pl] := (by refine Box.below ?_ hb; repeat (first | (with_reducible assumption) | (with_reducible refine Box.drew ?_) | (with_reducible refine Box.drewN ?_ _) | ((with_reducible refine Box.new ?_); simp; done) | (with_reducible apply Box.set2) | (with_reducible refine Box.alloc ?_ _) | (with_reducible refine Box.other ?_ (by first | (dsimp only; omega) | omega) _)))
  have z_p6 := x_p6.lt
  have c_p6_0 := x_p6.c 0 _ rfl
  have f_p6_0 := x_p6.f 0 _ rfl
  have c_p6_1 := x_p6.c 1 _ rfl
  have f_p6_1 := x_p6.f 1 _ rfl
  have x_q6 : Box w6 (w2.heap.size) [.int .u64 ph, .int .u64 pl] := (by refine Box.below ?_ hb; repeat (first | (with_reducible assumption) | (with_reducible refine Box.drew ?_) | (with_reducible refine Box.drewN ?_ _) | ((with_reducible refine Box.new ?_); simp; done) | (with_reducible apply Box.set2) | (with_reducible refine Box.alloc ?_ _) | (with_reducible refine Box.other ?_ (by first | (dsimp only; omega) | omega) _)))
  have z_q6 := x_q6.lt
  have c_q6_0 := x_q6.c 0 _ rfl
  have f_q6_0 := x_q6.f 0 _ rfl
  have c_q6_1 := x_q6.c 1 _ rfl
  have f_q6_1 := x_q6.f 1 _ rfl
  have x_r6 : Box w6 (w3.heap.size) [.int .u64 mh, .int .u64 ml] := (by refine Box.below ?_ hb; repeat (first | (with_reducible assumption) | (with_reducible refine Box.drew ?_) | (with_reducible refine Box.drewN ?_ _) | ((with_reducible refine Box.new ?_); simp; done) | (with_reducible apply Box.set2) | (with_reducible refine Box.alloc ?_ _) | (with_reducible refine Box.other ?_ (by first | (dsimp only; omega) | omega) _)))
  have z_r6 := x_r6.lt
  have c_r6_0 := x_r6.c 0 _ rfl
  have f_r6_0 := x_r6.f 0 _ rfl
  have c_r6_1 := x_r6.c 1 _ rfl
  have f_r6_1 := x_r6.f 1 _ rfl
  have x_s6 : Box w6 (w4.heap.size) [.int .u64 mh, .int .u64 ml] := (by refine Box.below ?_ hb; repeat (first | (with_reducible assumption) | (with_reducible refine Box.drew ?_) | (with_reducible refine Box.drewN ?_ _) | ((with_reducible refine Box.new ?_); simp; done) | (with_reducible apply Box.set2) | (with_reducible refine Box.alloc ?_ _) | (with_reducible refine Box.other ?_ (by first | (dsimp only; omega) | omega) _)))
  have z_s6 := x_s6.lt
  have c_s6_0 := x_s6.c 0 _ rfl
  have f_s6_0 := x_s6.f 0 _ rfl
  have c_s6_1 := x_s6.c 1 _ rfl
  have f_s6_1 := x_s6.f 1 _ rfl
  clear hb hB5 hs5 x_a5 z_a5 c_a5_0 c_a5_1 f_a5_0 f_a5_1 x_b5 z_b5 c_b5_0 c_b5_1 f_b5_0 f_b5_1 x_p5 z_p5 c_p5_0 c_p5_1 f_p5_0 f_p5_1 x_q5 z_q5 c_q5_0 c_q5_1 f_q5_0 f_q5_1 x_r5 z_r5 c_r5_0 c_r5_1 f_r5_0 f_r5_1 x_s5 z_s5 c_s5_0 c_s5_1 f_s5_0 f_s5_1
  go_upto_region 7 with fail
  go_cut [6] (fun q0 wx => q0 = .bool true ∧ Box wx (w.heap.size) [.int .u64 ah, .int .u64 al] ∧ Box wx (w.heap.size + 1) [.int .u64 bh, .int .u64 bl] ∧ Box wx (w1.heap.size) [.int .u64 ph, .int .u64 pl] ∧ Box wx (w2.heap.size) [.int .u64 ph, .int .u64 pl] ∧ Box wx (w3.heap.size) [.int .u64 mh, .int .u64 ml] ∧ Box wx (w4.heap.size) [.int .u64 mh, .int .u64 ml] ∧ Below w.heap.size w wx)
  case first =>
    go_region_held3 (fun w' => w'.cell? ⟨w.heap.size, 0, none⟩ = some (.int .u64 ah) ∧ w'.cell? ⟨w.heap.size, 1, none⟩ = some (.int .u64 al) ∧ w'.cell? ⟨w.heap.size + 1, 0, none⟩ = some (.int .u64 bh) ∧ w'.cell? ⟨w.heap.size + 1, 1, none⟩ = some (.int .u64 bl) ∧ w'.cell? ⟨w1.heap.size, 0, none⟩ = some (.int .u64 ph) ∧ w'.cell? ⟨w1.heap.size, 1, none⟩ = some (.int .u64 pl) ∧ w'.cell? ⟨w2.heap.size, 0, none⟩ = some (.int .u64 ph) ∧ w'.cell? ⟨w2.heap.size, 1, none⟩ = some (.int .u64 pl) ∧ w'.cell? ⟨w3.heap.size, 0, none⟩ = some (.int .u64 mh) ∧ w'.cell? ⟨w3.heap.size, 1, none⟩ = some (.int .u64 ml) ∧ w'.cell? ⟨w4.heap.size, 0, none⟩ = some (.int .u64 mh) ∧ w'.cell? ⟨w4.heap.size, 1, none⟩ = some (.int .u64 ml)) (((repeat' apply And.intro) <;> (first | (go_keep; done) | go_cell)))
      (first
        | (go_at_call 15; refine (cmp_ok _ h2 h4 e9.out).mono ?_; rintro e v1 ⟨rfl, hv1⟩; have hV1 : Below w.heap.size w v1 := below_thru (by go_grown) hv1; have hs_v1 : w.heap.size ≤ v1.heap.size := hV1.size; have x_a_v1 : Box v1 (w.heap.size) [.int .u64 ah, .int .u64 al] := (by refine Box.below ?_ hv1; repeat (first | (with_reducible assumption) | (with_reducible refine Box.drew ?_) | (with_reducible refine Box.drewN ?_ _) | ((with_reducible refine Box.new ?_); simp; done) | (with_reducible apply Box.set2) | (with_reducible refine Box.alloc ?_ _) | (with_reducible refine Box.other ?_ (by first | (dsimp only; omega) | omega) _))); have z_a_v1 := x_a_v1.lt; have c_a_v1_0 := x_a_v1.c 0 _ rfl; have f_a_v1_0 := x_a_v1.f 0 _ rfl; have c_a_v1_1 := x_a_v1.c 1 _ rfl; have f_a_v1_1 := x_a_v1.f 1 _ rfl; have x_b_v1 : Box v1 (w.heap.size + 1) [.int .u64 bh, .int .u64 bl] := (by refine Box.below ?_ hv1; repeat (first | (with_reducible assumption) | (with_reducible refine Box.drew ?_) | (with_reducible refine Box.drewN ?_ _) | ((with_reducible refine Box.new ?_); simp; done) | (with_reducible apply Box.set2) | (with_reducible refine Box.alloc ?_ _) | (with_reducible refine Box.other ?_ (by first | (dsimp only; omega) | omega) _))); have z_b_v1 := x_b_v1.lt; have c_b_v1_0 := x_b_v1.c 0 _ rfl; have f_b_v1_0 := x_b_v1.f 0 _ rfl; have c_b_v1_1 := x_b_v1.c 1 _ rfl; have f_b_v1_1 := x_b_v1.f 1 _ rfl; have x_p_v1 : Box v1 (w1.heap.size) [.int .u64 ph, .int .u64 pl] := (by refine Box.below ?_ hv1; repeat (first | (with_reducible assumption) | (with_reducible refine Box.drew ?_) | (with_reducible refine Box.drewN ?_ _) | ((with_reducible refine Box.new ?_); simp; done) | (with_reducible apply Box.set2) | (with_reducible refine Box.alloc ?_ _) | (with_reducible refine Box.other ?_ (by first | (dsimp only; omega) | omega) _))); have z_p_v1 := x_p_v1.lt; have c_p_v1_0 := x_p_v1.c 0 _ rfl; have f_p_v1_0 := x_p_v1.f 0 _ rfl; have c_p_v1_1 := x_p_v1.c 1 _ rfl; have f_p_v1_1 := x_p_v1.f 1 _ rfl; have x_q_v1 : Box v1 (w2.heap.size) [.int .u64 ph, .int .u64 pl] := (by refine Box.below ?_ hv1; repeat (first | (with_reducible assumption) | (with_reducible refine Box.drew ?_) | (with_reducible refine Box.drewN ?_ _) | ((with_reducible refine Box.new ?_); simp; done) | (with_reducible apply Box.set2) | (with_reducible refine Box.alloc ?_ _) | (with_reducible refine Box.other ?_ (by first | (dsimp only; omega) | omega) _))); have z_q_v1 := x_q_v1.lt; have c_q_v1_0 := x_q_v1.c 0 _ rfl; have f_q_v1_0 := x_q_v1.f 0 _ rfl; have c_q_v1_1 := x_q_v1.c 1 _ rfl; have f_q_v1_1 := x_q_v1.f 1 _ rfl; have x_r_v1 : Box v1 (w3.heap.size) [.int .u64 mh, .int .u64 ml] := (by refine Box.below ?_ hv1; repeat (first | (with_reducible assumption) | (with_reducible refine Box.drew ?_) | (with_reducible refine Box.drewN ?_ _) | ((with_reducible refine Box.new ?_); simp; done) | (with_reducible apply Box.set2) | (with_reducible refine Box.alloc ?_ _) | (with_reducible refine Box.other ?_ (by first | (dsimp only; omega) | omega) _))); have z_r_v1 := x_r_v1.lt; have c_r_v1_0 := x_r_v1.c 0 _ rfl; have f_r_v1_0 := x_r_v1.f 0 _ rfl; have c_r_v1_1 := x_r_v1.c 1 _ rfl; have f_r_v1_1 := x_r_v1.f 1 _ rfl; have x_s_v1 : Box v1 (w4.heap.size) [.int .u64 mh, .int .u64 ml] := (by refine Box.below ?_ hv1; repeat (first | (with_reducible assumption) | (with_reducible refine Box.drew ?_) | (with_reducible refine Box.drewN ?_ _) | ((with_reducible refine Box.new ?_); simp; done) | (with_reducible apply Box.set2) | (with_reducible refine Box.alloc ?_ _) | (with_reducible refine Box.other ?_ (by first | (dsimp only; omega) | omega) _))); have z_s_v1 := x_s_v1.lt; have c_s_v1_0 := x_s_v1.c 0 _ rfl; have f_s_v1_0 := x_s_v1.f 0 _ rfl; have c_s_v1_1 := x_s_v1.c 1 _ rfl; have f_s_v1_1 := x_s_v1.f 1 _ rfl)
        | (go_at_call 21; refine (rcmp_nm _ h2 h4 e9.out).mono ?_; rintro e v2 ⟨rfl, hv2⟩; have hV2 : Below w.heap.size w v2 := below_thru (by go_grown) hv2; have hs_v2 : w.heap.size ≤ v2.heap.size := hV2.size; have x_a_v2 : Box v2 (w.heap.size) [.int .u64 ah, .int .u64 al] := (by refine Box.below ?_ hv2; repeat (first | (with_reducible assumption) | (with_reducible refine Box.drew ?_) | (with_reducible refine Box.drewN ?_ _) | ((with_reducible refine Box.new ?_); simp; done) | (with_reducible apply Box.set2) | (with_reducible refine Box.alloc ?_ _) | (with_reducible refine Box.other ?_ (by first | (dsimp only; omega) | omega) _))); have z_a_v2 := x_a_v2.lt; have c_a_v2_0 := x_a_v2.c 0 _ rfl; have f_a_v2_0 := x_a_v2.f 0 _ rfl; have c_a_v2_1 := x_a_v2.c 1 _ rfl; have f_a_v2_1 := x_a_v2.f 1 _ rfl; have x_b_v2 : Box v2 (w.heap.size + 1) [.int .u64 bh, .int .u64 bl] := (by refine Box.below ?_ hv2; repeat (first | (with_reducible assumption) | (with_reducible refine Box.drew ?_) | (with_reducible refine Box.drewN ?_ _) | ((with_reducible refine Box.new ?_); simp; done) | (with_reducible apply Box.set2) | (with_reducible refine Box.alloc ?_ _) | (with_reducible refine Box.other ?_ (by first | (dsimp only; omega) | omega) _))); have z_b_v2 := x_b_v2.lt; have c_b_v2_0 := x_b_v2.c 0 _ rfl; have f_b_v2_0 := x_b_v2.f 0 _ rfl; have c_b_v2_1 := x_b_v2.c 1 _ rfl; have f_b_v2_1 := x_b_v2.f 1 _ rfl; have x_p_v2 : Box v2 (w1.heap.size) [.int .u64 ph, .int .u64 pl] := (by refine Box.below ?_ hv2; repeat (first | (with_reducible assumption) | (with_reducible refine Box.drew ?_) | (with_reducible refine Box.drewN ?_ _) | ((with_reducible refine Box.new ?_); simp; done) | (with_reducible apply Box.set2) | (with_reducible refine Box.alloc ?_ _) | (with_reducible refine Box.other ?_ (by first | (dsimp only; omega) | omega) _))); have z_p_v2 := x_p_v2.lt; have c_p_v2_0 := x_p_v2.c 0 _ rfl; have f_p_v2_0 := x_p_v2.f 0 _ rfl; have c_p_v2_1 := x_p_v2.c 1 _ rfl; have f_p_v2_1 := x_p_v2.f 1 _ rfl; have x_q_v2 : Box v2 (w2.heap.size) [.int .u64 ph, .int .u64 pl] := (by refine Box.below ?_ hv2; repeat (first | (with_reducible assumption) | (with_reducible refine Box.drew ?_) | (with_reducible refine Box.drewN ?_ _) | ((with_reducible refine Box.new ?_); simp; done) | (with_reducible apply Box.set2) | (with_reducible refine Box.alloc ?_ _) | (with_reducible refine Box.other ?_ (by first | (dsimp only; omega) | omega) _))); have z_q_v2 := x_q_v2.lt; have c_q_v2_0 := x_q_v2.c 0 _ rfl; have f_q_v2_0 := x_q_v2.f 0 _ rfl; have c_q_v2_1 := x_q_v2.c 1 _ rfl; have f_q_v2_1 := x_q_v2.f 1 _ rfl; have x_r_v2 : Box v2 (w3.heap.size) [.int .u64 mh, .int .u64 ml] := (by refine Box.below ?_ hv2; repeat (first | (with_reducible assumption) | (with_reducible refine Box.drew ?_) | (with_reducible refine Box.drewN ?_ _) | ((with_reducible refine Box.new ?_); simp; done) | (with_reducible apply Box.set2) | (with_reducible refine Box.alloc ?_ _) | (with_reducible refine Box.other ?_ (by first | (dsimp only; omega) | omega) _))); have z_r_v2 := x_r_v2.lt; have c_r_v2_0 := x_r_v2.c 0 _ rfl; have f_r_v2_0 := x_r_v2.f 0 _ rfl; have c_r_v2_1 := x_r_v2.c 1 _ rfl; have f_r_v2_1 := x_r_v2.f 1 _ rfl; have x_s_v2 : Box v2 (w4.heap.size) [.int .u64 mh, .int .u64 ml] := (by refine Box.below ?_ hv2; repeat (first | (with_reducible assumption) | (with_reducible refine Box.drew ?_) | (with_reducible refine Box.drewN ?_ _) | ((with_reducible refine Box.new ?_); simp; done) | (with_reducible apply Box.set2) | (with_reducible refine Box.alloc ?_ _) | (with_reducible refine Box.other ?_ (by first | (dsimp only; omega) | omega) _))); have z_s_v2 := x_s_v2.lt; have c_s_v2_0 := x_s_v2.c 0 _ rfl; have f_s_v2_0 := x_s_v2.f 0 _ rfl; have c_s_v2_1 := x_s_v2.c 1 _ rfl; have f_s_v2_1 := x_s_v2.f 1 _ rfl)
        | (go_at_call 10; refine (of_any _ _).mono ?_; rintro e v3 ⟨rfl, hv3⟩; have hV3 : Below w.heap.size w v3 := below_thru (by go_grown) hv3; have hs_v3 : w.heap.size ≤ v3.heap.size := hV3.size; have x_a_v3 : Box v3 (w.heap.size) [.int .u64 ah, .int .u64 al] := (by refine Box.below ?_ hv3; repeat (first | (with_reducible assumption) | (with_reducible refine Box.drew ?_) | (with_reducible refine Box.drewN ?_ _) | ((with_reducible refine Box.new ?_); simp; done) | (with_reducible apply Box.set2) | (with_reducible refine Box.alloc ?_ _) | (with_reducible refine Box.other ?_ (by first | (dsimp only; omega) | omega) _))); have z_a_v3 := x_a_v3.lt; have c_a_v3_0 := x_a_v3.c 0 _ rfl; have f_a_v3_0 := x_a_v3.f 0 _ rfl; have c_a_v3_1 := x_a_v3.c 1 _ rfl; have f_a_v3_1 := x_a_v3.f 1 _ rfl; have x_b_v3 : Box v3 (w.heap.size + 1) [.int .u64 bh, .int .u64 bl] := (by refine Box.below ?_ hv3; repeat (first | (with_reducible assumption) | (with_reducible refine Box.drew ?_) | (with_reducible refine Box.drewN ?_ _) | ((with_reducible refine Box.new ?_); simp; done) | (with_reducible apply Box.set2) | (with_reducible refine Box.alloc ?_ _) | (with_reducible refine Box.other ?_ (by first | (dsimp only; omega) | omega) _))); have z_b_v3 := x_b_v3.lt; have c_b_v3_0 := x_b_v3.c 0 _ rfl; have f_b_v3_0 := x_b_v3.f 0 _ rfl; have c_b_v3_1 := x_b_v3.c 1 _ rfl; have f_b_v3_1 := x_b_v3.f 1 _ rfl; have x_p_v3 : Box v3 (w1.heap.size) [.int .u64 ph, .int .u64 pl] := (by refine Box.below ?_ hv3; repeat (first | (with_reducible assumption) | (with_reducible refine Box.drew ?_) | (with_reducible refine Box.drewN ?_ _) | ((with_reducible refine Box.new ?_); simp; done) | (with_reducible apply Box.set2) | (with_reducible refine Box.alloc ?_ _) | (with_reducible refine Box.other ?_ (by first | (dsimp only; omega) | omega) _))); have z_p_v3 := x_p_v3.lt; have c_p_v3_0 := x_p_v3.c 0 _ rfl; have f_p_v3_0 := x_p_v3.f 0 _ rfl; have c_p_v3_1 := x_p_v3.c 1 _ rfl; have f_p_v3_1 := x_p_v3.f 1 _ rfl; have x_q_v3 : Box v3 (w2.heap.size) [.int .u64 ph, .int .u64 pl] := (by refine Box.below ?_ hv3; repeat (first | (with_reducible assumption) | (with_reducible refine Box.drew ?_) | (with_reducible refine Box.drewN ?_ _) | ((with_reducible refine Box.new ?_); simp; done) | (with_reducible apply Box.set2) | (with_reducible refine Box.alloc ?_ _) | (with_reducible refine Box.other ?_ (by first | (dsimp only; omega) | omega) _))); have z_q_v3 := x_q_v3.lt; have c_q_v3_0 := x_q_v3.c 0 _ rfl; have f_q_v3_0 := x_q_v3.f 0 _ rfl; have c_q_v3_1 := x_q_v3.c 1 _ rfl; have f_q_v3_1 := x_q_v3.f 1 _ rfl; have x_r_v3 : Box v3 (w3.heap.size) [.int .u64 mh, .int .u64 ml] := (by refine Box.below ?_ hv3; repeat (first | (with_reducible assumption) | (with_reducible refine Box.drew ?_) | (with_reducible refine Box.drewN ?_ _) | ((with_reducible refine Box.new ?_); simp; done) | (with_reducible apply Box.set2) | (with_reducible refine Box.alloc ?_ _) | (with_reducible refine Box.other ?_ (by first | (dsimp only; omega) | omega) _))); have z_r_v3 := x_r_v3.lt; have c_r_v3_0 := x_r_v3.c 0 _ rfl; have f_r_v3_0 := x_r_v3.f 0 _ rfl; have c_r_v3_1 := x_r_v3.c 1 _ rfl; have f_r_v3_1 := x_r_v3.f 1 _ rfl; have x_s_v3 : Box v3 (w4.heap.size) [.int .u64 mh, .int .u64 ml] := (by refine Box.below ?_ hv3; repeat (first | (with_reducible assumption) | (with_reducible refine Box.drew ?_) | (with_reducible refine Box.drewN ?_ _) | ((with_reducible refine Box.new ?_); simp; done) | (with_reducible apply Box.set2) | (with_reducible refine Box.alloc ?_ _) | (with_reducible refine Box.other ?_ (by first | (dsimp only; omega) | omega) _))); have z_s_v3 := x_s_v3.lt; have c_s_v3_0 := x_s_v3.c 0 _ rfl; have f_s_v3_0 := x_s_v3.f 0 _ rfl; have c_s_v3_1 := x_s_v3.c 1 _ rfl; have f_s_v3_1 := x_s_v3.f 1 _ rfl))
    all_goals
      go_wp2_with fail
      go_meet
      refine ⟨rfl, ?_, ?_, ?_, ?_, ?_, ?_, ?_⟩
      all_goals first
        | ((repeat (first | (with_reducible assumption) | (with_reducible refine Box.drew ?_) | (with_reducible refine Box.drewN ?_ _) | ((with_reducible refine Box.new ?_); simp; done) | (with_reducible apply Box.set2) | (with_reducible refine Box.alloc ?_ _) | (with_reducible refine Box.other ?_ (by first | (dsimp only; omega) | omega) _))); done)
        | (go_grown; done)
  case rest =>
    obtain ⟨rfl, x_a7, x_b7, x_p7, x_q7, x_r7, x_s7, hB7⟩ := hcut
    obtain ⟨w7, rfl⟩ : ∃ u : World, u = wc := ⟨_, rfl⟩
    clear hB6 hs6 x_a6 z_a6 c_a6_0 c_a6_1 f_a6_0 f_a6_1 x_b6 z_b6 c_b6_0 c_b6_1 f_b6_0 f_b6_1 x_p6 z_p6 c_p6_0 c_p6_1 f_p6_0 f_p6_1 x_q6 z_q6 c_q6_0 c_q6_1 f_q6_0 f_q6_1 x_r6 z_r6 c_r6_0 c_r6_1 f_r6_0 f_r6_1 x_s6 z_s6 c_s6_0 c_s6_1 f_s6_0 f_s6_1
    have hs7 : w.heap.size ≤ w7.heap.size := hB7.size
    have z_a7 := x_a7.lt
    have c_a7_0 := x_a7.c 0 _ rfl; have f_a7_0 := x_a7.f 0 _ rfl
    have c_a7_1 := x_a7.c 1 _ rfl; have f_a7_1 := x_a7.f 1 _ rfl
    have z_b7 := x_b7.lt
    have c_b7_0 := x_b7.c 0 _ rfl; have f_b7_0 := x_b7.f 0 _ rfl
    have c_b7_1 := x_b7.c 1 _ rfl; have f_b7_1 := x_b7.f 1 _ rfl
    have z_p7 := x_p7.lt
    have c_p7_0 := x_p7.c 0 _ rfl; have f_p7_0 := x_p7.f 0 _ rfl
    have c_p7_1 := x_p7.c 1 _ rfl; have f_p7_1 := x_p7.f 1 _ rfl
    have z_q7 := x_q7.lt
    have c_q7_0 := x_q7.c 0 _ rfl; have f_q7_0 := x_q7.f 0 _ rfl
    have c_q7_1 := x_q7.c 1 _ rfl; have f_q7_1 := x_q7.f 1 _ rfl
    have z_r7 := x_r7.lt
    have c_r7_0 := x_r7.c 0 _ rfl; have f_r7_0 := x_r7.f 0 _ rfl
    have c_r7_1 := x_r7.c 1 _ rfl; have f_r7_1 := x_r7.f 1 _ rfl
    have z_s7 := x_s7.lt
    have c_s7_0 := x_s7.c 0 _ rfl; have f_s7_0 := x_s7.f 0 _ rfl
    have c_s7_1 := x_s7.c 1 _ rfl; have f_s7_1 := x_s7.f 1 _ rfl
    go_wp2
    go_returns
    refine ⟨rfl, ?_⟩
    go_grown

theorem sums_walk : LawWalk Try.prog 4 Try.f4 := by
  intro H enc W base args ds ps hval hA _ _
  rw [Try.params4] at hA hval
  obtain ⟨v0, vs0, d0, ds0, p0, q0, hargs, rfl, rfl, h0, r0⟩ := trodAll_cons hA
  obtain ⟨v1, vs1, d1, ds1, p1, q1, rfl, rfl, rfl, h1, r1⟩ := trodAll_cons r0
  obtain ⟨v2, vs2, d2, ds2, p2, q2, rfl, rfl, rfl, h2, r2⟩ := trodAll_cons r1
  obtain ⟨rfl, rfl, rfl⟩ := trodAll_nil r2
  obtain rfl : args = #[v0, v1, v2] := by cases args; simp_all
  obtain ⟨a0, b0, rfl, ha0, hb0⟩ := open_wide (hval 0 _ v0 rfl rfl) h0
  obtain ⟨a1, b1, rfl, ha1, hb1⟩ := open_wide (hval 1 _ v1 rfl rfl) h1
  obtain ⟨c2, rfl, _⟩ := open_u64 (hval 2 _ v2 rfl rfl) h2
  exact sums_any a0 b0 a1 b1 c2 _ _ _ _ _ _ _ _ _ W ha0 hb0 ha1 hb1 (Lib.hid rfl) (Lib.hid rfl) (Lib.hid rfl) (Lib.hid rfl) (Lib.hid rfl) (Lib.hid rfl) (Lib.hid rfl) (Lib.hid rfl) (Lib.hid rfl)

set_option maxRecDepth 100000 in
theorem sums_lifted (os : Os) (started : os.Started) (H : Type) (enc : TypeId × Value → H) :
    ReturnsInHanded {} Try.checked os 4 .any (Rows.wideSumsSpec.pre6 enc Try.prog Try.f4 Rows.wideSumsRow.domain false) (Rows.wideSumsSpec.post enc Try.prog Try.f4 false true false false) :=
  law_lifted (C := Try.checked) (s := Rows.wideSumsSpec) (conds := Rows.wideSumsRow.domain) (tb := 4) own laidOut started (by kernel_rfl) Try.func4
    (ChangeSpec.witness6 (enc := enc) (C := Try.checked) false ⟨#[], #[.agg #[.int .u64 0, .int .u64 0], .agg #[.int .u64 0, .int .u64 0], .int .u64 0], []⟩ 8 (by kernel_rfl) (by kernel_rfl) (by kernel_rfl) (by kernel_rfl))
    (by rw [show Try.f4.params = _ from Try.params4]; decide +kernel) (by kernel_rfl) Try.underlying4 rfl
    (fun ds hl => by
      rw [show Try.f4.params = _ from Try.params4] at hl
      match ds, hl with
      | [_, _, _], _ => rfl) sums_walk

set_option maxRecDepth 100000 in
theorem sums_over : Rows.wideSumsRow.holds Try.pinned (OpenSpec.ofChange Rows.wideSumsSpec) :=
  OpenClaim.holds_of_wide 4 Try.f4 rfl rfl rfl rfl rfl rfl rfl ⟨rfl, rfl, rfl, rfl, rfl⟩ rfl rfl rfl rfl rfl (by kernel_rfl) Try.func4 (by kernel_rfl)
    (of_decide_eq_true (by kernel_rfl)) (by unfold Func.isWrapper; first | (rw [if_pos (by decide +kernel)]; kernel_rfl) | (rw [if_neg (by decide +kernel)]; exact ⟨rfl, rfl⟩))
    (fun os started H enc _ => sums_lifted os started H enc)

/-- The given statement. -/
theorem sums_holds : Rows.WideSumsSaid := sums_over
#print axioms sums_holds
end Go.Proofs.Ytjidognjnlhlcaa
