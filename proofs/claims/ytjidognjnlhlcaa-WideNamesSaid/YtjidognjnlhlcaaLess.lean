/-
  The statement WideLess, walked case by case: which of two numbers is less, which sums are too great.
-/
import Derived.Test.YtjidognjnlhlcaaBack
namespace Go.Proofs.Ytjidognjnlhlcaa
open Go.RowKit

theorem cmp_ok {ah al bh bl n : Int} (w : World) (h2 : isU al) (h4 : isU bl) (e : cmpI (wN ah al) (wN bh bl) = n) :
    Calls Try.prog 15 #[.agg #[.int .u64 ah, .int .u64 al], .agg #[.int .u64 bh, .int .u64 bl]] w fun e w' => e = .returned (.int .i64 n) ∧ Below w.heap.size w w' := by
  rw [← e]; exact wcmp_any ah al bh bl w h2 h4

/-- Two wide numbers compared with ==, as one truth. -/
def wEq (a b c d : Int) : Bool := a == c && b == d
theorem eqW_run (a b c d : Int) (w : World) : (binOp .eql 24 (.agg #[.int .u64 a, .int .u64 b]) (.agg #[.int .u64 c, .int .u64 d])).run Try.prog w = .ok (.bool (wEq a b c d)) w := by
  by_cases e1 : a = c
  · by_cases e2 : b = d
    · simp [go_sem, wEq, e1, e2]
    · simp [go_sem, wEq, e1, e2]
  · simp [go_sem, wEq, e1]
theorem neqW_run (a b c d : Int) (w : World) : (binOp .neq 24 (.agg #[.int .u64 a, .int .u64 b]) (.agg #[.int .u64 c, .int .u64 d])).run Try.prog w = .ok (.bool (!wEq a b c d)) w := by
  by_cases e1 : a = c
  · by_cases e2 : b = d
    · simp [go_sem, wEq, e1, e2]
    · simp [go_sem, wEq, e1, e2]
  · simp [go_sem, wEq, e1]

def lessCall (ah al bh bl ch cl : Int) (w : World) : Prop :=
  Calls Try.prog 8 #[.agg #[.int .u64 ah, .int .u64 al], .agg #[.int .u64 bh, .int .u64 bl], .agg #[.int .u64 ch, .int .u64 cl]] w fun e w' => e = .returned (.bool true) ∧ Below w.heap.size w w'

set_option maxRecDepth 100000 in
set_option maxHeartbeats 3200000 in
theorem less_eq_11_1 (ah al ch cl dh dl xh xl : Int) (w : World) (h1 : isU ah) (h2 : isU al) (h5 : isU ch) (h6 : isU cl) (en : Hid (cmpI (wN ah al) (wN ah al) = 0)) (en' : Hid (cmpI (wN ah al) (wN ah al) = 0)) (g1 : isU dh) (g2 : isU dl) (ed : Hid (wN ah al - wN ah al = wN dh dl)) (ed' : Hid (wN dh dl + wN ah al = wN ah al)) (g3 : isU xh) (g4 : isU xl) (ex : Hid (wN ah al + wN ch cl = wN xh xl)) (exy : Hid (cmpI (wN xh xl) (wN xh xl) = 0)) (em : Hid (cmpI (wN ah al) (wN ch cl) = 1)) :
    lessCall ah al ah al ch cl w := by
  unfold lessCall
  have hq := fun w => eqW_run ah al ah al w
  have hwe : wEq ah al ah al = true := by simp [wEq]
  go_enter Try.func8, Try.ntmps8
  go_wp2_with fail
  refine (cmp_ok _ h2 h2 en.out).mono ?_
  rintro e w1 ⟨rfl, hb⟩
  have hB1 : Below w.heap.size w w1 := below_thru (by go_grown) hb
  have hs1 : w.heap.size ≤ w1.heap.size := hB1.size
  have x_a1 : Box w1 (w.heap.size) [.int .u64 ah, .int .u64 al] := (by refine Box.below ?_ hb; repeat (first | (with_reducible assumption) | (with_reducible refine Box.drew ?_) | (with_reducible refine Box.drewN ?_ _) | ((with_reducible refine Box.new ?_); simp; done) | (with_reducible apply Box.set2) | (with_reducible refine Box.alloc ?_ _) | (with_reducible refine Box.other ?_ (by first | (dsimp only; omega) | omega) _)))
  have z_a1 := x_a1.lt
  have c_a1_0 := x_a1.c 0 _ rfl
  have f_a1_0 := x_a1.f 0 _ rfl
  have c_a1_1 := x_a1.c 1 _ rfl
  have f_a1_1 := x_a1.f 1 _ rfl
  have x_b1 : Box w1 (w.heap.size + 1) [.int .u64 ah, .int .u64 al] := (by refine Box.below ?_ hb; repeat (first | (with_reducible assumption) | (with_reducible refine Box.drew ?_) | (with_reducible refine Box.drewN ?_ _) | ((with_reducible refine Box.new ?_); simp; done) | (with_reducible apply Box.set2) | (with_reducible refine Box.alloc ?_ _) | (with_reducible refine Box.other ?_ (by first | (dsimp only; omega) | omega) _)))
  have z_b1 := x_b1.lt
  have c_b1_0 := x_b1.c 0 _ rfl
  have f_b1_0 := x_b1.f 0 _ rfl
  have c_b1_1 := x_b1.c 1 _ rfl
  have f_b1_1 := x_b1.f 1 _ rfl
  have x_c1 : Box w1 (w.heap.size + 1 + 1) [.int .u64 ch, .int .u64 cl] := (by refine Box.below ?_ hb; repeat (first | (with_reducible assumption) | (with_reducible refine Box.drew ?_) | (with_reducible refine Box.drewN ?_ _) | ((with_reducible refine Box.new ?_); simp; done) | (with_reducible apply Box.set2) | (with_reducible refine Box.alloc ?_ _) | (with_reducible refine Box.other ?_ (by first | (dsimp only; omega) | omega) _)))
  have z_c1 := x_c1.lt
  have c_c1_0 := x_c1.c 0 _ rfl
  have f_c1_0 := x_c1.f 0 _ rfl
  have c_c1_1 := x_c1.c 1 _ rfl
  have f_c1_1 := x_c1.f 1 _ rfl
  clear hb
  go_wp2_with fail
  refine (sub_ok _ h1 h2 h1 h2 g1 g2 ed.out).mono ?_
  rintro e w2 ⟨rfl, hb⟩
  have hB2 : Below w.heap.size w w2 := below_thru (by go_grown) hb
  have hs2 : w.heap.size ≤ w2.heap.size := hB2.size
  have x_a2 : Box w2 (w.heap.size) [.int .u64 ah, .int .u64 al] := (by refine Box.below ?_ hb; repeat (first | (with_reducible assumption) | (with_reducible refine Box.drew ?_) | (with_reducible refine Box.drewN ?_ _) | ((with_reducible refine Box.new ?_); simp; done) | (with_reducible apply Box.set2) | (with_reducible refine Box.alloc ?_ _) | (with_reducible refine Box.other ?_ (by first | (dsimp only; omega) | omega) _)))
  have z_a2 := x_a2.lt
  have c_a2_0 := x_a2.c 0 _ rfl
  have f_a2_0 := x_a2.f 0 _ rfl
  have c_a2_1 := x_a2.c 1 _ rfl
  have f_a2_1 := x_a2.f 1 _ rfl
  have x_b2 : Box w2 (w.heap.size + 1) [.int .u64 ah, .int .u64 al] := (by refine Box.below ?_ hb; repeat (first | (with_reducible assumption) | (with_reducible refine Box.drew ?_) | (with_reducible refine Box.drewN ?_ _) | ((with_reducible refine Box.new ?_); simp; done) | (with_reducible apply Box.set2) | (with_reducible refine Box.alloc ?_ _) | (with_reducible refine Box.other ?_ (by first | (dsimp only; omega) | omega) _)))
  have z_b2 := x_b2.lt
  have c_b2_0 := x_b2.c 0 _ rfl
  have f_b2_0 := x_b2.f 0 _ rfl
  have c_b2_1 := x_b2.c 1 _ rfl
  have f_b2_1 := x_b2.f 1 _ rfl
  have x_c2 : Box w2 (w.heap.size + 1 + 1) [.int .u64 ch, .int .u64 cl] := (by refine Box.below ?_ hb; repeat (first | (with_reducible assumption) | (with_reducible refine Box.drew ?_) | (with_reducible refine Box.drewN ?_ _) | ((with_reducible refine Box.new ?_); simp; done) | (with_reducible apply Box.set2) | (with_reducible refine Box.alloc ?_ _) | (with_reducible refine Box.other ?_ (by first | (dsimp only; omega) | omega) _)))
  have z_c2 := x_c2.lt
  have c_c2_0 := x_c2.c 0 _ rfl
  have f_c2_0 := x_c2.f 0 _ rfl
  have c_c2_1 := x_c2.c 1 _ rfl
  have f_c2_1 := x_c2.f 1 _ rfl
  clear hb hB1 hs1 x_a1 z_a1 c_a1_0 c_a1_1 f_a1_0 f_a1_1 x_b1 z_b1 c_b1_0 c_b1_1 f_b1_0 f_b1_1 x_c1 z_c1 c_c1_0 c_c1_1 f_c1_0 f_c1_1
  go_wp2_with fail
  refine (cmp_ok _ h2 h2 en'.out).mono ?_
  rintro e w3 ⟨rfl, hb⟩
  have hB3 : Below w.heap.size w w3 := below_thru (by go_grown) hb
  have hs3 : w.heap.size ≤ w3.heap.size := hB3.size
  have x_a3 : Box w3 (w.heap.size) [.int .u64 ah, .int .u64 al] := (by refine Box.below ?_ hb; repeat (first | (with_reducible assumption) | (with_reducible refine Box.drew ?_) | (with_reducible refine Box.drewN ?_ _) | ((with_reducible refine Box.new ?_); simp; done) | (with_reducible apply Box.set2) | (with_reducible refine Box.alloc ?_ _) | (with_reducible refine Box.other ?_ (by first | (dsimp only; omega) | omega) _)))
  have z_a3 := x_a3.lt
  have c_a3_0 := x_a3.c 0 _ rfl
  have f_a3_0 := x_a3.f 0 _ rfl
  have c_a3_1 := x_a3.c 1 _ rfl
  have f_a3_1 := x_a3.f 1 _ rfl
  have x_b3 : Box w3 (w.heap.size + 1) [.int .u64 ah, .int .u64 al] := (by refine Box.below ?_ hb; repeat (first | (with_reducible assumption) | (with_reducible refine Box.drew ?_) | (with_reducible refine Box.drewN ?_ _) | ((with_reducible refine Box.new ?_); simp; done) | (with_reducible apply Box.set2) | (with_reducible refine Box.alloc ?_ _) | (with_reducible refine Box.other ?_ (by first | (dsimp only; omega) | omega) _)))
  have z_b3 := x_b3.lt
  have c_b3_0 := x_b3.c 0 _ rfl
  have f_b3_0 := x_b3.f 0 _ rfl
  have c_b3_1 := x_b3.c 1 _ rfl
  have f_b3_1 := x_b3.f 1 _ rfl
  have x_c3 : Box w3 (w.heap.size + 1 + 1) [.int .u64 ch, .int .u64 cl] := (by refine Box.below ?_ hb; repeat (first | (with_reducible assumption) | (with_reducible refine Box.drew ?_) | (with_reducible refine Box.drewN ?_ _) | ((with_reducible refine Box.new ?_); simp; done) | (with_reducible apply Box.set2) | (with_reducible refine Box.alloc ?_ _) | (with_reducible refine Box.other ?_ (by first | (dsimp only; omega) | omega) _)))
  have z_c3 := x_c3.lt
  have c_c3_0 := x_c3.c 0 _ rfl
  have f_c3_0 := x_c3.f 0 _ rfl
  have c_c3_1 := x_c3.c 1 _ rfl
  have f_c3_1 := x_c3.f 1 _ rfl
  have x_d3 : Box w3 (w2.heap.size) [.int .u64 dh, .int .u64 dl] := (by refine Box.below ?_ hb; repeat (first | (with_reducible assumption) | (with_reducible refine Box.drew ?_) | (with_reducible refine Box.drewN ?_ _) | ((with_reducible refine Box.new ?_); simp; done) | (with_reducible apply Box.set2) | (with_reducible refine Box.alloc ?_ _) | (with_reducible refine Box.other ?_ (by first | (dsimp only; omega) | omega) _)))
  have z_d3 := x_d3.lt
  have c_d3_0 := x_d3.c 0 _ rfl
  have f_d3_0 := x_d3.f 0 _ rfl
  have c_d3_1 := x_d3.c 1 _ rfl
  have f_d3_1 := x_d3.f 1 _ rfl
  clear hb hB2 hs2 x_a2 z_a2 c_a2_0 c_a2_1 f_a2_0 f_a2_1 x_b2 z_b2 c_b2_0 c_b2_1 f_b2_0 f_b2_1 x_c2 z_c2 c_c2_0 c_c2_1 f_c2_0 f_c2_1
  go_wp2_with fail
  refine (add_ok _ g1 g2 h1 h2 h1 h2 ed'.out).mono ?_
  rintro e w4 ⟨rfl, hb⟩
  have hB4 : Below w.heap.size w w4 := below_thru (by go_grown) hb
  have hs4 : w.heap.size ≤ w4.heap.size := hB4.size
  have x_a4 : Box w4 (w.heap.size) [.int .u64 ah, .int .u64 al] := (by refine Box.below ?_ hb; repeat (first | (with_reducible assumption) | (with_reducible refine Box.drew ?_) | (with_reducible refine Box.drewN ?_ _) | ((with_reducible refine Box.new ?_); simp; done) | (with_reducible apply Box.set2) | (with_reducible refine Box.alloc ?_ _) | (with_reducible refine Box.other ?_ (by first | (dsimp only; omega) | omega) _)))
  have z_a4 := x_a4.lt
  have c_a4_0 := x_a4.c 0 _ rfl
  have f_a4_0 := x_a4.f 0 _ rfl
  have c_a4_1 := x_a4.c 1 _ rfl
  have f_a4_1 := x_a4.f 1 _ rfl
  have x_b4 : Box w4 (w.heap.size + 1) [.int .u64 ah, .int .u64 al] := (by refine Box.below ?_ hb; repeat (first | (with_reducible assumption) | (with_reducible refine Box.drew ?_) | (with_reducible refine Box.drewN ?_ _) | ((with_reducible refine Box.new ?_); simp; done) | (with_reducible apply Box.set2) | (with_reducible refine Box.alloc ?_ _) | (with_reducible refine Box.other ?_ (by first | (dsimp only; omega) | omega) _)))
  have z_b4 := x_b4.lt
  have c_b4_0 := x_b4.c 0 _ rfl
  have f_b4_0 := x_b4.f 0 _ rfl
  have c_b4_1 := x_b4.c 1 _ rfl
  have f_b4_1 := x_b4.f 1 _ rfl
  have x_c4 : Box w4 (w.heap.size + 1 + 1) [.int .u64 ch, .int .u64 cl] := (by refine Box.below ?_ hb; repeat (first | (with_reducible assumption) | (with_reducible refine Box.drew ?_) | (with_reducible refine Box.drewN ?_ _) | ((with_reducible refine Box.new ?_); simp; done) | (with_reducible apply Box.set2) | (with_reducible refine Box.alloc ?_ _) | (with_reducible refine Box.other ?_ (by first | (dsimp only; omega) | omega) _)))
  have z_c4 := x_c4.lt
  have c_c4_0 := x_c4.c 0 _ rfl
  have f_c4_0 := x_c4.f 0 _ rfl
  have c_c4_1 := x_c4.c 1 _ rfl
  have f_c4_1 := x_c4.f 1 _ rfl
  have x_d4 : Box w4 (w2.heap.size) [.int .u64 dh, .int .u64 dl] := (by refine Box.below ?_ hb; repeat (first | (with_reducible assumption) | (with_reducible refine Box.drew ?_) | (with_reducible refine Box.drewN ?_ _) | ((with_reducible refine Box.new ?_); simp; done) | (with_reducible apply Box.set2) | (with_reducible refine Box.alloc ?_ _) | (with_reducible refine Box.other ?_ (by first | (dsimp only; omega) | omega) _)))
  have z_d4 := x_d4.lt
  have c_d4_0 := x_d4.c 0 _ rfl
  have f_d4_0 := x_d4.f 0 _ rfl
  have c_d4_1 := x_d4.c 1 _ rfl
  have f_d4_1 := x_d4.f 1 _ rfl
  clear hb hB3 hs3 x_a3 z_a3 c_a3_0 c_a3_1 f_a3_0 f_a3_1 x_b3 z_b3 c_b3_0 c_b3_1 f_b3_0 f_b3_1 x_c3 z_c3 c_c3_0 c_c3_1 f_c3_0 f_c3_1 x_d3 z_d3 c_d3_0 c_d3_1 f_d3_0 f_d3_1
  go_wp2_with fail
  refine (add_ok _ h1 h2 h5 h6 g3 g4 ex.out).mono ?_
  rintro e w5 ⟨rfl, hb⟩
  have hB5 : Below w.heap.size w w5 := below_thru (by go_grown) hb
  have hs5 : w.heap.size ≤ w5.heap.size := hB5.size
  have x_a5 : Box w5 (w.heap.size) [.int .u64 ah, .int .u64 al] := (by refine Box.below ?_ hb; repeat (first | (with_reducible assumption) | (with_reducible refine Box.drew ?_) | (with_reducible refine Box.drewN ?_ _) | ((with_reducible refine Box.new ?_); simp; done) | (with_reducible apply Box.set2) | (with_reducible refine Box.alloc ?_ _) | (with_reducible refine Box.other ?_ (by first | (dsimp only; omega) | omega) _)))
  have z_a5 := x_a5.lt
  have c_a5_0 := x_a5.c 0 _ rfl
  have f_a5_0 := x_a5.f 0 _ rfl
  have c_a5_1 := x_a5.c 1 _ rfl
  have f_a5_1 := x_a5.f 1 _ rfl
  have x_b5 : Box w5 (w.heap.size + 1) [.int .u64 ah, .int .u64 al] := (by refine Box.below ?_ hb; repeat (first | (with_reducible assumption) | (with_reducible refine Box.drew ?_) | (with_reducible refine Box.drewN ?_ _) | ((with_reducible refine Box.new ?_); simp; done) | (with_reducible apply Box.set2) | (with_reducible refine Box.alloc ?_ _) | (with_reducible refine Box.other ?_ (by first | (dsimp only; omega) | omega) _)))
  have z_b5 := x_b5.lt
  have c_b5_0 := x_b5.c 0 _ rfl
  have f_b5_0 := x_b5.f 0 _ rfl
  have c_b5_1 := x_b5.c 1 _ rfl
  have f_b5_1 := x_b5.f 1 _ rfl
  have x_c5 : Box w5 (w.heap.size + 1 + 1) [.int .u64 ch, .int .u64 cl] := (by refine Box.below ?_ hb; repeat (first | (with_reducible assumption) | (with_reducible refine Box.drew ?_) | (with_reducible refine Box.drewN ?_ _) | ((with_reducible refine Box.new ?_); simp; done) | (with_reducible apply Box.set2) | (with_reducible refine Box.alloc ?_ _) | (with_reducible refine Box.other ?_ (by first | (dsimp only; omega) | omega) _)))
  have z_c5 := x_c5.lt
  have c_c5_0 := x_c5.c 0 _ rfl
  have f_c5_0 := x_c5.f 0 _ rfl
  have c_c5_1 := x_c5.c 1 _ rfl
  have f_c5_1 := x_c5.f 1 _ rfl
  have x_d5 : Box w5 (w2.heap.size) [.int .u64 dh, .int .u64 dl] := (by refine Box.below ?_ hb; repeat (first | (with_reducible assumption) | (with_reducible refine Box.drew ?_) | (with_reducible refine Box.drewN ?_ _) | ((with_reducible refine Box.new ?_); simp; done) | (with_reducible apply Box.set2) | (with_reducible refine Box.alloc ?_ _) | (with_reducible refine Box.other ?_ (by first | (dsimp only; omega) | omega) _)))
  have z_d5 := x_d5.lt
  have c_d5_0 := x_d5.c 0 _ rfl
  have f_d5_0 := x_d5.f 0 _ rfl
  have c_d5_1 := x_d5.c 1 _ rfl
  have f_d5_1 := x_d5.f 1 _ rfl
  have x_k5 : Box w5 (w4.heap.size) [.int .u64 ah, .int .u64 al] := (by refine Box.below ?_ hb; repeat (first | (with_reducible assumption) | (with_reducible refine Box.drew ?_) | (with_reducible refine Box.drewN ?_ _) | ((with_reducible refine Box.new ?_); simp; done) | (with_reducible apply Box.set2) | (with_reducible refine Box.alloc ?_ _) | (with_reducible refine Box.other ?_ (by first | (dsimp only; omega) | omega) _)))
  have z_k5 := x_k5.lt
  have c_k5_0 := x_k5.c 0 _ rfl
  have f_k5_0 := x_k5.f 0 _ rfl
  have c_k5_1 := x_k5.c 1 _ rfl
  have f_k5_1 := x_k5.f 1 _ rfl
  clear hb hB4 hs4 x_a4 z_a4 c_a4_0 c_a4_1 f_a4_0 f_a4_1 x_b4 z_b4 c_b4_0 c_b4_1 f_b4_0 f_b4_1 x_c4 z_c4 c_c4_0 c_c4_1 f_c4_0 f_c4_1 x_d4 z_d4 c_d4_0 c_d4_1 f_d4_0 f_d4_1
  clear x_d5 z_d5 c_d5_0 c_d5_1 f_d5_0 f_d5_1
  clear x_k5 z_k5 c_k5_0 c_k5_1 f_k5_0 f_k5_1
  go_wp2_with fail
  refine (add_ok _ h1 h2 h5 h6 g3 g4 ex.out).mono ?_
  rintro e w6 ⟨rfl, hb⟩
  have hB6 : Below w.heap.size w w6 := below_thru (by go_grown) hb
  have hs6 : w.heap.size ≤ w6.heap.size := hB6.size
  have x_a6 : Box w6 (w.heap.size) [.int .u64 ah, .int .u64 al] := (by refine Box.below ?_ hb; repeat (first | (with_reducible assumption) | (with_reducible refine Box.drew ?_) | (with_reducible refine Box.drewN ?_ _) | ((with_reducible refine Box.new ?_); simp; done) | (with_reducible apply Box.set2) | (with_reducible refine Box.alloc ?_ _) | (with_reducible refine Box.other ?_ (by first | (dsimp only; omega) | omega) _)))
  have z_a6 := x_a6.lt
  have c_a6_0 := x_a6.c 0 _ rfl
  have f_a6_0 := x_a6.f 0 _ rfl
  have c_a6_1 := x_a6.c 1 _ rfl
  have f_a6_1 := x_a6.f 1 _ rfl
  have x_b6 : Box w6 (w.heap.size + 1) [.int .u64 ah, .int .u64 al] := (by refine Box.below ?_ hb; repeat (first | (with_reducible assumption) | (with_reducible refine Box.drew ?_) | (with_reducible refine Box.drewN ?_ _) | ((with_reducible refine Box.new ?_); simp; done) | (with_reducible apply Box.set2) | (with_reducible refine Box.alloc ?_ _) | (with_reducible refine Box.other ?_ (by first | (dsimp only; omega) | omega) _)))
  have z_b6 := x_b6.lt
  have c_b6_0 := x_b6.c 0 _ rfl
  have f_b6_0 := x_b6.f 0 _ rfl
  have c_b6_1 := x_b6.c 1 _ rfl
  have f_b6_1 := x_b6.f 1 _ rfl
  have x_c6 : Box w6 (w.heap.size + 1 + 1) [.int .u64 ch, .int .u64 cl] := (by refine Box.below ?_ hb; repeat (first | (with_reducible assumption) | (with_reducible refine Box.drew ?_) | (with_reducible refine Box.drewN ?_ _) | ((with_reducible refine Box.new ?_); simp; done) | (with_reducible apply Box.set2) | (with_reducible refine Box.alloc ?_ _) | (with_reducible refine Box.other ?_ (by first | (dsimp only; omega) | omega) _)))
  have z_c6 := x_c6.lt
  have c_c6_0 := x_c6.c 0 _ rfl
  have f_c6_0 := x_c6.f 0 _ rfl
  have c_c6_1 := x_c6.c 1 _ rfl
  have f_c6_1 := x_c6.f 1 _ rfl
  have x_x6 : Box w6 (w5.heap.size) [.int .u64 xh, .int .u64 xl] := (by refine Box.below ?_ hb; repeat (first | (with_reducible assumption) | (with_reducible refine Box.drew ?_) | (with_reducible refine Box.drewN ?_ _) | ((with_reducible refine Box.new ?_); simp; done) | (with_reducible apply Box.set2) | (with_reducible refine Box.alloc ?_ _) | (with_reducible refine Box.other ?_ (by first | (dsimp only; omega) | omega) _)))
  have z_x6 := x_x6.lt
  have c_x6_0 := x_x6.c 0 _ rfl
  have f_x6_0 := x_x6.f 0 _ rfl
  have c_x6_1 := x_x6.c 1 _ rfl
  have f_x6_1 := x_x6.f 1 _ rfl
  clear hb hB5 hs5 x_a5 z_a5 c_a5_0 c_a5_1 f_a5_0 f_a5_1 x_b5 z_b5 c_b5_0 c_b5_1 f_b5_0 f_b5_1 x_c5 z_c5 c_c5_0 c_c5_1 f_c5_0 f_c5_1
  go_wp2_with fail
  refine (cmp_ok _ g4 g4 exy.out).mono ?_
  rintro e w7 ⟨rfl, hb⟩
  have hB7 : Below w.heap.size w w7 := below_thru (by go_grown) hb
  have hs7 : w.heap.size ≤ w7.heap.size := hB7.size
  have x_a7 : Box w7 (w.heap.size) [.int .u64 ah, .int .u64 al] := (by refine Box.below ?_ hb; repeat (first | (with_reducible assumption) | (with_reducible refine Box.drew ?_) | (with_reducible refine Box.drewN ?_ _) | ((with_reducible refine Box.new ?_); simp; done) | (with_reducible apply Box.set2) | (with_reducible refine Box.alloc ?_ _) | (with_reducible refine Box.other ?_ (by first | (dsimp only; omega) | omega) _)))
  have z_a7 := x_a7.lt
  have c_a7_0 := x_a7.c 0 _ rfl
  have f_a7_0 := x_a7.f 0 _ rfl
  have c_a7_1 := x_a7.c 1 _ rfl
  have f_a7_1 := x_a7.f 1 _ rfl
  have x_b7 : Box w7 (w.heap.size + 1) [.int .u64 ah, .int .u64 al] := (by refine Box.below ?_ hb; repeat (first | (with_reducible assumption) | (with_reducible refine Box.drew ?_) | (with_reducible refine Box.drewN ?_ _) | ((with_reducible refine Box.new ?_); simp; done) | (with_reducible apply Box.set2) | (with_reducible refine Box.alloc ?_ _) | (with_reducible refine Box.other ?_ (by first | (dsimp only; omega) | omega) _)))
  have z_b7 := x_b7.lt
  have c_b7_0 := x_b7.c 0 _ rfl
  have f_b7_0 := x_b7.f 0 _ rfl
  have c_b7_1 := x_b7.c 1 _ rfl
  have f_b7_1 := x_b7.f 1 _ rfl
  have x_c7 : Box w7 (w.heap.size + 1 + 1) [.int .u64 ch, .int .u64 cl] := (by refine Box.below ?_ hb; repeat (first | (with_reducible assumption) | (with_reducible refine Box.drew ?_) | (with_reducible refine Box.drewN ?_ _) | ((with_reducible refine Box.new ?_); simp; done) | (with_reducible apply Box.set2) | (with_reducible refine Box.alloc ?_ _) | (with_reducible refine Box.other ?_ (by first | (dsimp only; omega) | omega) _)))
  have z_c7 := x_c7.lt
  have c_c7_0 := x_c7.c 0 _ rfl
  have f_c7_0 := x_c7.f 0 _ rfl
  have c_c7_1 := x_c7.c 1 _ rfl
  have f_c7_1 := x_c7.f 1 _ rfl
  have x_x7 : Box w7 (w5.heap.size) [.int .u64 xh, .int .u64 xl] := (by refine Box.below ?_ hb; repeat (first | (with_reducible assumption) | (with_reducible refine Box.drew ?_) | (with_reducible refine Box.drewN ?_ _) | ((with_reducible refine Box.new ?_); simp; done) | (with_reducible apply Box.set2) | (with_reducible refine Box.alloc ?_ _) | (with_reducible refine Box.other ?_ (by first | (dsimp only; omega) | omega) _)))
  have z_x7 := x_x7.lt
  have c_x7_0 := x_x7.c 0 _ rfl
  have f_x7_0 := x_x7.f 0 _ rfl
  have c_x7_1 := x_x7.c 1 _ rfl
  have f_x7_1 := x_x7.f 1 _ rfl
  have x_y7 : Box w7 (w6.heap.size) [.int .u64 xh, .int .u64 xl] := (by refine Box.below ?_ hb; repeat (first | (with_reducible assumption) | (with_reducible refine Box.drew ?_) | (with_reducible refine Box.drewN ?_ _) | ((with_reducible refine Box.new ?_); simp; done) | (with_reducible apply Box.set2) | (with_reducible refine Box.alloc ?_ _) | (with_reducible refine Box.other ?_ (by first | (dsimp only; omega) | omega) _)))
  have z_y7 := x_y7.lt
  have c_y7_0 := x_y7.c 0 _ rfl
  have f_y7_0 := x_y7.f 0 _ rfl
  have c_y7_1 := x_y7.c 1 _ rfl
  have f_y7_1 := x_y7.f 1 _ rfl
  clear hb hB6 hs6 x_a6 z_a6 c_a6_0 c_a6_1 f_a6_0 f_a6_1 x_b6 z_b6 c_b6_0 c_b6_1 f_b6_0 f_b6_1 x_c6 z_c6 c_c6_0 c_c6_1 f_c6_0 f_c6_1 x_x6 z_x6 c_x6_0 c_x6_1 f_x6_0 f_x6_1
  go_wp2_with fail
  refine (cmp_ok _ h2 h6 em.out).mono ?_
  rintro e w8 ⟨rfl, hb⟩
  have hB8 : Below w.heap.size w w8 := below_thru (by go_grown) hb
  have hs8 : w.heap.size ≤ w8.heap.size := hB8.size
  have x_a8 : Box w8 (w.heap.size) [.int .u64 ah, .int .u64 al] := (by refine Box.below ?_ hb; repeat (first | (with_reducible assumption) | (with_reducible refine Box.drew ?_) | (with_reducible refine Box.drewN ?_ _) | ((with_reducible refine Box.new ?_); simp; done) | (with_reducible apply Box.set2) | (with_reducible refine Box.alloc ?_ _) | (with_reducible refine Box.other ?_ (by first | (dsimp only; omega) | omega) _)))
  have z_a8 := x_a8.lt
  have c_a8_0 := x_a8.c 0 _ rfl
  have f_a8_0 := x_a8.f 0 _ rfl
  have c_a8_1 := x_a8.c 1 _ rfl
  have f_a8_1 := x_a8.f 1 _ rfl
  have x_b8 : Box w8 (w.heap.size + 1) [.int .u64 ah, .int .u64 al] := (by refine Box.below ?_ hb; repeat (first | (with_reducible assumption) | (with_reducible refine Box.drew ?_) | (with_reducible refine Box.drewN ?_ _) | ((with_reducible refine Box.new ?_); simp; done) | (with_reducible apply Box.set2) | (with_reducible refine Box.alloc ?_ _) | (with_reducible refine Box.other ?_ (by first | (dsimp only; omega) | omega) _)))
  have z_b8 := x_b8.lt
  have c_b8_0 := x_b8.c 0 _ rfl
  have f_b8_0 := x_b8.f 0 _ rfl
  have c_b8_1 := x_b8.c 1 _ rfl
  have f_b8_1 := x_b8.f 1 _ rfl
  have x_c8 : Box w8 (w.heap.size + 1 + 1) [.int .u64 ch, .int .u64 cl] := (by refine Box.below ?_ hb; repeat (first | (with_reducible assumption) | (with_reducible refine Box.drew ?_) | (with_reducible refine Box.drewN ?_ _) | ((with_reducible refine Box.new ?_); simp; done) | (with_reducible apply Box.set2) | (with_reducible refine Box.alloc ?_ _) | (with_reducible refine Box.other ?_ (by first | (dsimp only; omega) | omega) _)))
  have z_c8 := x_c8.lt
  have c_c8_0 := x_c8.c 0 _ rfl
  have f_c8_0 := x_c8.f 0 _ rfl
  have c_c8_1 := x_c8.c 1 _ rfl
  have f_c8_1 := x_c8.f 1 _ rfl
  have x_x8 : Box w8 (w5.heap.size) [.int .u64 xh, .int .u64 xl] := (by refine Box.below ?_ hb; repeat (first | (with_reducible assumption) | (with_reducible refine Box.drew ?_) | (with_reducible refine Box.drewN ?_ _) | ((with_reducible refine Box.new ?_); simp; done) | (with_reducible apply Box.set2) | (with_reducible refine Box.alloc ?_ _) | (with_reducible refine Box.other ?_ (by first | (dsimp only; omega) | omega) _)))
  have z_x8 := x_x8.lt
  have c_x8_0 := x_x8.c 0 _ rfl
  have f_x8_0 := x_x8.f 0 _ rfl
  have c_x8_1 := x_x8.c 1 _ rfl
  have f_x8_1 := x_x8.f 1 _ rfl
  have x_y8 : Box w8 (w6.heap.size) [.int .u64 xh, .int .u64 xl] := (by refine Box.below ?_ hb; repeat (first | (with_reducible assumption) | (with_reducible refine Box.drew ?_) | (with_reducible refine Box.drewN ?_ _) | ((with_reducible refine Box.new ?_); simp; done) | (with_reducible apply Box.set2) | (with_reducible refine Box.alloc ?_ _) | (with_reducible refine Box.other ?_ (by first | (dsimp only; omega) | omega) _)))
  have z_y8 := x_y8.lt
  have c_y8_0 := x_y8.c 0 _ rfl
  have f_y8_0 := x_y8.f 0 _ rfl
  have c_y8_1 := x_y8.c 1 _ rfl
  have f_y8_1 := x_y8.f 1 _ rfl
  clear hb hB7 hs7 x_a7 z_a7 c_a7_0 c_a7_1 f_a7_0 f_a7_1 x_b7 z_b7 c_b7_0 c_b7_1 f_b7_0 f_b7_1 x_c7 z_c7 c_c7_0 c_c7_1 f_c7_0 f_c7_1 x_x7 z_x7 c_x7_0 c_x7_1 f_x7_0 f_x7_1 x_y7 z_y7 c_y7_0 c_y7_1 f_y7_0 f_y7_1
  go_wp2_with fail
  refine (alive_any _).mono ?_
  rintro e w9 ⟨rfl, hb⟩
  have hB9 : Below w.heap.size w w9 := below_thru (by go_grown) hb
  have hs9 : w.heap.size ≤ w9.heap.size := hB9.size
  have x_a9 : Box w9 (w.heap.size) [.int .u64 ah, .int .u64 al] := (by refine Box.below ?_ hb; repeat (first | (with_reducible assumption) | (with_reducible refine Box.drew ?_) | (with_reducible refine Box.drewN ?_ _) | ((with_reducible refine Box.new ?_); simp; done) | (with_reducible apply Box.set2) | (with_reducible refine Box.alloc ?_ _) | (with_reducible refine Box.other ?_ (by first | (dsimp only; omega) | omega) _)))
  have z_a9 := x_a9.lt
  have c_a9_0 := x_a9.c 0 _ rfl
  have f_a9_0 := x_a9.f 0 _ rfl
  have c_a9_1 := x_a9.c 1 _ rfl
  have f_a9_1 := x_a9.f 1 _ rfl
  have x_b9 : Box w9 (w.heap.size + 1) [.int .u64 ah, .int .u64 al] := (by refine Box.below ?_ hb; repeat (first | (with_reducible assumption) | (with_reducible refine Box.drew ?_) | (with_reducible refine Box.drewN ?_ _) | ((with_reducible refine Box.new ?_); simp; done) | (with_reducible apply Box.set2) | (with_reducible refine Box.alloc ?_ _) | (with_reducible refine Box.other ?_ (by first | (dsimp only; omega) | omega) _)))
  have z_b9 := x_b9.lt
  have c_b9_0 := x_b9.c 0 _ rfl
  have f_b9_0 := x_b9.f 0 _ rfl
  have c_b9_1 := x_b9.c 1 _ rfl
  have f_b9_1 := x_b9.f 1 _ rfl
  have x_c9 : Box w9 (w.heap.size + 1 + 1) [.int .u64 ch, .int .u64 cl] := (by refine Box.below ?_ hb; repeat (first | (with_reducible assumption) | (with_reducible refine Box.drew ?_) | (with_reducible refine Box.drewN ?_ _) | ((with_reducible refine Box.new ?_); simp; done) | (with_reducible apply Box.set2) | (with_reducible refine Box.alloc ?_ _) | (with_reducible refine Box.other ?_ (by first | (dsimp only; omega) | omega) _)))
  have z_c9 := x_c9.lt
  have c_c9_0 := x_c9.c 0 _ rfl
  have f_c9_0 := x_c9.f 0 _ rfl
  have c_c9_1 := x_c9.c 1 _ rfl
  have f_c9_1 := x_c9.f 1 _ rfl
  have x_x9 : Box w9 (w5.heap.size) [.int .u64 xh, .int .u64 xl] := (by refine Box.below ?_ hb; repeat (first | (with_reducible assumption) | (with_reducible refine Box.drew ?_) | (with_reducible refine Box.drewN ?_ _) | ((with_reducible refine Box.new ?_); simp; done) | (with_reducible apply Box.set2) | (with_reducible refine Box.alloc ?_ _) | (with_reducible refine Box.other ?_ (by first | (dsimp only; omega) | omega) _)))
  have z_x9 := x_x9.lt
  have c_x9_0 := x_x9.c 0 _ rfl
  have f_x9_0 := x_x9.f 0 _ rfl
  have c_x9_1 := x_x9.c 1 _ rfl
  have f_x9_1 := x_x9.f 1 _ rfl
  have x_y9 : Box w9 (w6.heap.size) [.int .u64 xh, .int .u64 xl] := (by refine Box.below ?_ hb; repeat (first | (with_reducible assumption) | (with_reducible refine Box.drew ?_) | (with_reducible refine Box.drewN ?_ _) | ((with_reducible refine Box.new ?_); simp; done) | (with_reducible apply Box.set2) | (with_reducible refine Box.alloc ?_ _) | (with_reducible refine Box.other ?_ (by first | (dsimp only; omega) | omega) _)))
  have z_y9 := x_y9.lt
  have c_y9_0 := x_y9.c 0 _ rfl
  have f_y9_0 := x_y9.f 0 _ rfl
  have c_y9_1 := x_y9.c 1 _ rfl
  have f_y9_1 := x_y9.f 1 _ rfl
  clear hb hB8 hs8 x_a8 z_a8 c_a8_0 c_a8_1 f_a8_0 f_a8_1 x_b8 z_b8 c_b8_0 c_b8_1 f_b8_0 f_b8_1 x_c8 z_c8 c_c8_0 c_c8_1 f_c8_0 f_c8_1 x_x8 z_x8 c_x8_0 c_x8_1 f_x8_0 f_x8_1 x_y8 z_y8 c_y8_0 c_y8_1 f_y8_0 f_y8_1
  go_wp2
  go_returns
  refine ⟨rfl, ?_⟩
  go_grown

set_option maxRecDepth 100000 in
set_option maxHeartbeats 3200000 in
theorem less_eq_11_0 (ah al ch cl dh dl xh xl : Int) (w : World) (h1 : isU ah) (h2 : isU al) (h5 : isU ch) (h6 : isU cl) (en : Hid (cmpI (wN ah al) (wN ah al) = 0)) (en' : Hid (cmpI (wN ah al) (wN ah al) = 0)) (g1 : isU dh) (g2 : isU dl) (ed : Hid (wN ah al - wN ah al = wN dh dl)) (ed' : Hid (wN dh dl + wN ah al = wN ah al)) (g3 : isU xh) (g4 : isU xl) (ex : Hid (wN ah al + wN ch cl = wN xh xl)) (exy : Hid (cmpI (wN xh xl) (wN xh xl) = 0)) (m : Int) (em : Hid (cmpI (wN ah al) (wN ch cl) = m)) (em0 : decide (m > 0) = false) (k : Int) (ek : Hid (cmpI (wN ah al) (wN ch cl) = k)) (ek0 : decide (k ≤ 0) = true) :
    lessCall ah al ah al ch cl w := by
  unfold lessCall
  have hq := fun w => eqW_run ah al ah al w
  have hwe : wEq ah al ah al = true := by simp [wEq]
  go_enter Try.func8, Try.ntmps8
  go_wp2_with fail
  refine (cmp_ok _ h2 h2 en.out).mono ?_
  rintro e w1 ⟨rfl, hb⟩
  have hB1 : Below w.heap.size w w1 := below_thru (by go_grown) hb
  have hs1 : w.heap.size ≤ w1.heap.size := hB1.size
  have x_a1 : Box w1 (w.heap.size) [.int .u64 ah, .int .u64 al] := (by refine Box.below ?_ hb; repeat (first | (with_reducible assumption) | (with_reducible refine Box.drew ?_) | (with_reducible refine Box.drewN ?_ _) | ((with_reducible refine Box.new ?_); simp; done) | (with_reducible apply Box.set2) | (with_reducible refine Box.alloc ?_ _) | (with_reducible refine Box.other ?_ (by first | (dsimp only; omega) | omega) _)))
  have z_a1 := x_a1.lt
  have c_a1_0 := x_a1.c 0 _ rfl
  have f_a1_0 := x_a1.f 0 _ rfl
  have c_a1_1 := x_a1.c 1 _ rfl
  have f_a1_1 := x_a1.f 1 _ rfl
  have x_b1 : Box w1 (w.heap.size + 1) [.int .u64 ah, .int .u64 al] := (by refine Box.below ?_ hb; repeat (first | (with_reducible assumption) | (with_reducible refine Box.drew ?_) | (with_reducible refine Box.drewN ?_ _) | ((with_reducible refine Box.new ?_); simp; done) | (with_reducible apply Box.set2) | (with_reducible refine Box.alloc ?_ _) | (with_reducible refine Box.other ?_ (by first | (dsimp only; omega) | omega) _)))
  have z_b1 := x_b1.lt
  have c_b1_0 := x_b1.c 0 _ rfl
  have f_b1_0 := x_b1.f 0 _ rfl
  have c_b1_1 := x_b1.c 1 _ rfl
  have f_b1_1 := x_b1.f 1 _ rfl
  have x_c1 : Box w1 (w.heap.size + 1 + 1) [.int .u64 ch, .int .u64 cl] := (by refine Box.below ?_ hb; repeat (first | (with_reducible assumption) | (with_reducible refine Box.drew ?_) | (with_reducible refine Box.drewN ?_ _) | ((with_reducible refine Box.new ?_); simp; done) | (with_reducible apply Box.set2) | (with_reducible refine Box.alloc ?_ _) | (with_reducible refine Box.other ?_ (by first | (dsimp only; omega) | omega) _)))
  have z_c1 := x_c1.lt
  have c_c1_0 := x_c1.c 0 _ rfl
  have f_c1_0 := x_c1.f 0 _ rfl
  have c_c1_1 := x_c1.c 1 _ rfl
  have f_c1_1 := x_c1.f 1 _ rfl
  clear hb
  go_wp2_with fail
  refine (sub_ok _ h1 h2 h1 h2 g1 g2 ed.out).mono ?_
  rintro e w2 ⟨rfl, hb⟩
  have hB2 : Below w.heap.size w w2 := below_thru (by go_grown) hb
  have hs2 : w.heap.size ≤ w2.heap.size := hB2.size
  have x_a2 : Box w2 (w.heap.size) [.int .u64 ah, .int .u64 al] := (by refine Box.below ?_ hb; repeat (first | (with_reducible assumption) | (with_reducible refine Box.drew ?_) | (with_reducible refine Box.drewN ?_ _) | ((with_reducible refine Box.new ?_); simp; done) | (with_reducible apply Box.set2) | (with_reducible refine Box.alloc ?_ _) | (with_reducible refine Box.other ?_ (by first | (dsimp only; omega) | omega) _)))
  have z_a2 := x_a2.lt
  have c_a2_0 := x_a2.c 0 _ rfl
  have f_a2_0 := x_a2.f 0 _ rfl
  have c_a2_1 := x_a2.c 1 _ rfl
  have f_a2_1 := x_a2.f 1 _ rfl
  have x_b2 : Box w2 (w.heap.size + 1) [.int .u64 ah, .int .u64 al] := (by refine Box.below ?_ hb; repeat (first | (with_reducible assumption) | (with_reducible refine Box.drew ?_) | (with_reducible refine Box.drewN ?_ _) | ((with_reducible refine Box.new ?_); simp; done) | (with_reducible apply Box.set2) | (with_reducible refine Box.alloc ?_ _) | (with_reducible refine Box.other ?_ (by first | (dsimp only; omega) | omega) _)))
  have z_b2 := x_b2.lt
  have c_b2_0 := x_b2.c 0 _ rfl
  have f_b2_0 := x_b2.f 0 _ rfl
  have c_b2_1 := x_b2.c 1 _ rfl
  have f_b2_1 := x_b2.f 1 _ rfl
  have x_c2 : Box w2 (w.heap.size + 1 + 1) [.int .u64 ch, .int .u64 cl] := (by refine Box.below ?_ hb; repeat (first | (with_reducible assumption) | (with_reducible refine Box.drew ?_) | (with_reducible refine Box.drewN ?_ _) | ((with_reducible refine Box.new ?_); simp; done) | (with_reducible apply Box.set2) | (with_reducible refine Box.alloc ?_ _) | (with_reducible refine Box.other ?_ (by first | (dsimp only; omega) | omega) _)))
  have z_c2 := x_c2.lt
  have c_c2_0 := x_c2.c 0 _ rfl
  have f_c2_0 := x_c2.f 0 _ rfl
  have c_c2_1 := x_c2.c 1 _ rfl
  have f_c2_1 := x_c2.f 1 _ rfl
  clear hb hB1 hs1 x_a1 z_a1 c_a1_0 c_a1_1 f_a1_0 f_a1_1 x_b1 z_b1 c_b1_0 c_b1_1 f_b1_0 f_b1_1 x_c1 z_c1 c_c1_0 c_c1_1 f_c1_0 f_c1_1
  go_wp2_with fail
  refine (cmp_ok _ h2 h2 en'.out).mono ?_
  rintro e w3 ⟨rfl, hb⟩
  have hB3 : Below w.heap.size w w3 := below_thru (by go_grown) hb
  have hs3 : w.heap.size ≤ w3.heap.size := hB3.size
  have x_a3 : Box w3 (w.heap.size) [.int .u64 ah, .int .u64 al] := (by refine Box.below ?_ hb; repeat (first | (with_reducible assumption) | (with_reducible refine Box.drew ?_) | (with_reducible refine Box.drewN ?_ _) | ((with_reducible refine Box.new ?_); simp; done) | (with_reducible apply Box.set2) | (with_reducible refine Box.alloc ?_ _) | (with_reducible refine Box.other ?_ (by first | (dsimp only; omega) | omega) _)))
  have z_a3 := x_a3.lt
  have c_a3_0 := x_a3.c 0 _ rfl
  have f_a3_0 := x_a3.f 0 _ rfl
  have c_a3_1 := x_a3.c 1 _ rfl
  have f_a3_1 := x_a3.f 1 _ rfl
  have x_b3 : Box w3 (w.heap.size + 1) [.int .u64 ah, .int .u64 al] := (by refine Box.below ?_ hb; repeat (first | (with_reducible assumption) | (with_reducible refine Box.drew ?_) | (with_reducible refine Box.drewN ?_ _) | ((with_reducible refine Box.new ?_); simp; done) | (with_reducible apply Box.set2) | (with_reducible refine Box.alloc ?_ _) | (with_reducible refine Box.other ?_ (by first | (dsimp only; omega) | omega) _)))
  have z_b3 := x_b3.lt
  have c_b3_0 := x_b3.c 0 _ rfl
  have f_b3_0 := x_b3.f 0 _ rfl
  have c_b3_1 := x_b3.c 1 _ rfl
  have f_b3_1 := x_b3.f 1 _ rfl
  have x_c3 : Box w3 (w.heap.size + 1 + 1) [.int .u64 ch, .int .u64 cl] := (by refine Box.below ?_ hb; repeat (first | (with_reducible assumption) | (with_reducible refine Box.drew ?_) | (with_reducible refine Box.drewN ?_ _) | ((with_reducible refine Box.new ?_); simp; done) | (with_reducible apply Box.set2) | (with_reducible refine Box.alloc ?_ _) | (with_reducible refine Box.other ?_ (by first | (dsimp only; omega) | omega) _)))
  have z_c3 := x_c3.lt
  have c_c3_0 := x_c3.c 0 _ rfl
  have f_c3_0 := x_c3.f 0 _ rfl
  have c_c3_1 := x_c3.c 1 _ rfl
  have f_c3_1 := x_c3.f 1 _ rfl
  have x_d3 : Box w3 (w2.heap.size) [.int .u64 dh, .int .u64 dl] := (by refine Box.below ?_ hb; repeat (first | (with_reducible assumption) | (with_reducible refine Box.drew ?_) | (with_reducible refine Box.drewN ?_ _) | ((with_reducible refine Box.new ?_); simp; done) | (with_reducible apply Box.set2) | (with_reducible refine Box.alloc ?_ _) | (with_reducible refine Box.other ?_ (by first | (dsimp only; omega) | omega) _)))
  have z_d3 := x_d3.lt
  have c_d3_0 := x_d3.c 0 _ rfl
  have f_d3_0 := x_d3.f 0 _ rfl
  have c_d3_1 := x_d3.c 1 _ rfl
  have f_d3_1 := x_d3.f 1 _ rfl
  clear hb hB2 hs2 x_a2 z_a2 c_a2_0 c_a2_1 f_a2_0 f_a2_1 x_b2 z_b2 c_b2_0 c_b2_1 f_b2_0 f_b2_1 x_c2 z_c2 c_c2_0 c_c2_1 f_c2_0 f_c2_1
  go_wp2_with fail
  refine (add_ok _ g1 g2 h1 h2 h1 h2 ed'.out).mono ?_
  rintro e w4 ⟨rfl, hb⟩
  have hB4 : Below w.heap.size w w4 := below_thru (by go_grown) hb
  have hs4 : w.heap.size ≤ w4.heap.size := hB4.size
  have x_a4 : Box w4 (w.heap.size) [.int .u64 ah, .int .u64 al] := (by refine Box.below ?_ hb; repeat (first | (with_reducible assumption) | (with_reducible refine Box.drew ?_) | (with_reducible refine Box.drewN ?_ _) | ((with_reducible refine Box.new ?_); simp; done) | (with_reducible apply Box.set2) | (with_reducible refine Box.alloc ?_ _) | (with_reducible refine Box.other ?_ (by first | (dsimp only; omega) | omega) _)))
  have z_a4 := x_a4.lt
  have c_a4_0 := x_a4.c 0 _ rfl
  have f_a4_0 := x_a4.f 0 _ rfl
  have c_a4_1 := x_a4.c 1 _ rfl
  have f_a4_1 := x_a4.f 1 _ rfl
  have x_b4 : Box w4 (w.heap.size + 1) [.int .u64 ah, .int .u64 al] := (by refine Box.below ?_ hb; repeat (first | (with_reducible assumption) | (with_reducible refine Box.drew ?_) | (with_reducible refine Box.drewN ?_ _) | ((with_reducible refine Box.new ?_); simp; done) | (with_reducible apply Box.set2) | (with_reducible refine Box.alloc ?_ _) | (with_reducible refine Box.other ?_ (by first | (dsimp only; omega) | omega) _)))
  have z_b4 := x_b4.lt
  have c_b4_0 := x_b4.c 0 _ rfl
  have f_b4_0 := x_b4.f 0 _ rfl
  have c_b4_1 := x_b4.c 1 _ rfl
  have f_b4_1 := x_b4.f 1 _ rfl
  have x_c4 : Box w4 (w.heap.size + 1 + 1) [.int .u64 ch, .int .u64 cl] := (by refine Box.below ?_ hb; repeat (first | (with_reducible assumption) | (with_reducible refine Box.drew ?_) | (with_reducible refine Box.drewN ?_ _) | ((with_reducible refine Box.new ?_); simp; done) | (with_reducible apply Box.set2) | (with_reducible refine Box.alloc ?_ _) | (with_reducible refine Box.other ?_ (by first | (dsimp only; omega) | omega) _)))
  have z_c4 := x_c4.lt
  have c_c4_0 := x_c4.c 0 _ rfl
  have f_c4_0 := x_c4.f 0 _ rfl
  have c_c4_1 := x_c4.c 1 _ rfl
  have f_c4_1 := x_c4.f 1 _ rfl
  have x_d4 : Box w4 (w2.heap.size) [.int .u64 dh, .int .u64 dl] := (by refine Box.below ?_ hb; repeat (first | (with_reducible assumption) | (with_reducible refine Box.drew ?_) | (with_reducible refine Box.drewN ?_ _) | ((with_reducible refine Box.new ?_); simp; done) | (with_reducible apply Box.set2) | (with_reducible refine Box.alloc ?_ _) | (with_reducible refine Box.other ?_ (by first | (dsimp only; omega) | omega) _)))
  have z_d4 := x_d4.lt
  have c_d4_0 := x_d4.c 0 _ rfl
  have f_d4_0 := x_d4.f 0 _ rfl
  have c_d4_1 := x_d4.c 1 _ rfl
  have f_d4_1 := x_d4.f 1 _ rfl
  clear hb hB3 hs3 x_a3 z_a3 c_a3_0 c_a3_1 f_a3_0 f_a3_1 x_b3 z_b3 c_b3_0 c_b3_1 f_b3_0 f_b3_1 x_c3 z_c3 c_c3_0 c_c3_1 f_c3_0 f_c3_1 x_d3 z_d3 c_d3_0 c_d3_1 f_d3_0 f_d3_1
  go_wp2_with fail
  refine (add_ok _ h1 h2 h5 h6 g3 g4 ex.out).mono ?_
  rintro e w5 ⟨rfl, hb⟩
  have hB5 : Below w.heap.size w w5 := below_thru (by go_grown) hb
  have hs5 : w.heap.size ≤ w5.heap.size := hB5.size
  have x_a5 : Box w5 (w.heap.size) [.int .u64 ah, .int .u64 al] := (by refine Box.below ?_ hb; repeat (first | (with_reducible assumption) | (with_reducible refine Box.drew ?_) | (with_reducible refine Box.drewN ?_ _) | ((with_reducible refine Box.new ?_); simp; done) | (with_reducible apply Box.set2) | (with_reducible refine Box.alloc ?_ _) | (with_reducible refine Box.other ?_ (by first | (dsimp only; omega) | omega) _)))
  have z_a5 := x_a5.lt
  have c_a5_0 := x_a5.c 0 _ rfl
  have f_a5_0 := x_a5.f 0 _ rfl
  have c_a5_1 := x_a5.c 1 _ rfl
  have f_a5_1 := x_a5.f 1 _ rfl
  have x_b5 : Box w5 (w.heap.size + 1) [.int .u64 ah, .int .u64 al] := (by refine Box.below ?_ hb; repeat (first | (with_reducible assumption) | (with_reducible refine Box.drew ?_) | (with_reducible refine Box.drewN ?_ _) | ((with_reducible refine Box.new ?_); simp; done) | (with_reducible apply Box.set2) | (with_reducible refine Box.alloc ?_ _) | (with_reducible refine Box.other ?_ (by first | (dsimp only; omega) | omega) _)))
  have z_b5 := x_b5.lt
  have c_b5_0 := x_b5.c 0 _ rfl
  have f_b5_0 := x_b5.f 0 _ rfl
  have c_b5_1 := x_b5.c 1 _ rfl
  have f_b5_1 := x_b5.f 1 _ rfl
  have x_c5 : Box w5 (w.heap.size + 1 + 1) [.int .u64 ch, .int .u64 cl] := (by refine Box.below ?_ hb; repeat (first | (with_reducible assumption) | (with_reducible refine Box.drew ?_) | (with_reducible refine Box.drewN ?_ _) | ((with_reducible refine Box.new ?_); simp; done) | (with_reducible apply Box.set2) | (with_reducible refine Box.alloc ?_ _) | (with_reducible refine Box.other ?_ (by first | (dsimp only; omega) | omega) _)))
  have z_c5 := x_c5.lt
  have c_c5_0 := x_c5.c 0 _ rfl
  have f_c5_0 := x_c5.f 0 _ rfl
  have c_c5_1 := x_c5.c 1 _ rfl
  have f_c5_1 := x_c5.f 1 _ rfl
  have x_d5 : Box w5 (w2.heap.size) [.int .u64 dh, .int .u64 dl] := (by refine Box.below ?_ hb; repeat (first | (with_reducible assumption) | (with_reducible refine Box.drew ?_) | (with_reducible refine Box.drewN ?_ _) | ((with_reducible refine Box.new ?_); simp; done) | (with_reducible apply Box.set2) | (with_reducible refine Box.alloc ?_ _) | (with_reducible refine Box.other ?_ (by first | (dsimp only; omega) | omega) _)))
  have z_d5 := x_d5.lt
  have c_d5_0 := x_d5.c 0 _ rfl
  have f_d5_0 := x_d5.f 0 _ rfl
  have c_d5_1 := x_d5.c 1 _ rfl
  have f_d5_1 := x_d5.f 1 _ rfl
  have x_k5 : Box w5 (w4.heap.size) [.int .u64 ah, .int .u64 al] := (by refine Box.below ?_ hb; repeat (first | (with_reducible assumption) | (with_reducible refine Box.drew ?_) | (with_reducible refine Box.drewN ?_ _) | ((with_reducible refine Box.new ?_); simp; done) | (with_reducible apply Box.set2) | (with_reducible refine Box.alloc ?_ _) | (with_reducible refine Box.other ?_ (by first | (dsimp only; omega) | omega) _)))
  have z_k5 := x_k5.lt
  have c_k5_0 := x_k5.c 0 _ rfl
  have f_k5_0 := x_k5.f 0 _ rfl
  have c_k5_1 := x_k5.c 1 _ rfl
  have f_k5_1 := x_k5.f 1 _ rfl
  clear hb hB4 hs4 x_a4 z_a4 c_a4_0 c_a4_1 f_a4_0 f_a4_1 x_b4 z_b4 c_b4_0 c_b4_1 f_b4_0 f_b4_1 x_c4 z_c4 c_c4_0 c_c4_1 f_c4_0 f_c4_1 x_d4 z_d4 c_d4_0 c_d4_1 f_d4_0 f_d4_1
  clear x_d5 z_d5 c_d5_0 c_d5_1 f_d5_0 f_d5_1
  clear x_k5 z_k5 c_k5_0 c_k5_1 f_k5_0 f_k5_1
  go_wp2_with fail
  refine (add_ok _ h1 h2 h5 h6 g3 g4 ex.out).mono ?_
  rintro e w6 ⟨rfl, hb⟩
  have hB6 : Below w.heap.size w w6 := below_thru (by go_grown) hb
  have hs6 : w.heap.size ≤ w6.heap.size := hB6.size
  have x_a6 : Box w6 (w.heap.size) [.int .u64 ah, .int .u64 al] := (by refine Box.below ?_ hb; repeat (first | (with_reducible assumption) | (with_reducible refine Box.drew ?_) | (with_reducible refine Box.drewN ?_ _) | ((with_reducible refine Box.new ?_); simp; done) | (with_reducible apply Box.set2) | (with_reducible refine Box.alloc ?_ _) | (with_reducible refine Box.other ?_ (by first | (dsimp only; omega) | omega) _)))
  have z_a6 := x_a6.lt
  have c_a6_0 := x_a6.c 0 _ rfl
  have f_a6_0 := x_a6.f 0 _ rfl
  have c_a6_1 := x_a6.c 1 _ rfl
  have f_a6_1 := x_a6.f 1 _ rfl
  have x_b6 : Box w6 (w.heap.size + 1) [.int .u64 ah, .int .u64 al] := (by refine Box.below ?_ hb; repeat (first | (with_reducible assumption) | (with_reducible refine Box.drew ?_) | (with_reducible refine Box.drewN ?_ _) | ((with_reducible refine Box.new ?_); simp; done) | (with_reducible apply Box.set2) | (with_reducible refine Box.alloc ?_ _) | (with_reducible refine Box.other ?_ (by first | (dsimp only; omega) | omega) _)))
  have z_b6 := x_b6.lt
  have c_b6_0 := x_b6.c 0 _ rfl
  have f_b6_0 := x_b6.f 0 _ rfl
  have c_b6_1 := x_b6.c 1 _ rfl
  have f_b6_1 := x_b6.f 1 _ rfl
  have x_c6 : Box w6 (w.heap.size + 1 + 1) [.int .u64 ch, .int .u64 cl] := (by refine Box.below ?_ hb; repeat (first | (with_reducible assumption) | (with_reducible refine Box.drew ?_) | (with_reducible refine Box.drewN ?_ _) | ((with_reducible refine Box.new ?_); simp; done) | (with_reducible apply Box.set2) | (with_reducible refine Box.alloc ?_ _) | (with_reducible refine Box.other ?_ (by first | (dsimp only; omega) | omega) _)))
  have z_c6 := x_c6.lt
  have c_c6_0 := x_c6.c 0 _ rfl
  have f_c6_0 := x_c6.f 0 _ rfl
  have c_c6_1 := x_c6.c 1 _ rfl
  have f_c6_1 := x_c6.f 1 _ rfl
  have x_x6 : Box w6 (w5.heap.size) [.int .u64 xh, .int .u64 xl] := (by refine Box.below ?_ hb; repeat (first | (with_reducible assumption) | (with_reducible refine Box.drew ?_) | (with_reducible refine Box.drewN ?_ _) | ((with_reducible refine Box.new ?_); simp; done) | (with_reducible apply Box.set2) | (with_reducible refine Box.alloc ?_ _) | (with_reducible refine Box.other ?_ (by first | (dsimp only; omega) | omega) _)))
  have z_x6 := x_x6.lt
  have c_x6_0 := x_x6.c 0 _ rfl
  have f_x6_0 := x_x6.f 0 _ rfl
  have c_x6_1 := x_x6.c 1 _ rfl
  have f_x6_1 := x_x6.f 1 _ rfl
  clear hb hB5 hs5 x_a5 z_a5 c_a5_0 c_a5_1 f_a5_0 f_a5_1 x_b5 z_b5 c_b5_0 c_b5_1 f_b5_0 f_b5_1 x_c5 z_c5 c_c5_0 c_c5_1 f_c5_0 f_c5_1
  go_wp2_with fail
  refine (cmp_ok _ g4 g4 exy.out).mono ?_
  rintro e w7 ⟨rfl, hb⟩
  have hB7 : Below w.heap.size w w7 := below_thru (by go_grown) hb
  have hs7 : w.heap.size ≤ w7.heap.size := hB7.size
  have x_a7 : Box w7 (w.heap.size) [.int .u64 ah, .int .u64 al] := (by refine Box.below ?_ hb; repeat (first | (with_reducible assumption) | (with_reducible refine Box.drew ?_) | (with_reducible refine Box.drewN ?_ _) | ((with_reducible refine Box.new ?_); simp; done) | (with_reducible apply Box.set2) | (with_reducible refine Box.alloc ?_ _) | (with_reducible refine Box.other ?_ (by first | (dsimp only; omega) | omega) _)))
  have z_a7 := x_a7.lt
  have c_a7_0 := x_a7.c 0 _ rfl
  have f_a7_0 := x_a7.f 0 _ rfl
  have c_a7_1 := x_a7.c 1 _ rfl
  have f_a7_1 := x_a7.f 1 _ rfl
  have x_b7 : Box w7 (w.heap.size + 1) [.int .u64 ah, .int .u64 al] := (by refine Box.below ?_ hb; repeat (first | (with_reducible assumption) | (with_reducible refine Box.drew ?_) | (with_reducible refine Box.drewN ?_ _) | ((with_reducible refine Box.new ?_); simp; done) | (with_reducible apply Box.set2) | (with_reducible refine Box.alloc ?_ _) | (with_reducible refine Box.other ?_ (by first | (dsimp only; omega) | omega) _)))
  have z_b7 := x_b7.lt
  have c_b7_0 := x_b7.c 0 _ rfl
  have f_b7_0 := x_b7.f 0 _ rfl
  have c_b7_1 := x_b7.c 1 _ rfl
  have f_b7_1 := x_b7.f 1 _ rfl
  have x_c7 : Box w7 (w.heap.size + 1 + 1) [.int .u64 ch, .int .u64 cl] := (by refine Box.below ?_ hb; repeat (first | (with_reducible assumption) | (with_reducible refine Box.drew ?_) | (with_reducible refine Box.drewN ?_ _) | ((with_reducible refine Box.new ?_); simp; done) | (with_reducible apply Box.set2) | (with_reducible refine Box.alloc ?_ _) | (with_reducible refine Box.other ?_ (by first | (dsimp only; omega) | omega) _)))
  have z_c7 := x_c7.lt
  have c_c7_0 := x_c7.c 0 _ rfl
  have f_c7_0 := x_c7.f 0 _ rfl
  have c_c7_1 := x_c7.c 1 _ rfl
  have f_c7_1 := x_c7.f 1 _ rfl
  have x_x7 : Box w7 (w5.heap.size) [.int .u64 xh, .int .u64 xl] := (by refine Box.below ?_ hb; repeat (first | (with_reducible assumption) | (with_reducible refine Box.drew ?_) | (with_reducible refine Box.drewN ?_ _) | ((with_reducible refine Box.new ?_); simp; done) | (with_reducible apply Box.set2) | (with_reducible refine Box.alloc ?_ _) | (with_reducible refine Box.other ?_ (by first | (dsimp only; omega) | omega) _)))
  have z_x7 := x_x7.lt
  have c_x7_0 := x_x7.c 0 _ rfl
  have f_x7_0 := x_x7.f 0 _ rfl
  have c_x7_1 := x_x7.c 1 _ rfl
  have f_x7_1 := x_x7.f 1 _ rfl
  have x_y7 : Box w7 (w6.heap.size) [.int .u64 xh, .int .u64 xl] := (by refine Box.below ?_ hb; repeat (first | (with_reducible assumption) | (with_reducible refine Box.drew ?_) | (with_reducible refine Box.drewN ?_ _) | ((with_reducible refine Box.new ?_); simp; done) | (with_reducible apply Box.set2) | (with_reducible refine Box.alloc ?_ _) | (with_reducible refine Box.other ?_ (by first | (dsimp only; omega) | omega) _)))
  have z_y7 := x_y7.lt
  have c_y7_0 := x_y7.c 0 _ rfl
  have f_y7_0 := x_y7.f 0 _ rfl
  have c_y7_1 := x_y7.c 1 _ rfl
  have f_y7_1 := x_y7.f 1 _ rfl
  clear hb hB6 hs6 x_a6 z_a6 c_a6_0 c_a6_1 f_a6_0 f_a6_1 x_b6 z_b6 c_b6_0 c_b6_1 f_b6_0 f_b6_1 x_c6 z_c6 c_c6_0 c_c6_1 f_c6_0 f_c6_1 x_x6 z_x6 c_x6_0 c_x6_1 f_x6_0 f_x6_1
  go_wp2_with fail
  refine (cmp_ok _ h2 h6 em.out).mono ?_
  rintro e w8 ⟨rfl, hb⟩
  have hB8 : Below w.heap.size w w8 := below_thru (by go_grown) hb
  have hs8 : w.heap.size ≤ w8.heap.size := hB8.size
  have x_a8 : Box w8 (w.heap.size) [.int .u64 ah, .int .u64 al] := (by refine Box.below ?_ hb; repeat (first | (with_reducible assumption) | (with_reducible refine Box.drew ?_) | (with_reducible refine Box.drewN ?_ _) | ((with_reducible refine Box.new ?_); simp; done) | (with_reducible apply Box.set2) | (with_reducible refine Box.alloc ?_ _) | (with_reducible refine Box.other ?_ (by first | (dsimp only; omega) | omega) _)))
  have z_a8 := x_a8.lt
  have c_a8_0 := x_a8.c 0 _ rfl
  have f_a8_0 := x_a8.f 0 _ rfl
  have c_a8_1 := x_a8.c 1 _ rfl
  have f_a8_1 := x_a8.f 1 _ rfl
  have x_b8 : Box w8 (w.heap.size + 1) [.int .u64 ah, .int .u64 al] := (by refine Box.below ?_ hb; repeat (first | (with_reducible assumption) | (with_reducible refine Box.drew ?_) | (with_reducible refine Box.drewN ?_ _) | ((with_reducible refine Box.new ?_); simp; done) | (with_reducible apply Box.set2) | (with_reducible refine Box.alloc ?_ _) | (with_reducible refine Box.other ?_ (by first | (dsimp only; omega) | omega) _)))
  have z_b8 := x_b8.lt
  have c_b8_0 := x_b8.c 0 _ rfl
  have f_b8_0 := x_b8.f 0 _ rfl
  have c_b8_1 := x_b8.c 1 _ rfl
  have f_b8_1 := x_b8.f 1 _ rfl
  have x_c8 : Box w8 (w.heap.size + 1 + 1) [.int .u64 ch, .int .u64 cl] := (by refine Box.below ?_ hb; repeat (first | (with_reducible assumption) | (with_reducible refine Box.drew ?_) | (with_reducible refine Box.drewN ?_ _) | ((with_reducible refine Box.new ?_); simp; done) | (with_reducible apply Box.set2) | (with_reducible refine Box.alloc ?_ _) | (with_reducible refine Box.other ?_ (by first | (dsimp only; omega) | omega) _)))
  have z_c8 := x_c8.lt
  have c_c8_0 := x_c8.c 0 _ rfl
  have f_c8_0 := x_c8.f 0 _ rfl
  have c_c8_1 := x_c8.c 1 _ rfl
  have f_c8_1 := x_c8.f 1 _ rfl
  have x_x8 : Box w8 (w5.heap.size) [.int .u64 xh, .int .u64 xl] := (by refine Box.below ?_ hb; repeat (first | (with_reducible assumption) | (with_reducible refine Box.drew ?_) | (with_reducible refine Box.drewN ?_ _) | ((with_reducible refine Box.new ?_); simp; done) | (with_reducible apply Box.set2) | (with_reducible refine Box.alloc ?_ _) | (with_reducible refine Box.other ?_ (by first | (dsimp only; omega) | omega) _)))
  have z_x8 := x_x8.lt
  have c_x8_0 := x_x8.c 0 _ rfl
  have f_x8_0 := x_x8.f 0 _ rfl
  have c_x8_1 := x_x8.c 1 _ rfl
  have f_x8_1 := x_x8.f 1 _ rfl
  have x_y8 : Box w8 (w6.heap.size) [.int .u64 xh, .int .u64 xl] := (by refine Box.below ?_ hb; repeat (first | (with_reducible assumption) | (with_reducible refine Box.drew ?_) | (with_reducible refine Box.drewN ?_ _) | ((with_reducible refine Box.new ?_); simp; done) | (with_reducible apply Box.set2) | (with_reducible refine Box.alloc ?_ _) | (with_reducible refine Box.other ?_ (by first | (dsimp only; omega) | omega) _)))
  have z_y8 := x_y8.lt
  have c_y8_0 := x_y8.c 0 _ rfl
  have f_y8_0 := x_y8.f 0 _ rfl
  have c_y8_1 := x_y8.c 1 _ rfl
  have f_y8_1 := x_y8.f 1 _ rfl
  clear hb hB7 hs7 x_a7 z_a7 c_a7_0 c_a7_1 f_a7_0 f_a7_1 x_b7 z_b7 c_b7_0 c_b7_1 f_b7_0 f_b7_1 x_c7 z_c7 c_c7_0 c_c7_1 f_c7_0 f_c7_1 x_x7 z_x7 c_x7_0 c_x7_1 f_x7_0 f_x7_1 x_y7 z_y7 c_y7_0 c_y7_1 f_y7_0 f_y7_1
  go_wp2_with fail
  refine (cmp_ok _ h2 h6 ek.out).mono ?_
  rintro e w9 ⟨rfl, hb⟩
  have hB9 : Below w.heap.size w w9 := below_thru (by go_grown) hb
  have hs9 : w.heap.size ≤ w9.heap.size := hB9.size
  have x_a9 : Box w9 (w.heap.size) [.int .u64 ah, .int .u64 al] := (by refine Box.below ?_ hb; repeat (first | (with_reducible assumption) | (with_reducible refine Box.drew ?_) | (with_reducible refine Box.drewN ?_ _) | ((with_reducible refine Box.new ?_); simp; done) | (with_reducible apply Box.set2) | (with_reducible refine Box.alloc ?_ _) | (with_reducible refine Box.other ?_ (by first | (dsimp only; omega) | omega) _)))
  have z_a9 := x_a9.lt
  have c_a9_0 := x_a9.c 0 _ rfl
  have f_a9_0 := x_a9.f 0 _ rfl
  have c_a9_1 := x_a9.c 1 _ rfl
  have f_a9_1 := x_a9.f 1 _ rfl
  have x_b9 : Box w9 (w.heap.size + 1) [.int .u64 ah, .int .u64 al] := (by refine Box.below ?_ hb; repeat (first | (with_reducible assumption) | (with_reducible refine Box.drew ?_) | (with_reducible refine Box.drewN ?_ _) | ((with_reducible refine Box.new ?_); simp; done) | (with_reducible apply Box.set2) | (with_reducible refine Box.alloc ?_ _) | (with_reducible refine Box.other ?_ (by first | (dsimp only; omega) | omega) _)))
  have z_b9 := x_b9.lt
  have c_b9_0 := x_b9.c 0 _ rfl
  have f_b9_0 := x_b9.f 0 _ rfl
  have c_b9_1 := x_b9.c 1 _ rfl
  have f_b9_1 := x_b9.f 1 _ rfl
  have x_c9 : Box w9 (w.heap.size + 1 + 1) [.int .u64 ch, .int .u64 cl] := (by refine Box.below ?_ hb; repeat (first | (with_reducible assumption) | (with_reducible refine Box.drew ?_) | (with_reducible refine Box.drewN ?_ _) | ((with_reducible refine Box.new ?_); simp; done) | (with_reducible apply Box.set2) | (with_reducible refine Box.alloc ?_ _) | (with_reducible refine Box.other ?_ (by first | (dsimp only; omega) | omega) _)))
  have z_c9 := x_c9.lt
  have c_c9_0 := x_c9.c 0 _ rfl
  have f_c9_0 := x_c9.f 0 _ rfl
  have c_c9_1 := x_c9.c 1 _ rfl
  have f_c9_1 := x_c9.f 1 _ rfl
  have x_x9 : Box w9 (w5.heap.size) [.int .u64 xh, .int .u64 xl] := (by refine Box.below ?_ hb; repeat (first | (with_reducible assumption) | (with_reducible refine Box.drew ?_) | (with_reducible refine Box.drewN ?_ _) | ((with_reducible refine Box.new ?_); simp; done) | (with_reducible apply Box.set2) | (with_reducible refine Box.alloc ?_ _) | (with_reducible refine Box.other ?_ (by first | (dsimp only; omega) | omega) _)))
  have z_x9 := x_x9.lt
  have c_x9_0 := x_x9.c 0 _ rfl
  have f_x9_0 := x_x9.f 0 _ rfl
  have c_x9_1 := x_x9.c 1 _ rfl
  have f_x9_1 := x_x9.f 1 _ rfl
  have x_y9 : Box w9 (w6.heap.size) [.int .u64 xh, .int .u64 xl] := (by refine Box.below ?_ hb; repeat (first | (with_reducible assumption) | (with_reducible refine Box.drew ?_) | (with_reducible refine Box.drewN ?_ _) | ((with_reducible refine Box.new ?_); simp; done) | (with_reducible apply Box.set2) | (with_reducible refine Box.alloc ?_ _) | (with_reducible refine Box.other ?_ (by first | (dsimp only; omega) | omega) _)))
  have z_y9 := x_y9.lt
  have c_y9_0 := x_y9.c 0 _ rfl
  have f_y9_0 := x_y9.f 0 _ rfl
  have c_y9_1 := x_y9.c 1 _ rfl
  have f_y9_1 := x_y9.f 1 _ rfl
  clear hb hB8 hs8 x_a8 z_a8 c_a8_0 c_a8_1 f_a8_0 f_a8_1 x_b8 z_b8 c_b8_0 c_b8_1 f_b8_0 f_b8_1 x_c8 z_c8 c_c8_0 c_c8_1 f_c8_0 f_c8_1 x_x8 z_x8 c_x8_0 c_x8_1 f_x8_0 f_x8_1 x_y8 z_y8 c_y8_0 c_y8_1 f_y8_0 f_y8_1
  go_wp2_with fail
  refine (alive_any _).mono ?_
  rintro e w10 ⟨rfl, hb⟩
  have hB10 : Below w.heap.size w w10 := below_thru (by go_grown) hb
  have hs10 : w.heap.size ≤ w10.heap.size := hB10.size
  have x_a10 : Box w10 (w.heap.size) [.int .u64 ah, .int .u64 al] := (by refine Box.below ?_ hb; repeat (first | (with_reducible assumption) | (with_reducible refine Box.drew ?_) | (with_reducible refine Box.drewN ?_ _) | ((with_reducible refine Box.new ?_); simp; done) | (with_reducible apply Box.set2) | (with_reducible refine Box.alloc ?_ _) | (with_reducible refine Box.other ?_ (by first | (dsimp only; omega) | omega) _)))
  have z_a10 := x_a10.lt
  have c_a10_0 := x_a10.c 0 _ rfl
  have f_a10_0 := x_a10.f 0 _ rfl
  have c_a10_1 := x_a10.c 1 _ rfl
  have f_a10_1 := x_a10.f 1 _ rfl
  have x_b10 : Box w10 (w.heap.size + 1) [.int .u64 ah, .int .u64 al] := (by refine Box.below ?_ hb; repeat (first | (with_reducible assumption) | (with_reducible refine Box.drew ?_) | (with_reducible refine Box.drewN ?_ _) | ((with_reducible refine Box.new ?_); simp; done) | (with_reducible apply Box.set2) | (with_reducible refine Box.alloc ?_ _) | (with_reducible refine Box.other ?_ (by first | (dsimp only; omega) | omega) _)))
  have z_b10 := x_b10.lt
  have c_b10_0 := x_b10.c 0 _ rfl
  have f_b10_0 := x_b10.f 0 _ rfl
  have c_b10_1 := x_b10.c 1 _ rfl
  have f_b10_1 := x_b10.f 1 _ rfl
  have x_c10 : Box w10 (w.heap.size + 1 + 1) [.int .u64 ch, .int .u64 cl] := (by refine Box.below ?_ hb; repeat (first | (with_reducible assumption) | (with_reducible refine Box.drew ?_) | (with_reducible refine Box.drewN ?_ _) | ((with_reducible refine Box.new ?_); simp; done) | (with_reducible apply Box.set2) | (with_reducible refine Box.alloc ?_ _) | (with_reducible refine Box.other ?_ (by first | (dsimp only; omega) | omega) _)))
  have z_c10 := x_c10.lt
  have c_c10_0 := x_c10.c 0 _ rfl
  have f_c10_0 := x_c10.f 0 _ rfl
  have c_c10_1 := x_c10.c 1 _ rfl
  have f_c10_1 := x_c10.f 1 _ rfl
  have x_x10 : Box w10 (w5.heap.size) [.int .u64 xh, .int .u64 xl] := (by refine Box.below ?_ hb; repeat (first | (with_reducible assumption) | (with_reducible refine Box.drew ?_) | (with_reducible refine Box.drewN ?_ _) | ((with_reducible refine Box.new ?_); simp; done) | (with_reducible apply Box.set2) | (with_reducible refine Box.alloc ?_ _) | (with_reducible refine Box.other ?_ (by first | (dsimp only; omega) | omega) _)))
  have z_x10 := x_x10.lt
  have c_x10_0 := x_x10.c 0 _ rfl
  have f_x10_0 := x_x10.f 0 _ rfl
  have c_x10_1 := x_x10.c 1 _ rfl
  have f_x10_1 := x_x10.f 1 _ rfl
  have x_y10 : Box w10 (w6.heap.size) [.int .u64 xh, .int .u64 xl] := (by refine Box.below ?_ hb; repeat (first | (with_reducible assumption) | (with_reducible refine Box.drew ?_) | (with_reducible refine Box.drewN ?_ _) | ((with_reducible refine Box.new ?_); simp; done) | (with_reducible apply Box.set2) | (with_reducible refine Box.alloc ?_ _) | (with_reducible refine Box.other ?_ (by first | (dsimp only; omega) | omega) _)))
  have z_y10 := x_y10.lt
  have c_y10_0 := x_y10.c 0 _ rfl
  have f_y10_0 := x_y10.f 0 _ rfl
  have c_y10_1 := x_y10.c 1 _ rfl
  have f_y10_1 := x_y10.f 1 _ rfl
  clear hb hB9 hs9 x_a9 z_a9 c_a9_0 c_a9_1 f_a9_0 f_a9_1 x_b9 z_b9 c_b9_0 c_b9_1 f_b9_0 f_b9_1 x_c9 z_c9 c_c9_0 c_c9_1 f_c9_0 f_c9_1 x_x9 z_x9 c_x9_0 c_x9_1 f_x9_0 f_x9_1 x_y9 z_y9 c_y9_0 c_y9_1 f_y9_0 f_y9_1
  go_wp2
  go_returns
  refine ⟨rfl, ?_⟩
  go_grown

set_option maxRecDepth 100000 in
set_option maxHeartbeats 3200000 in
theorem less_eq_00_1 (ah al ch cl dh dl : Int) (w : World) (h1 : isU ah) (h2 : isU al) (h5 : isU ch) (h6 : isU cl) (en : Hid (cmpI (wN ah al) (wN ah al) = 0)) (en' : Hid (cmpI (wN ah al) (wN ah al) = 0)) (g1 : isU dh) (g2 : isU dl) (ed : Hid (wN ah al - wN ah al = wN dh dl)) (ed' : Hid (wN dh dl + wN ah al = wN ah al)) (ex : Hid (340282366920938463463374607431768211456 ≤ wN ah al + wN ch cl)) (em : Hid (cmpI (wN ah al) (wN ch cl) = 1)) :
    lessCall ah al ah al ch cl w := by
  unfold lessCall
  have hq := fun w => eqW_run ah al ah al w
  have hwe : wEq ah al ah al = true := by simp [wEq]
  go_enter Try.func8, Try.ntmps8
  go_wp2_with fail
  refine (cmp_ok _ h2 h2 en.out).mono ?_
  rintro e w1 ⟨rfl, hb⟩
  have hB1 : Below w.heap.size w w1 := below_thru (by go_grown) hb
  have hs1 : w.heap.size ≤ w1.heap.size := hB1.size
  have x_a1 : Box w1 (w.heap.size) [.int .u64 ah, .int .u64 al] := (by refine Box.below ?_ hb; repeat (first | (with_reducible assumption) | (with_reducible refine Box.drew ?_) | (with_reducible refine Box.drewN ?_ _) | ((with_reducible refine Box.new ?_); simp; done) | (with_reducible apply Box.set2) | (with_reducible refine Box.alloc ?_ _) | (with_reducible refine Box.other ?_ (by first | (dsimp only; omega) | omega) _)))
  have z_a1 := x_a1.lt
  have c_a1_0 := x_a1.c 0 _ rfl
  have f_a1_0 := x_a1.f 0 _ rfl
  have c_a1_1 := x_a1.c 1 _ rfl
  have f_a1_1 := x_a1.f 1 _ rfl
  have x_b1 : Box w1 (w.heap.size + 1) [.int .u64 ah, .int .u64 al] := (by refine Box.below ?_ hb; repeat (first | (with_reducible assumption) | (with_reducible refine Box.drew ?_) | (with_reducible refine Box.drewN ?_ _) | ((with_reducible refine Box.new ?_); simp; done) | (with_reducible apply Box.set2) | (with_reducible refine Box.alloc ?_ _) | (with_reducible refine Box.other ?_ (by first | (dsimp only; omega) | omega) _)))
  have z_b1 := x_b1.lt
  have c_b1_0 := x_b1.c 0 _ rfl
  have f_b1_0 := x_b1.f 0 _ rfl
  have c_b1_1 := x_b1.c 1 _ rfl
  have f_b1_1 := x_b1.f 1 _ rfl
  have x_c1 : Box w1 (w.heap.size + 1 + 1) [.int .u64 ch, .int .u64 cl] := (by refine Box.below ?_ hb; repeat (first | (with_reducible assumption) | (with_reducible refine Box.drew ?_) | (with_reducible refine Box.drewN ?_ _) | ((with_reducible refine Box.new ?_); simp; done) | (with_reducible apply Box.set2) | (with_reducible refine Box.alloc ?_ _) | (with_reducible refine Box.other ?_ (by first | (dsimp only; omega) | omega) _)))
  have z_c1 := x_c1.lt
  have c_c1_0 := x_c1.c 0 _ rfl
  have f_c1_0 := x_c1.f 0 _ rfl
  have c_c1_1 := x_c1.c 1 _ rfl
  have f_c1_1 := x_c1.f 1 _ rfl
  clear hb
  go_wp2_with fail
  refine (sub_ok _ h1 h2 h1 h2 g1 g2 ed.out).mono ?_
  rintro e w2 ⟨rfl, hb⟩
  have hB2 : Below w.heap.size w w2 := below_thru (by go_grown) hb
  have hs2 : w.heap.size ≤ w2.heap.size := hB2.size
  have x_a2 : Box w2 (w.heap.size) [.int .u64 ah, .int .u64 al] := (by refine Box.below ?_ hb; repeat (first | (with_reducible assumption) | (with_reducible refine Box.drew ?_) | (with_reducible refine Box.drewN ?_ _) | ((with_reducible refine Box.new ?_); simp; done) | (with_reducible apply Box.set2) | (with_reducible refine Box.alloc ?_ _) | (with_reducible refine Box.other ?_ (by first | (dsimp only; omega) | omega) _)))
  have z_a2 := x_a2.lt
  have c_a2_0 := x_a2.c 0 _ rfl
  have f_a2_0 := x_a2.f 0 _ rfl
  have c_a2_1 := x_a2.c 1 _ rfl
  have f_a2_1 := x_a2.f 1 _ rfl
  have x_b2 : Box w2 (w.heap.size + 1) [.int .u64 ah, .int .u64 al] := (by refine Box.below ?_ hb; repeat (first | (with_reducible assumption) | (with_reducible refine Box.drew ?_) | (with_reducible refine Box.drewN ?_ _) | ((with_reducible refine Box.new ?_); simp; done) | (with_reducible apply Box.set2) | (with_reducible refine Box.alloc ?_ _) | (with_reducible refine Box.other ?_ (by first | (dsimp only; omega) | omega) _)))
  have z_b2 := x_b2.lt
  have c_b2_0 := x_b2.c 0 _ rfl
  have f_b2_0 := x_b2.f 0 _ rfl
  have c_b2_1 := x_b2.c 1 _ rfl
  have f_b2_1 := x_b2.f 1 _ rfl
  have x_c2 : Box w2 (w.heap.size + 1 + 1) [.int .u64 ch, .int .u64 cl] := (by refine Box.below ?_ hb; repeat (first | (with_reducible assumption) | (with_reducible refine Box.drew ?_) | (with_reducible refine Box.drewN ?_ _) | ((with_reducible refine Box.new ?_); simp; done) | (with_reducible apply Box.set2) | (with_reducible refine Box.alloc ?_ _) | (with_reducible refine Box.other ?_ (by first | (dsimp only; omega) | omega) _)))
  have z_c2 := x_c2.lt
  have c_c2_0 := x_c2.c 0 _ rfl
  have f_c2_0 := x_c2.f 0 _ rfl
  have c_c2_1 := x_c2.c 1 _ rfl
  have f_c2_1 := x_c2.f 1 _ rfl
  clear hb hB1 hs1 x_a1 z_a1 c_a1_0 c_a1_1 f_a1_0 f_a1_1 x_b1 z_b1 c_b1_0 c_b1_1 f_b1_0 f_b1_1 x_c1 z_c1 c_c1_0 c_c1_1 f_c1_0 f_c1_1
  go_wp2_with fail
  refine (cmp_ok _ h2 h2 en'.out).mono ?_
  rintro e w3 ⟨rfl, hb⟩
  have hB3 : Below w.heap.size w w3 := below_thru (by go_grown) hb
  have hs3 : w.heap.size ≤ w3.heap.size := hB3.size
  have x_a3 : Box w3 (w.heap.size) [.int .u64 ah, .int .u64 al] := (by refine Box.below ?_ hb; repeat (first | (with_reducible assumption) | (with_reducible refine Box.drew ?_) | (with_reducible refine Box.drewN ?_ _) | ((with_reducible refine Box.new ?_); simp; done) | (with_reducible apply Box.set2) | (with_reducible refine Box.alloc ?_ _) | (with_reducible refine Box.other ?_ (by first | (dsimp only; omega) | omega) _)))
  have z_a3 := x_a3.lt
  have c_a3_0 := x_a3.c 0 _ rfl
  have f_a3_0 := x_a3.f 0 _ rfl
  have c_a3_1 := x_a3.c 1 _ rfl
  have f_a3_1 := x_a3.f 1 _ rfl
  have x_b3 : Box w3 (w.heap.size + 1) [.int .u64 ah, .int .u64 al] := (by refine Box.below ?_ hb; repeat (first | (with_reducible assumption) | (with_reducible refine Box.drew ?_) | (with_reducible refine Box.drewN ?_ _) | ((with_reducible refine Box.new ?_); simp; done) | (with_reducible apply Box.set2) | (with_reducible refine Box.alloc ?_ _) | (with_reducible refine Box.other ?_ (by first | (dsimp only; omega) | omega) _)))
  have z_b3 := x_b3.lt
  have c_b3_0 := x_b3.c 0 _ rfl
  have f_b3_0 := x_b3.f 0 _ rfl
  have c_b3_1 := x_b3.c 1 _ rfl
  have f_b3_1 := x_b3.f 1 _ rfl
  have x_c3 : Box w3 (w.heap.size + 1 + 1) [.int .u64 ch, .int .u64 cl] := (by refine Box.below ?_ hb; repeat (first | (with_reducible assumption) | (with_reducible refine Box.drew ?_) | (with_reducible refine Box.drewN ?_ _) | ((with_reducible refine Box.new ?_); simp; done) | (with_reducible apply Box.set2) | (with_reducible refine Box.alloc ?_ _) | (with_reducible refine Box.other ?_ (by first | (dsimp only; omega) | omega) _)))
  have z_c3 := x_c3.lt
  have c_c3_0 := x_c3.c 0 _ rfl
  have f_c3_0 := x_c3.f 0 _ rfl
  have c_c3_1 := x_c3.c 1 _ rfl
  have f_c3_1 := x_c3.f 1 _ rfl
  have x_d3 : Box w3 (w2.heap.size) [.int .u64 dh, .int .u64 dl] := (by refine Box.below ?_ hb; repeat (first | (with_reducible assumption) | (with_reducible refine Box.drew ?_) | (with_reducible refine Box.drewN ?_ _) | ((with_reducible refine Box.new ?_); simp; done) | (with_reducible apply Box.set2) | (with_reducible refine Box.alloc ?_ _) | (with_reducible refine Box.other ?_ (by first | (dsimp only; omega) | omega) _)))
  have z_d3 := x_d3.lt
  have c_d3_0 := x_d3.c 0 _ rfl
  have f_d3_0 := x_d3.f 0 _ rfl
  have c_d3_1 := x_d3.c 1 _ rfl
  have f_d3_1 := x_d3.f 1 _ rfl
  clear hb hB2 hs2 x_a2 z_a2 c_a2_0 c_a2_1 f_a2_0 f_a2_1 x_b2 z_b2 c_b2_0 c_b2_1 f_b2_0 f_b2_1 x_c2 z_c2 c_c2_0 c_c2_1 f_c2_0 f_c2_1
  go_wp2_with fail
  refine (add_ok _ g1 g2 h1 h2 h1 h2 ed'.out).mono ?_
  rintro e w4 ⟨rfl, hb⟩
  have hB4 : Below w.heap.size w w4 := below_thru (by go_grown) hb
  have hs4 : w.heap.size ≤ w4.heap.size := hB4.size
  have x_a4 : Box w4 (w.heap.size) [.int .u64 ah, .int .u64 al] := (by refine Box.below ?_ hb; repeat (first | (with_reducible assumption) | (with_reducible refine Box.drew ?_) | (with_reducible refine Box.drewN ?_ _) | ((with_reducible refine Box.new ?_); simp; done) | (with_reducible apply Box.set2) | (with_reducible refine Box.alloc ?_ _) | (with_reducible refine Box.other ?_ (by first | (dsimp only; omega) | omega) _)))
  have z_a4 := x_a4.lt
  have c_a4_0 := x_a4.c 0 _ rfl
  have f_a4_0 := x_a4.f 0 _ rfl
  have c_a4_1 := x_a4.c 1 _ rfl
  have f_a4_1 := x_a4.f 1 _ rfl
  have x_b4 : Box w4 (w.heap.size + 1) [.int .u64 ah, .int .u64 al] := (by refine Box.below ?_ hb; repeat (first | (with_reducible assumption) | (with_reducible refine Box.drew ?_) | (with_reducible refine Box.drewN ?_ _) | ((with_reducible refine Box.new ?_); simp; done) | (with_reducible apply Box.set2) | (with_reducible refine Box.alloc ?_ _) | (with_reducible refine Box.other ?_ (by first | (dsimp only; omega) | omega) _)))
  have z_b4 := x_b4.lt
  have c_b4_0 := x_b4.c 0 _ rfl
  have f_b4_0 := x_b4.f 0 _ rfl
  have c_b4_1 := x_b4.c 1 _ rfl
  have f_b4_1 := x_b4.f 1 _ rfl
  have x_c4 : Box w4 (w.heap.size + 1 + 1) [.int .u64 ch, .int .u64 cl] := (by refine Box.below ?_ hb; repeat (first | (with_reducible assumption) | (with_reducible refine Box.drew ?_) | (with_reducible refine Box.drewN ?_ _) | ((with_reducible refine Box.new ?_); simp; done) | (with_reducible apply Box.set2) | (with_reducible refine Box.alloc ?_ _) | (with_reducible refine Box.other ?_ (by first | (dsimp only; omega) | omega) _)))
  have z_c4 := x_c4.lt
  have c_c4_0 := x_c4.c 0 _ rfl
  have f_c4_0 := x_c4.f 0 _ rfl
  have c_c4_1 := x_c4.c 1 _ rfl
  have f_c4_1 := x_c4.f 1 _ rfl
  have x_d4 : Box w4 (w2.heap.size) [.int .u64 dh, .int .u64 dl] := (by refine Box.below ?_ hb; repeat (first | (with_reducible assumption) | (with_reducible refine Box.drew ?_) | (with_reducible refine Box.drewN ?_ _) | ((with_reducible refine Box.new ?_); simp; done) | (with_reducible apply Box.set2) | (with_reducible refine Box.alloc ?_ _) | (with_reducible refine Box.other ?_ (by first | (dsimp only; omega) | omega) _)))
  have z_d4 := x_d4.lt
  have c_d4_0 := x_d4.c 0 _ rfl
  have f_d4_0 := x_d4.f 0 _ rfl
  have c_d4_1 := x_d4.c 1 _ rfl
  have f_d4_1 := x_d4.f 1 _ rfl
  clear hb hB3 hs3 x_a3 z_a3 c_a3_0 c_a3_1 f_a3_0 f_a3_1 x_b3 z_b3 c_b3_0 c_b3_1 f_b3_0 f_b3_1 x_c3 z_c3 c_c3_0 c_c3_1 f_c3_0 f_c3_1 x_d3 z_d3 c_d3_0 c_d3_1 f_d3_0 f_d3_1
  go_wp2_with fail
  refine (add_no _ h1 h2 h5 h6 (Int.not_lt.2 ex.out)).mono ?_
  rintro e w5 ⟨rfl, hb⟩
  have hB5 : Below w.heap.size w w5 := below_thru (by go_grown) hb
  have hs5 : w.heap.size ≤ w5.heap.size := hB5.size
  have x_a5 : Box w5 (w.heap.size) [.int .u64 ah, .int .u64 al] := (by refine Box.below ?_ hb; repeat (first | (with_reducible assumption) | (with_reducible refine Box.drew ?_) | (with_reducible refine Box.drewN ?_ _) | ((with_reducible refine Box.new ?_); simp; done) | (with_reducible apply Box.set2) | (with_reducible refine Box.alloc ?_ _) | (with_reducible refine Box.other ?_ (by first | (dsimp only; omega) | omega) _)))
  have z_a5 := x_a5.lt
  have c_a5_0 := x_a5.c 0 _ rfl
  have f_a5_0 := x_a5.f 0 _ rfl
  have c_a5_1 := x_a5.c 1 _ rfl
  have f_a5_1 := x_a5.f 1 _ rfl
  have x_b5 : Box w5 (w.heap.size + 1) [.int .u64 ah, .int .u64 al] := (by refine Box.below ?_ hb; repeat (first | (with_reducible assumption) | (with_reducible refine Box.drew ?_) | (with_reducible refine Box.drewN ?_ _) | ((with_reducible refine Box.new ?_); simp; done) | (with_reducible apply Box.set2) | (with_reducible refine Box.alloc ?_ _) | (with_reducible refine Box.other ?_ (by first | (dsimp only; omega) | omega) _)))
  have z_b5 := x_b5.lt
  have c_b5_0 := x_b5.c 0 _ rfl
  have f_b5_0 := x_b5.f 0 _ rfl
  have c_b5_1 := x_b5.c 1 _ rfl
  have f_b5_1 := x_b5.f 1 _ rfl
  have x_c5 : Box w5 (w.heap.size + 1 + 1) [.int .u64 ch, .int .u64 cl] := (by refine Box.below ?_ hb; repeat (first | (with_reducible assumption) | (with_reducible refine Box.drew ?_) | (with_reducible refine Box.drewN ?_ _) | ((with_reducible refine Box.new ?_); simp; done) | (with_reducible apply Box.set2) | (with_reducible refine Box.alloc ?_ _) | (with_reducible refine Box.other ?_ (by first | (dsimp only; omega) | omega) _)))
  have z_c5 := x_c5.lt
  have c_c5_0 := x_c5.c 0 _ rfl
  have f_c5_0 := x_c5.f 0 _ rfl
  have c_c5_1 := x_c5.c 1 _ rfl
  have f_c5_1 := x_c5.f 1 _ rfl
  have x_d5 : Box w5 (w2.heap.size) [.int .u64 dh, .int .u64 dl] := (by refine Box.below ?_ hb; repeat (first | (with_reducible assumption) | (with_reducible refine Box.drew ?_) | (with_reducible refine Box.drewN ?_ _) | ((with_reducible refine Box.new ?_); simp; done) | (with_reducible apply Box.set2) | (with_reducible refine Box.alloc ?_ _) | (with_reducible refine Box.other ?_ (by first | (dsimp only; omega) | omega) _)))
  have z_d5 := x_d5.lt
  have c_d5_0 := x_d5.c 0 _ rfl
  have f_d5_0 := x_d5.f 0 _ rfl
  have c_d5_1 := x_d5.c 1 _ rfl
  have f_d5_1 := x_d5.f 1 _ rfl
  have x_k5 : Box w5 (w4.heap.size) [.int .u64 ah, .int .u64 al] := (by refine Box.below ?_ hb; repeat (first | (with_reducible assumption) | (with_reducible refine Box.drew ?_) | (with_reducible refine Box.drewN ?_ _) | ((with_reducible refine Box.new ?_); simp; done) | (with_reducible apply Box.set2) | (with_reducible refine Box.alloc ?_ _) | (with_reducible refine Box.other ?_ (by first | (dsimp only; omega) | omega) _)))
  have z_k5 := x_k5.lt
  have c_k5_0 := x_k5.c 0 _ rfl
  have f_k5_0 := x_k5.f 0 _ rfl
  have c_k5_1 := x_k5.c 1 _ rfl
  have f_k5_1 := x_k5.f 1 _ rfl
  clear hb hB4 hs4 x_a4 z_a4 c_a4_0 c_a4_1 f_a4_0 f_a4_1 x_b4 z_b4 c_b4_0 c_b4_1 f_b4_0 f_b4_1 x_c4 z_c4 c_c4_0 c_c4_1 f_c4_0 f_c4_1 x_d4 z_d4 c_d4_0 c_d4_1 f_d4_0 f_d4_1
  clear x_d5 z_d5 c_d5_0 c_d5_1 f_d5_0 f_d5_1
  clear x_k5 z_k5 c_k5_0 c_k5_1 f_k5_0 f_k5_1
  go_wp2_with fail
  refine (add_no _ h1 h2 h5 h6 (Int.not_lt.2 ex.out)).mono ?_
  rintro e w6 ⟨rfl, hb⟩
  have hB6 : Below w.heap.size w w6 := below_thru (by go_grown) hb
  have hs6 : w.heap.size ≤ w6.heap.size := hB6.size
  have x_a6 : Box w6 (w.heap.size) [.int .u64 ah, .int .u64 al] := (by refine Box.below ?_ hb; repeat (first | (with_reducible assumption) | (with_reducible refine Box.drew ?_) | (with_reducible refine Box.drewN ?_ _) | ((with_reducible refine Box.new ?_); simp; done) | (with_reducible apply Box.set2) | (with_reducible refine Box.alloc ?_ _) | (with_reducible refine Box.other ?_ (by first | (dsimp only; omega) | omega) _)))
  have z_a6 := x_a6.lt
  have c_a6_0 := x_a6.c 0 _ rfl
  have f_a6_0 := x_a6.f 0 _ rfl
  have c_a6_1 := x_a6.c 1 _ rfl
  have f_a6_1 := x_a6.f 1 _ rfl
  have x_b6 : Box w6 (w.heap.size + 1) [.int .u64 ah, .int .u64 al] := (by refine Box.below ?_ hb; repeat (first | (with_reducible assumption) | (with_reducible refine Box.drew ?_) | (with_reducible refine Box.drewN ?_ _) | ((with_reducible refine Box.new ?_); simp; done) | (with_reducible apply Box.set2) | (with_reducible refine Box.alloc ?_ _) | (with_reducible refine Box.other ?_ (by first | (dsimp only; omega) | omega) _)))
  have z_b6 := x_b6.lt
  have c_b6_0 := x_b6.c 0 _ rfl
  have f_b6_0 := x_b6.f 0 _ rfl
  have c_b6_1 := x_b6.c 1 _ rfl
  have f_b6_1 := x_b6.f 1 _ rfl
  have x_c6 : Box w6 (w.heap.size + 1 + 1) [.int .u64 ch, .int .u64 cl] := (by refine Box.below ?_ hb; repeat (first | (with_reducible assumption) | (with_reducible refine Box.drew ?_) | (with_reducible refine Box.drewN ?_ _) | ((with_reducible refine Box.new ?_); simp; done) | (with_reducible apply Box.set2) | (with_reducible refine Box.alloc ?_ _) | (with_reducible refine Box.other ?_ (by first | (dsimp only; omega) | omega) _)))
  have z_c6 := x_c6.lt
  have c_c6_0 := x_c6.c 0 _ rfl
  have f_c6_0 := x_c6.f 0 _ rfl
  have c_c6_1 := x_c6.c 1 _ rfl
  have f_c6_1 := x_c6.f 1 _ rfl
  clear hb hB5 hs5 x_a5 z_a5 c_a5_0 c_a5_1 f_a5_0 f_a5_1 x_b5 z_b5 c_b5_0 c_b5_1 f_b5_0 f_b5_1 x_c5 z_c5 c_c5_0 c_c5_1 f_c5_0 f_c5_1
  go_wp2_with fail
  refine (cmp_ok _ h2 h6 em.out).mono ?_
  rintro e w7 ⟨rfl, hb⟩
  have hB7 : Below w.heap.size w w7 := below_thru (by go_grown) hb
  have hs7 : w.heap.size ≤ w7.heap.size := hB7.size
  have x_a7 : Box w7 (w.heap.size) [.int .u64 ah, .int .u64 al] := (by refine Box.below ?_ hb; repeat (first | (with_reducible assumption) | (with_reducible refine Box.drew ?_) | (with_reducible refine Box.drewN ?_ _) | ((with_reducible refine Box.new ?_); simp; done) | (with_reducible apply Box.set2) | (with_reducible refine Box.alloc ?_ _) | (with_reducible refine Box.other ?_ (by first | (dsimp only; omega) | omega) _)))
  have z_a7 := x_a7.lt
  have c_a7_0 := x_a7.c 0 _ rfl
  have f_a7_0 := x_a7.f 0 _ rfl
  have c_a7_1 := x_a7.c 1 _ rfl
  have f_a7_1 := x_a7.f 1 _ rfl
  have x_b7 : Box w7 (w.heap.size + 1) [.int .u64 ah, .int .u64 al] := (by refine Box.below ?_ hb; repeat (first | (with_reducible assumption) | (with_reducible refine Box.drew ?_) | (with_reducible refine Box.drewN ?_ _) | ((with_reducible refine Box.new ?_); simp; done) | (with_reducible apply Box.set2) | (with_reducible refine Box.alloc ?_ _) | (with_reducible refine Box.other ?_ (by first | (dsimp only; omega) | omega) _)))
  have z_b7 := x_b7.lt
  have c_b7_0 := x_b7.c 0 _ rfl
  have f_b7_0 := x_b7.f 0 _ rfl
  have c_b7_1 := x_b7.c 1 _ rfl
  have f_b7_1 := x_b7.f 1 _ rfl
  have x_c7 : Box w7 (w.heap.size + 1 + 1) [.int .u64 ch, .int .u64 cl] := (by refine Box.below ?_ hb; repeat (first | (with_reducible assumption) | (with_reducible refine Box.drew ?_) | (with_reducible refine Box.drewN ?_ _) | ((with_reducible refine Box.new ?_); simp; done) | (with_reducible apply Box.set2) | (with_reducible refine Box.alloc ?_ _) | (with_reducible refine Box.other ?_ (by first | (dsimp only; omega) | omega) _)))
  have z_c7 := x_c7.lt
  have c_c7_0 := x_c7.c 0 _ rfl
  have f_c7_0 := x_c7.f 0 _ rfl
  have c_c7_1 := x_c7.c 1 _ rfl
  have f_c7_1 := x_c7.f 1 _ rfl
  clear hb hB6 hs6 x_a6 z_a6 c_a6_0 c_a6_1 f_a6_0 f_a6_1 x_b6 z_b6 c_b6_0 c_b6_1 f_b6_0 f_b6_1 x_c6 z_c6 c_c6_0 c_c6_1 f_c6_0 f_c6_1
  go_wp2_with fail
  refine (alive_any _).mono ?_
  rintro e w8 ⟨rfl, hb⟩
  have hB8 : Below w.heap.size w w8 := below_thru (by go_grown) hb
  have hs8 : w.heap.size ≤ w8.heap.size := hB8.size
  have x_a8 : Box w8 (w.heap.size) [.int .u64 ah, .int .u64 al] := (by refine Box.below ?_ hb; repeat (first | (with_reducible assumption) | (with_reducible refine Box.drew ?_) | (with_reducible refine Box.drewN ?_ _) | ((with_reducible refine Box.new ?_); simp; done) | (with_reducible apply Box.set2) | (with_reducible refine Box.alloc ?_ _) | (with_reducible refine Box.other ?_ (by first | (dsimp only; omega) | omega) _)))
  have z_a8 := x_a8.lt
  have c_a8_0 := x_a8.c 0 _ rfl
  have f_a8_0 := x_a8.f 0 _ rfl
  have c_a8_1 := x_a8.c 1 _ rfl
  have f_a8_1 := x_a8.f 1 _ rfl
  have x_b8 : Box w8 (w.heap.size + 1) [.int .u64 ah, .int .u64 al] := (by refine Box.below ?_ hb; repeat (first | (with_reducible assumption) | (with_reducible refine Box.drew ?_) | (with_reducible refine Box.drewN ?_ _) | ((with_reducible refine Box.new ?_); simp; done) | (with_reducible apply Box.set2) | (with_reducible refine Box.alloc ?_ _) | (with_reducible refine Box.other ?_ (by first | (dsimp only; omega) | omega) _)))
  have z_b8 := x_b8.lt
  have c_b8_0 := x_b8.c 0 _ rfl
  have f_b8_0 := x_b8.f 0 _ rfl
  have c_b8_1 := x_b8.c 1 _ rfl
  have f_b8_1 := x_b8.f 1 _ rfl
  have x_c8 : Box w8 (w.heap.size + 1 + 1) [.int .u64 ch, .int .u64 cl] := (by refine Box.below ?_ hb; repeat (first | (with_reducible assumption) | (with_reducible refine Box.drew ?_) | (with_reducible refine Box.drewN ?_ _) | ((with_reducible refine Box.new ?_); simp; done) | (with_reducible apply Box.set2) | (with_reducible refine Box.alloc ?_ _) | (with_reducible refine Box.other ?_ (by first | (dsimp only; omega) | omega) _)))
  have z_c8 := x_c8.lt
  have c_c8_0 := x_c8.c 0 _ rfl
  have f_c8_0 := x_c8.f 0 _ rfl
  have c_c8_1 := x_c8.c 1 _ rfl
  have f_c8_1 := x_c8.f 1 _ rfl
  clear hb hB7 hs7 x_a7 z_a7 c_a7_0 c_a7_1 f_a7_0 f_a7_1 x_b7 z_b7 c_b7_0 c_b7_1 f_b7_0 f_b7_1 x_c7 z_c7 c_c7_0 c_c7_1 f_c7_0 f_c7_1
  go_wp2
  go_returns
  refine ⟨rfl, ?_⟩
  go_grown

set_option maxRecDepth 100000 in
set_option maxHeartbeats 3200000 in
theorem less_eq_00_0 (ah al ch cl dh dl : Int) (w : World) (h1 : isU ah) (h2 : isU al) (h5 : isU ch) (h6 : isU cl) (en : Hid (cmpI (wN ah al) (wN ah al) = 0)) (en' : Hid (cmpI (wN ah al) (wN ah al) = 0)) (g1 : isU dh) (g2 : isU dl) (ed : Hid (wN ah al - wN ah al = wN dh dl)) (ed' : Hid (wN dh dl + wN ah al = wN ah al)) (ex : Hid (340282366920938463463374607431768211456 ≤ wN ah al + wN ch cl)) (m : Int) (em : Hid (cmpI (wN ah al) (wN ch cl) = m)) (em0 : decide (m > 0) = false) (k : Int) (ek : Hid (cmpI (wN ah al) (wN ch cl) = k)) (ek0 : decide (k ≤ 0) = true) :
    lessCall ah al ah al ch cl w := by
  unfold lessCall
  have hq := fun w => eqW_run ah al ah al w
  have hwe : wEq ah al ah al = true := by simp [wEq]
  go_enter Try.func8, Try.ntmps8
  go_wp2_with fail
  refine (cmp_ok _ h2 h2 en.out).mono ?_
  rintro e w1 ⟨rfl, hb⟩
  have hB1 : Below w.heap.size w w1 := below_thru (by go_grown) hb
  have hs1 : w.heap.size ≤ w1.heap.size := hB1.size
  have x_a1 : Box w1 (w.heap.size) [.int .u64 ah, .int .u64 al] := (by refine Box.below ?_ hb; repeat (first | (with_reducible assumption) | (with_reducible refine Box.drew ?_) | (with_reducible refine Box.drewN ?_ _) | ((with_reducible refine Box.new ?_); simp; done) | (with_reducible apply Box.set2) | (with_reducible refine Box.alloc ?_ _) | (with_reducible refine Box.other ?_ (by first | (dsimp only; omega) | omega) _)))
  have z_a1 := x_a1.lt
  have c_a1_0 := x_a1.c 0 _ rfl
  have f_a1_0 := x_a1.f 0 _ rfl
  have c_a1_1 := x_a1.c 1 _ rfl
  have f_a1_1 := x_a1.f 1 _ rfl
  have x_b1 : Box w1 (w.heap.size + 1) [.int .u64 ah, .int .u64 al] := (by refine Box.below ?_ hb; repeat (first | (with_reducible assumption) | (with_reducible refine Box.drew ?_) | (with_reducible refine Box.drewN ?_ _) | ((with_reducible refine Box.new ?_); simp; done) | (with_reducible apply Box.set2) | (with_reducible refine Box.alloc ?_ _) | (with_reducible refine Box.other ?_ (by first | (dsimp only; omega) | omega) _)))
  have z_b1 := x_b1.lt
  have c_b1_0 := x_b1.c 0 _ rfl
  have f_b1_0 := x_b1.f 0 _ rfl
  have c_b1_1 := x_b1.c 1 _ rfl
  have f_b1_1 := x_b1.f 1 _ rfl
  have x_c1 : Box w1 (w.heap.size + 1 + 1) [.int .u64 ch, .int .u64 cl] := (by refine Box.below ?_ hb; repeat (first | (with_reducible assumption) | (with_reducible refine Box.drew ?_) | (with_reducible refine Box.drewN ?_ _) | ((with_reducible refine Box.new ?_); simp; done) | (with_reducible apply Box.set2) | (with_reducible refine Box.alloc ?_ _) | (with_reducible refine Box.other ?_ (by first | (dsimp only; omega) | omega) _)))
  have z_c1 := x_c1.lt
  have c_c1_0 := x_c1.c 0 _ rfl
  have f_c1_0 := x_c1.f 0 _ rfl
  have c_c1_1 := x_c1.c 1 _ rfl
  have f_c1_1 := x_c1.f 1 _ rfl
  clear hb
  go_wp2_with fail
  refine (sub_ok _ h1 h2 h1 h2 g1 g2 ed.out).mono ?_
  rintro e w2 ⟨rfl, hb⟩
  have hB2 : Below w.heap.size w w2 := below_thru (by go_grown) hb
  have hs2 : w.heap.size ≤ w2.heap.size := hB2.size
  have x_a2 : Box w2 (w.heap.size) [.int .u64 ah, .int .u64 al] := (by refine Box.below ?_ hb; repeat (first | (with_reducible assumption) | (with_reducible refine Box.drew ?_) | (with_reducible refine Box.drewN ?_ _) | ((with_reducible refine Box.new ?_); simp; done) | (with_reducible apply Box.set2) | (with_reducible refine Box.alloc ?_ _) | (with_reducible refine Box.other ?_ (by first | (dsimp only; omega) | omega) _)))
  have z_a2 := x_a2.lt
  have c_a2_0 := x_a2.c 0 _ rfl
  have f_a2_0 := x_a2.f 0 _ rfl
  have c_a2_1 := x_a2.c 1 _ rfl
  have f_a2_1 := x_a2.f 1 _ rfl
  have x_b2 : Box w2 (w.heap.size + 1) [.int .u64 ah, .int .u64 al] := (by refine Box.below ?_ hb; repeat (first | (with_reducible assumption) | (with_reducible refine Box.drew ?_) | (with_reducible refine Box.drewN ?_ _) | ((with_reducible refine Box.new ?_); simp; done) | (with_reducible apply Box.set2) | (with_reducible refine Box.alloc ?_ _) | (with_reducible refine Box.other ?_ (by first | (dsimp only; omega) | omega) _)))
  have z_b2 := x_b2.lt
  have c_b2_0 := x_b2.c 0 _ rfl
  have f_b2_0 := x_b2.f 0 _ rfl
  have c_b2_1 := x_b2.c 1 _ rfl
  have f_b2_1 := x_b2.f 1 _ rfl
  have x_c2 : Box w2 (w.heap.size + 1 + 1) [.int .u64 ch, .int .u64 cl] := (by refine Box.below ?_ hb; repeat (first | (with_reducible assumption) | (with_reducible refine Box.drew ?_) | (with_reducible refine Box.drewN ?_ _) | ((with_reducible refine Box.new ?_); simp; done) | (with_reducible apply Box.set2) | (with_reducible refine Box.alloc ?_ _) | (with_reducible refine Box.other ?_ (by first | (dsimp only; omega) | omega) _)))
  have z_c2 := x_c2.lt
  have c_c2_0 := x_c2.c 0 _ rfl
  have f_c2_0 := x_c2.f 0 _ rfl
  have c_c2_1 := x_c2.c 1 _ rfl
  have f_c2_1 := x_c2.f 1 _ rfl
  clear hb hB1 hs1 x_a1 z_a1 c_a1_0 c_a1_1 f_a1_0 f_a1_1 x_b1 z_b1 c_b1_0 c_b1_1 f_b1_0 f_b1_1 x_c1 z_c1 c_c1_0 c_c1_1 f_c1_0 f_c1_1
  go_wp2_with fail
  refine (cmp_ok _ h2 h2 en'.out).mono ?_
  rintro e w3 ⟨rfl, hb⟩
  have hB3 : Below w.heap.size w w3 := below_thru (by go_grown) hb
  have hs3 : w.heap.size ≤ w3.heap.size := hB3.size
  have x_a3 : Box w3 (w.heap.size) [.int .u64 ah, .int .u64 al] := (by refine Box.below ?_ hb; repeat (first | (with_reducible assumption) | (with_reducible refine Box.drew ?_) | (with_reducible refine Box.drewN ?_ _) | ((with_reducible refine Box.new ?_); simp; done) | (with_reducible apply Box.set2) | (with_reducible refine Box.alloc ?_ _) | (with_reducible refine Box.other ?_ (by first | (dsimp only; omega) | omega) _)))
  have z_a3 := x_a3.lt
  have c_a3_0 := x_a3.c 0 _ rfl
  have f_a3_0 := x_a3.f 0 _ rfl
  have c_a3_1 := x_a3.c 1 _ rfl
  have f_a3_1 := x_a3.f 1 _ rfl
  have x_b3 : Box w3 (w.heap.size + 1) [.int .u64 ah, .int .u64 al] := (by refine Box.below ?_ hb; repeat (first | (with_reducible assumption) | (with_reducible refine Box.drew ?_) | (with_reducible refine Box.drewN ?_ _) | ((with_reducible refine Box.new ?_); simp; done) | (with_reducible apply Box.set2) | (with_reducible refine Box.alloc ?_ _) | (with_reducible refine Box.other ?_ (by first | (dsimp only; omega) | omega) _)))
  have z_b3 := x_b3.lt
  have c_b3_0 := x_b3.c 0 _ rfl
  have f_b3_0 := x_b3.f 0 _ rfl
  have c_b3_1 := x_b3.c 1 _ rfl
  have f_b3_1 := x_b3.f 1 _ rfl
  have x_c3 : Box w3 (w.heap.size + 1 + 1) [.int .u64 ch, .int .u64 cl] := (by refine Box.below ?_ hb; repeat (first | (with_reducible assumption) | (with_reducible refine Box.drew ?_) | (with_reducible refine Box.drewN ?_ _) | ((with_reducible refine Box.new ?_); simp; done) | (with_reducible apply Box.set2) | (with_reducible refine Box.alloc ?_ _) | (with_reducible refine Box.other ?_ (by first | (dsimp only; omega) | omega) _)))
  have z_c3 := x_c3.lt
  have c_c3_0 := x_c3.c 0 _ rfl
  have f_c3_0 := x_c3.f 0 _ rfl
  have c_c3_1 := x_c3.c 1 _ rfl
  have f_c3_1 := x_c3.f 1 _ rfl
  have x_d3 : Box w3 (w2.heap.size) [.int .u64 dh, .int .u64 dl] := (by refine Box.below ?_ hb; repeat (first | (with_reducible assumption) | (with_reducible refine Box.drew ?_) | (with_reducible refine Box.drewN ?_ _) | ((with_reducible refine Box.new ?_); simp; done) | (with_reducible apply Box.set2) | (with_reducible refine Box.alloc ?_ _) | (with_reducible refine Box.other ?_ (by first | (dsimp only; omega) | omega) _)))
  have z_d3 := x_d3.lt
  have c_d3_0 := x_d3.c 0 _ rfl
  have f_d3_0 := x_d3.f 0 _ rfl
  have c_d3_1 := x_d3.c 1 _ rfl
  have f_d3_1 := x_d3.f 1 _ rfl
  clear hb hB2 hs2 x_a2 z_a2 c_a2_0 c_a2_1 f_a2_0 f_a2_1 x_b2 z_b2 c_b2_0 c_b2_1 f_b2_0 f_b2_1 x_c2 z_c2 c_c2_0 c_c2_1 f_c2_0 f_c2_1
  go_wp2_with fail
  refine (add_ok _ g1 g2 h1 h2 h1 h2 ed'.out).mono ?_
  rintro e w4 ⟨rfl, hb⟩
  have hB4 : Below w.heap.size w w4 := below_thru (by go_grown) hb
  have hs4 : w.heap.size ≤ w4.heap.size := hB4.size
  have x_a4 : Box w4 (w.heap.size) [.int .u64 ah, .int .u64 al] := (by refine Box.below ?_ hb; repeat (first | (with_reducible assumption) | (with_reducible refine Box.drew ?_) | (with_reducible refine Box.drewN ?_ _) | ((with_reducible refine Box.new ?_); simp; done) | (with_reducible apply Box.set2) | (with_reducible refine Box.alloc ?_ _) | (with_reducible refine Box.other ?_ (by first | (dsimp only; omega) | omega) _)))
  have z_a4 := x_a4.lt
  have c_a4_0 := x_a4.c 0 _ rfl
  have f_a4_0 := x_a4.f 0 _ rfl
  have c_a4_1 := x_a4.c 1 _ rfl
  have f_a4_1 := x_a4.f 1 _ rfl
  have x_b4 : Box w4 (w.heap.size + 1) [.int .u64 ah, .int .u64 al] := (by refine Box.below ?_ hb; repeat (first | (with_reducible assumption) | (with_reducible refine Box.drew ?_) | (with_reducible refine Box.drewN ?_ _) | ((with_reducible refine Box.new ?_); simp; done) | (with_reducible apply Box.set2) | (with_reducible refine Box.alloc ?_ _) | (with_reducible refine Box.other ?_ (by first | (dsimp only; omega) | omega) _)))
  have z_b4 := x_b4.lt
  have c_b4_0 := x_b4.c 0 _ rfl
  have f_b4_0 := x_b4.f 0 _ rfl
  have c_b4_1 := x_b4.c 1 _ rfl
  have f_b4_1 := x_b4.f 1 _ rfl
  have x_c4 : Box w4 (w.heap.size + 1 + 1) [.int .u64 ch, .int .u64 cl] := (by refine Box.below ?_ hb; repeat (first | (with_reducible assumption) | (with_reducible refine Box.drew ?_) | (with_reducible refine Box.drewN ?_ _) | ((with_reducible refine Box.new ?_); simp; done) | (with_reducible apply Box.set2) | (with_reducible refine Box.alloc ?_ _) | (with_reducible refine Box.other ?_ (by first | (dsimp only; omega) | omega) _)))
  have z_c4 := x_c4.lt
  have c_c4_0 := x_c4.c 0 _ rfl
  have f_c4_0 := x_c4.f 0 _ rfl
  have c_c4_1 := x_c4.c 1 _ rfl
  have f_c4_1 := x_c4.f 1 _ rfl
  have x_d4 : Box w4 (w2.heap.size) [.int .u64 dh, .int .u64 dl] := (by refine Box.below ?_ hb; repeat (first | (with_reducible assumption) | (with_reducible refine Box.drew ?_) | (with_reducible refine Box.drewN ?_ _) | ((with_reducible refine Box.new ?_); simp; done) | (with_reducible apply Box.set2) | (with_reducible refine Box.alloc ?_ _) | (with_reducible refine Box.other ?_ (by first | (dsimp only; omega) | omega) _)))
  have z_d4 := x_d4.lt
  have c_d4_0 := x_d4.c 0 _ rfl
  have f_d4_0 := x_d4.f 0 _ rfl
  have c_d4_1 := x_d4.c 1 _ rfl
  have f_d4_1 := x_d4.f 1 _ rfl
  clear hb hB3 hs3 x_a3 z_a3 c_a3_0 c_a3_1 f_a3_0 f_a3_1 x_b3 z_b3 c_b3_0 c_b3_1 f_b3_0 f_b3_1 x_c3 z_c3 c_c3_0 c_c3_1 f_c3_0 f_c3_1 x_d3 z_d3 c_d3_0 c_d3_1 f_d3_0 f_d3_1
  go_wp2_with fail
  refine (add_no _ h1 h2 h5 h6 (Int.not_lt.2 ex.out)).mono ?_
  rintro e w5 ⟨rfl, hb⟩
  have hB5 : Below w.heap.size w w5 := below_thru (by go_grown) hb
  have hs5 : w.heap.size ≤ w5.heap.size := hB5.size
  have x_a5 : Box w5 (w.heap.size) [.int .u64 ah, .int .u64 al] := (by refine Box.below ?_ hb; repeat (first | (with_reducible assumption) | (with_reducible refine Box.drew ?_) | (with_reducible refine Box.drewN ?_ _) | ((with_reducible refine Box.new ?_); simp; done) | (with_reducible apply Box.set2) | (with_reducible refine Box.alloc ?_ _) | (with_reducible refine Box.other ?_ (by first | (dsimp only; omega) | omega) _)))
  have z_a5 := x_a5.lt
  have c_a5_0 := x_a5.c 0 _ rfl
  have f_a5_0 := x_a5.f 0 _ rfl
  have c_a5_1 := x_a5.c 1 _ rfl
  have f_a5_1 := x_a5.f 1 _ rfl
  have x_b5 : Box w5 (w.heap.size + 1) [.int .u64 ah, .int .u64 al] := (by refine Box.below ?_ hb; repeat (first | (with_reducible assumption) | (with_reducible refine Box.drew ?_) | (with_reducible refine Box.drewN ?_ _) | ((with_reducible refine Box.new ?_); simp; done) | (with_reducible apply Box.set2) | (with_reducible refine Box.alloc ?_ _) | (with_reducible refine Box.other ?_ (by first | (dsimp only; omega) | omega) _)))
  have z_b5 := x_b5.lt
  have c_b5_0 := x_b5.c 0 _ rfl
  have f_b5_0 := x_b5.f 0 _ rfl
  have c_b5_1 := x_b5.c 1 _ rfl
  have f_b5_1 := x_b5.f 1 _ rfl
  have x_c5 : Box w5 (w.heap.size + 1 + 1) [.int .u64 ch, .int .u64 cl] := (by refine Box.below ?_ hb; repeat (first | (with_reducible assumption) | (with_reducible refine Box.drew ?_) | (with_reducible refine Box.drewN ?_ _) | ((with_reducible refine Box.new ?_); simp; done) | (with_reducible apply Box.set2) | (with_reducible refine Box.alloc ?_ _) | (with_reducible refine Box.other ?_ (by first | (dsimp only; omega) | omega) _)))
  have z_c5 := x_c5.lt
  have c_c5_0 := x_c5.c 0 _ rfl
  have f_c5_0 := x_c5.f 0 _ rfl
  have c_c5_1 := x_c5.c 1 _ rfl
  have f_c5_1 := x_c5.f 1 _ rfl
  have x_d5 : Box w5 (w2.heap.size) [.int .u64 dh, .int .u64 dl] := (by refine Box.below ?_ hb; repeat (first | (with_reducible assumption) | (with_reducible refine Box.drew ?_) | (with_reducible refine Box.drewN ?_ _) | ((with_reducible refine Box.new ?_); simp; done) | (with_reducible apply Box.set2) | (with_reducible refine Box.alloc ?_ _) | (with_reducible refine Box.other ?_ (by first | (dsimp only; omega) | omega) _)))
  have z_d5 := x_d5.lt
  have c_d5_0 := x_d5.c 0 _ rfl
  have f_d5_0 := x_d5.f 0 _ rfl
  have c_d5_1 := x_d5.c 1 _ rfl
  have f_d5_1 := x_d5.f 1 _ rfl
  have x_k5 : Box w5 (w4.heap.size) [.int .u64 ah, .int .u64 al] := (by refine Box.below ?_ hb; repeat (first | (with_reducible assumption) | (with_reducible refine Box.drew ?_) | (with_reducible refine Box.drewN ?_ _) | ((with_reducible refine Box.new ?_); simp; done) | (with_reducible apply Box.set2) | (with_reducible refine Box.alloc ?_ _) | (with_reducible refine Box.other ?_ (by first | (dsimp only; omega) | omega) _)))
  have z_k5 := x_k5.lt
  have c_k5_0 := x_k5.c 0 _ rfl
  have f_k5_0 := x_k5.f 0 _ rfl
  have c_k5_1 := x_k5.c 1 _ rfl
  have f_k5_1 := x_k5.f 1 _ rfl
  clear hb hB4 hs4 x_a4 z_a4 c_a4_0 c_a4_1 f_a4_0 f_a4_1 x_b4 z_b4 c_b4_0 c_b4_1 f_b4_0 f_b4_1 x_c4 z_c4 c_c4_0 c_c4_1 f_c4_0 f_c4_1 x_d4 z_d4 c_d4_0 c_d4_1 f_d4_0 f_d4_1
  clear x_d5 z_d5 c_d5_0 c_d5_1 f_d5_0 f_d5_1
  clear x_k5 z_k5 c_k5_0 c_k5_1 f_k5_0 f_k5_1
  go_wp2_with fail
  refine (add_no _ h1 h2 h5 h6 (Int.not_lt.2 ex.out)).mono ?_
  rintro e w6 ⟨rfl, hb⟩
  have hB6 : Below w.heap.size w w6 := below_thru (by go_grown) hb
  have hs6 : w.heap.size ≤ w6.heap.size := hB6.size
  have x_a6 : Box w6 (w.heap.size) [.int .u64 ah, .int .u64 al] := (by refine Box.below ?_ hb; repeat (first | (with_reducible assumption) | (with_reducible refine Box.drew ?_) | (with_reducible refine Box.drewN ?_ _) | ((with_reducible refine Box.new ?_); simp; done) | (with_reducible apply Box.set2) | (with_reducible refine Box.alloc ?_ _) | (with_reducible refine Box.other ?_ (by first | (dsimp only; omega) | omega) _)))
  have z_a6 := x_a6.lt
  have c_a6_0 := x_a6.c 0 _ rfl
  have f_a6_0 := x_a6.f 0 _ rfl
  have c_a6_1 := x_a6.c 1 _ rfl
  have f_a6_1 := x_a6.f 1 _ rfl
  have x_b6 : Box w6 (w.heap.size + 1) [.int .u64 ah, .int .u64 al] := (by refine Box.below ?_ hb; repeat (first | (with_reducible assumption) | (with_reducible refine Box.drew ?_) | (with_reducible refine Box.drewN ?_ _) | ((with_reducible refine Box.new ?_); simp; done) | (with_reducible apply Box.set2) | (with_reducible refine Box.alloc ?_ _) | (with_reducible refine Box.other ?_ (by first | (dsimp only; omega) | omega) _)))
  have z_b6 := x_b6.lt
  have c_b6_0 := x_b6.c 0 _ rfl
  have f_b6_0 := x_b6.f 0 _ rfl
  have c_b6_1 := x_b6.c 1 _ rfl
  have f_b6_1 := x_b6.f 1 _ rfl
  have x_c6 : Box w6 (w.heap.size + 1 + 1) [.int .u64 ch, .int .u64 cl] := (by refine Box.below ?_ hb; repeat (first | (with_reducible assumption) | (with_reducible refine Box.drew ?_) | (with_reducible refine Box.drewN ?_ _) | ((with_reducible refine Box.new ?_); simp; done) | (with_reducible apply Box.set2) | (with_reducible refine Box.alloc ?_ _) | (with_reducible refine Box.other ?_ (by first | (dsimp only; omega) | omega) _)))
  have z_c6 := x_c6.lt
  have c_c6_0 := x_c6.c 0 _ rfl
  have f_c6_0 := x_c6.f 0 _ rfl
  have c_c6_1 := x_c6.c 1 _ rfl
  have f_c6_1 := x_c6.f 1 _ rfl
  clear hb hB5 hs5 x_a5 z_a5 c_a5_0 c_a5_1 f_a5_0 f_a5_1 x_b5 z_b5 c_b5_0 c_b5_1 f_b5_0 f_b5_1 x_c5 z_c5 c_c5_0 c_c5_1 f_c5_0 f_c5_1
  go_wp2_with fail
  refine (cmp_ok _ h2 h6 em.out).mono ?_
  rintro e w7 ⟨rfl, hb⟩
  have hB7 : Below w.heap.size w w7 := below_thru (by go_grown) hb
  have hs7 : w.heap.size ≤ w7.heap.size := hB7.size
  have x_a7 : Box w7 (w.heap.size) [.int .u64 ah, .int .u64 al] := (by refine Box.below ?_ hb; repeat (first | (with_reducible assumption) | (with_reducible refine Box.drew ?_) | (with_reducible refine Box.drewN ?_ _) | ((with_reducible refine Box.new ?_); simp; done) | (with_reducible apply Box.set2) | (with_reducible refine Box.alloc ?_ _) | (with_reducible refine Box.other ?_ (by first | (dsimp only; omega) | omega) _)))
  have z_a7 := x_a7.lt
  have c_a7_0 := x_a7.c 0 _ rfl
  have f_a7_0 := x_a7.f 0 _ rfl
  have c_a7_1 := x_a7.c 1 _ rfl
  have f_a7_1 := x_a7.f 1 _ rfl
  have x_b7 : Box w7 (w.heap.size + 1) [.int .u64 ah, .int .u64 al] := (by refine Box.below ?_ hb; repeat (first | (with_reducible assumption) | (with_reducible refine Box.drew ?_) | (with_reducible refine Box.drewN ?_ _) | ((with_reducible refine Box.new ?_); simp; done) | (with_reducible apply Box.set2) | (with_reducible refine Box.alloc ?_ _) | (with_reducible refine Box.other ?_ (by first | (dsimp only; omega) | omega) _)))
  have z_b7 := x_b7.lt
  have c_b7_0 := x_b7.c 0 _ rfl
  have f_b7_0 := x_b7.f 0 _ rfl
  have c_b7_1 := x_b7.c 1 _ rfl
  have f_b7_1 := x_b7.f 1 _ rfl
  have x_c7 : Box w7 (w.heap.size + 1 + 1) [.int .u64 ch, .int .u64 cl] := (by refine Box.below ?_ hb; repeat (first | (with_reducible assumption) | (with_reducible refine Box.drew ?_) | (with_reducible refine Box.drewN ?_ _) | ((with_reducible refine Box.new ?_); simp; done) | (with_reducible apply Box.set2) | (with_reducible refine Box.alloc ?_ _) | (with_reducible refine Box.other ?_ (by first | (dsimp only; omega) | omega) _)))
  have z_c7 := x_c7.lt
  have c_c7_0 := x_c7.c 0 _ rfl
  have f_c7_0 := x_c7.f 0 _ rfl
  have c_c7_1 := x_c7.c 1 _ rfl
  have f_c7_1 := x_c7.f 1 _ rfl
  clear hb hB6 hs6 x_a6 z_a6 c_a6_0 c_a6_1 f_a6_0 f_a6_1 x_b6 z_b6 c_b6_0 c_b6_1 f_b6_0 f_b6_1 x_c6 z_c6 c_c6_0 c_c6_1 f_c6_0 f_c6_1
  go_wp2_with fail
  refine (cmp_ok _ h2 h6 ek.out).mono ?_
  rintro e w8 ⟨rfl, hb⟩
  have hB8 : Below w.heap.size w w8 := below_thru (by go_grown) hb
  have hs8 : w.heap.size ≤ w8.heap.size := hB8.size
  have x_a8 : Box w8 (w.heap.size) [.int .u64 ah, .int .u64 al] := (by refine Box.below ?_ hb; repeat (first | (with_reducible assumption) | (with_reducible refine Box.drew ?_) | (with_reducible refine Box.drewN ?_ _) | ((with_reducible refine Box.new ?_); simp; done) | (with_reducible apply Box.set2) | (with_reducible refine Box.alloc ?_ _) | (with_reducible refine Box.other ?_ (by first | (dsimp only; omega) | omega) _)))
  have z_a8 := x_a8.lt
  have c_a8_0 := x_a8.c 0 _ rfl
  have f_a8_0 := x_a8.f 0 _ rfl
  have c_a8_1 := x_a8.c 1 _ rfl
  have f_a8_1 := x_a8.f 1 _ rfl
  have x_b8 : Box w8 (w.heap.size + 1) [.int .u64 ah, .int .u64 al] := (by refine Box.below ?_ hb; repeat (first | (with_reducible assumption) | (with_reducible refine Box.drew ?_) | (with_reducible refine Box.drewN ?_ _) | ((with_reducible refine Box.new ?_); simp; done) | (with_reducible apply Box.set2) | (with_reducible refine Box.alloc ?_ _) | (with_reducible refine Box.other ?_ (by first | (dsimp only; omega) | omega) _)))
  have z_b8 := x_b8.lt
  have c_b8_0 := x_b8.c 0 _ rfl
  have f_b8_0 := x_b8.f 0 _ rfl
  have c_b8_1 := x_b8.c 1 _ rfl
  have f_b8_1 := x_b8.f 1 _ rfl
  have x_c8 : Box w8 (w.heap.size + 1 + 1) [.int .u64 ch, .int .u64 cl] := (by refine Box.below ?_ hb; repeat (first | (with_reducible assumption) | (with_reducible refine Box.drew ?_) | (with_reducible refine Box.drewN ?_ _) | ((with_reducible refine Box.new ?_); simp; done) | (with_reducible apply Box.set2) | (with_reducible refine Box.alloc ?_ _) | (with_reducible refine Box.other ?_ (by first | (dsimp only; omega) | omega) _)))
  have z_c8 := x_c8.lt
  have c_c8_0 := x_c8.c 0 _ rfl
  have f_c8_0 := x_c8.f 0 _ rfl
  have c_c8_1 := x_c8.c 1 _ rfl
  have f_c8_1 := x_c8.f 1 _ rfl
  clear hb hB7 hs7 x_a7 z_a7 c_a7_0 c_a7_1 f_a7_0 f_a7_1 x_b7 z_b7 c_b7_0 c_b7_1 f_b7_0 f_b7_1 x_c7 z_c7 c_c7_0 c_c7_1 f_c7_0 f_c7_1
  go_wp2_with fail
  refine (alive_any _).mono ?_
  rintro e w9 ⟨rfl, hb⟩
  have hB9 : Below w.heap.size w w9 := below_thru (by go_grown) hb
  have hs9 : w.heap.size ≤ w9.heap.size := hB9.size
  have x_a9 : Box w9 (w.heap.size) [.int .u64 ah, .int .u64 al] := (by refine Box.below ?_ hb; repeat (first | (with_reducible assumption) | (with_reducible refine Box.drew ?_) | (with_reducible refine Box.drewN ?_ _) | ((with_reducible refine Box.new ?_); simp; done) | (with_reducible apply Box.set2) | (with_reducible refine Box.alloc ?_ _) | (with_reducible refine Box.other ?_ (by first | (dsimp only; omega) | omega) _)))
  have z_a9 := x_a9.lt
  have c_a9_0 := x_a9.c 0 _ rfl
  have f_a9_0 := x_a9.f 0 _ rfl
  have c_a9_1 := x_a9.c 1 _ rfl
  have f_a9_1 := x_a9.f 1 _ rfl
  have x_b9 : Box w9 (w.heap.size + 1) [.int .u64 ah, .int .u64 al] := (by refine Box.below ?_ hb; repeat (first | (with_reducible assumption) | (with_reducible refine Box.drew ?_) | (with_reducible refine Box.drewN ?_ _) | ((with_reducible refine Box.new ?_); simp; done) | (with_reducible apply Box.set2) | (with_reducible refine Box.alloc ?_ _) | (with_reducible refine Box.other ?_ (by first | (dsimp only; omega) | omega) _)))
  have z_b9 := x_b9.lt
  have c_b9_0 := x_b9.c 0 _ rfl
  have f_b9_0 := x_b9.f 0 _ rfl
  have c_b9_1 := x_b9.c 1 _ rfl
  have f_b9_1 := x_b9.f 1 _ rfl
  have x_c9 : Box w9 (w.heap.size + 1 + 1) [.int .u64 ch, .int .u64 cl] := (by refine Box.below ?_ hb; repeat (first | (with_reducible assumption) | (with_reducible refine Box.drew ?_) | (with_reducible refine Box.drewN ?_ _) | ((with_reducible refine Box.new ?_); simp; done) | (with_reducible apply Box.set2) | (with_reducible refine Box.alloc ?_ _) | (with_reducible refine Box.other ?_ (by first | (dsimp only; omega) | omega) _)))
  have z_c9 := x_c9.lt
  have c_c9_0 := x_c9.c 0 _ rfl
  have f_c9_0 := x_c9.f 0 _ rfl
  have c_c9_1 := x_c9.c 1 _ rfl
  have f_c9_1 := x_c9.f 1 _ rfl
  clear hb hB8 hs8 x_a8 z_a8 c_a8_0 c_a8_1 f_a8_0 f_a8_1 x_b8 z_b8 c_b8_0 c_b8_1 f_b8_0 f_b8_1 x_c8 z_c8 c_c8_0 c_c8_1 f_c8_0 f_c8_1
  go_wp2
  go_returns
  refine ⟨rfl, ?_⟩
  go_grown

set_option maxRecDepth 100000 in
set_option maxHeartbeats 3200000 in
theorem less_gt_11_0 (ah al bh bl ch cl dh dl xh xl yh yl : Int) (w : World) (h1 : isU ah) (h2 : isU al) (h3 : isU bh) (h4 : isU bl) (h5 : isU ch) (h6 : isU cl) (en : Hid (cmpI (wN ah al) (wN bh bl) = 1)) (en' : Hid (cmpI (wN bh bl) (wN ah al) = -1)) (g1 : isU dh) (g2 : isU dl) (ed : Hid (wN ah al - wN bh bl = wN dh dl)) (ed' : Hid (wN dh dl + wN bh bl = wN ah al)) (ne : wEq ah al bh bl = false) (g3 : isU xh) (g4 : isU xl) (ex : Hid (wN ah al + wN ch cl = wN xh xl)) (g5 : isU yh) (g6 : isU yl) (ey : Hid (wN bh bl + wN ch cl = wN yh yl)) (exy : Hid (cmpI (wN xh xl) (wN yh yl) = 1)) :
    lessCall ah al bh bl ch cl w := by
  unfold lessCall
  have hq := fun w => eqW_run ah al bh bl w
  go_enter Try.func8, Try.ntmps8
  go_wp2_with fail
  refine (cmp_ok _ h2 h4 en.out).mono ?_
  rintro e w1 ⟨rfl, hb⟩
  have hB1 : Below w.heap.size w w1 := below_thru (by go_grown) hb
  have hs1 : w.heap.size ≤ w1.heap.size := hB1.size
  have x_a1 : Box w1 (w.heap.size) [.int .u64 ah, .int .u64 al] := (by refine Box.below ?_ hb; repeat (first | (with_reducible assumption) | (with_reducible refine Box.drew ?_) | (with_reducible refine Box.drewN ?_ _) | ((with_reducible refine Box.new ?_); simp; done) | (with_reducible apply Box.set2) | (with_reducible refine Box.alloc ?_ _) | (with_reducible refine Box.other ?_ (by first | (dsimp only; omega) | omega) _)))
  have z_a1 := x_a1.lt
  have c_a1_0 := x_a1.c 0 _ rfl
  have f_a1_0 := x_a1.f 0 _ rfl
  have c_a1_1 := x_a1.c 1 _ rfl
  have f_a1_1 := x_a1.f 1 _ rfl
  have x_b1 : Box w1 (w.heap.size + 1) [.int .u64 bh, .int .u64 bl] := (by refine Box.below ?_ hb; repeat (first | (with_reducible assumption) | (with_reducible refine Box.drew ?_) | (with_reducible refine Box.drewN ?_ _) | ((with_reducible refine Box.new ?_); simp; done) | (with_reducible apply Box.set2) | (with_reducible refine Box.alloc ?_ _) | (with_reducible refine Box.other ?_ (by first | (dsimp only; omega) | omega) _)))
  have z_b1 := x_b1.lt
  have c_b1_0 := x_b1.c 0 _ rfl
  have f_b1_0 := x_b1.f 0 _ rfl
  have c_b1_1 := x_b1.c 1 _ rfl
  have f_b1_1 := x_b1.f 1 _ rfl
  have x_c1 : Box w1 (w.heap.size + 1 + 1) [.int .u64 ch, .int .u64 cl] := (by refine Box.below ?_ hb; repeat (first | (with_reducible assumption) | (with_reducible refine Box.drew ?_) | (with_reducible refine Box.drewN ?_ _) | ((with_reducible refine Box.new ?_); simp; done) | (with_reducible apply Box.set2) | (with_reducible refine Box.alloc ?_ _) | (with_reducible refine Box.other ?_ (by first | (dsimp only; omega) | omega) _)))
  have z_c1 := x_c1.lt
  have c_c1_0 := x_c1.c 0 _ rfl
  have f_c1_0 := x_c1.f 0 _ rfl
  have c_c1_1 := x_c1.c 1 _ rfl
  have f_c1_1 := x_c1.f 1 _ rfl
  clear hb
  go_wp2_with fail
  refine (sub_ok _ h1 h2 h3 h4 g1 g2 ed.out).mono ?_
  rintro e w2 ⟨rfl, hb⟩
  have hB2 : Below w.heap.size w w2 := below_thru (by go_grown) hb
  have hs2 : w.heap.size ≤ w2.heap.size := hB2.size
  have x_a2 : Box w2 (w.heap.size) [.int .u64 ah, .int .u64 al] := (by refine Box.below ?_ hb; repeat (first | (with_reducible assumption) | (with_reducible refine Box.drew ?_) | (with_reducible refine Box.drewN ?_ _) | ((with_reducible refine Box.new ?_); simp; done) | (with_reducible apply Box.set2) | (with_reducible refine Box.alloc ?_ _) | (with_reducible refine Box.other ?_ (by first | (dsimp only; omega) | omega) _)))
  have z_a2 := x_a2.lt
  have c_a2_0 := x_a2.c 0 _ rfl
  have f_a2_0 := x_a2.f 0 _ rfl
  have c_a2_1 := x_a2.c 1 _ rfl
  have f_a2_1 := x_a2.f 1 _ rfl
  have x_b2 : Box w2 (w.heap.size + 1) [.int .u64 bh, .int .u64 bl] := (by refine Box.below ?_ hb; repeat (first | (with_reducible assumption) | (with_reducible refine Box.drew ?_) | (with_reducible refine Box.drewN ?_ _) | ((with_reducible refine Box.new ?_); simp; done) | (with_reducible apply Box.set2) | (with_reducible refine Box.alloc ?_ _) | (with_reducible refine Box.other ?_ (by first | (dsimp only; omega) | omega) _)))
  have z_b2 := x_b2.lt
  have c_b2_0 := x_b2.c 0 _ rfl
  have f_b2_0 := x_b2.f 0 _ rfl
  have c_b2_1 := x_b2.c 1 _ rfl
  have f_b2_1 := x_b2.f 1 _ rfl
  have x_c2 : Box w2 (w.heap.size + 1 + 1) [.int .u64 ch, .int .u64 cl] := (by refine Box.below ?_ hb; repeat (first | (with_reducible assumption) | (with_reducible refine Box.drew ?_) | (with_reducible refine Box.drewN ?_ _) | ((with_reducible refine Box.new ?_); simp; done) | (with_reducible apply Box.set2) | (with_reducible refine Box.alloc ?_ _) | (with_reducible refine Box.other ?_ (by first | (dsimp only; omega) | omega) _)))
  have z_c2 := x_c2.lt
  have c_c2_0 := x_c2.c 0 _ rfl
  have f_c2_0 := x_c2.f 0 _ rfl
  have c_c2_1 := x_c2.c 1 _ rfl
  have f_c2_1 := x_c2.f 1 _ rfl
  clear hb hB1 hs1 x_a1 z_a1 c_a1_0 c_a1_1 f_a1_0 f_a1_1 x_b1 z_b1 c_b1_0 c_b1_1 f_b1_0 f_b1_1 x_c1 z_c1 c_c1_0 c_c1_1 f_c1_0 f_c1_1
  go_wp2_with fail
  refine (cmp_ok _ h4 h2 en'.out).mono ?_
  rintro e w3 ⟨rfl, hb⟩
  have hB3 : Below w.heap.size w w3 := below_thru (by go_grown) hb
  have hs3 : w.heap.size ≤ w3.heap.size := hB3.size
  have x_a3 : Box w3 (w.heap.size) [.int .u64 ah, .int .u64 al] := (by refine Box.below ?_ hb; repeat (first | (with_reducible assumption) | (with_reducible refine Box.drew ?_) | (with_reducible refine Box.drewN ?_ _) | ((with_reducible refine Box.new ?_); simp; done) | (with_reducible apply Box.set2) | (with_reducible refine Box.alloc ?_ _) | (with_reducible refine Box.other ?_ (by first | (dsimp only; omega) | omega) _)))
  have z_a3 := x_a3.lt
  have c_a3_0 := x_a3.c 0 _ rfl
  have f_a3_0 := x_a3.f 0 _ rfl
  have c_a3_1 := x_a3.c 1 _ rfl
  have f_a3_1 := x_a3.f 1 _ rfl
  have x_b3 : Box w3 (w.heap.size + 1) [.int .u64 bh, .int .u64 bl] := (by refine Box.below ?_ hb; repeat (first | (with_reducible assumption) | (with_reducible refine Box.drew ?_) | (with_reducible refine Box.drewN ?_ _) | ((with_reducible refine Box.new ?_); simp; done) | (with_reducible apply Box.set2) | (with_reducible refine Box.alloc ?_ _) | (with_reducible refine Box.other ?_ (by first | (dsimp only; omega) | omega) _)))
  have z_b3 := x_b3.lt
  have c_b3_0 := x_b3.c 0 _ rfl
  have f_b3_0 := x_b3.f 0 _ rfl
  have c_b3_1 := x_b3.c 1 _ rfl
  have f_b3_1 := x_b3.f 1 _ rfl
  have x_c3 : Box w3 (w.heap.size + 1 + 1) [.int .u64 ch, .int .u64 cl] := (by refine Box.below ?_ hb; repeat (first | (with_reducible assumption) | (with_reducible refine Box.drew ?_) | (with_reducible refine Box.drewN ?_ _) | ((with_reducible refine Box.new ?_); simp; done) | (with_reducible apply Box.set2) | (with_reducible refine Box.alloc ?_ _) | (with_reducible refine Box.other ?_ (by first | (dsimp only; omega) | omega) _)))
  have z_c3 := x_c3.lt
  have c_c3_0 := x_c3.c 0 _ rfl
  have f_c3_0 := x_c3.f 0 _ rfl
  have c_c3_1 := x_c3.c 1 _ rfl
  have f_c3_1 := x_c3.f 1 _ rfl
  have x_d3 : Box w3 (w2.heap.size) [.int .u64 dh, .int .u64 dl] := (by refine Box.below ?_ hb; repeat (first | (with_reducible assumption) | (with_reducible refine Box.drew ?_) | (with_reducible refine Box.drewN ?_ _) | ((with_reducible refine Box.new ?_); simp; done) | (with_reducible apply Box.set2) | (with_reducible refine Box.alloc ?_ _) | (with_reducible refine Box.other ?_ (by first | (dsimp only; omega) | omega) _)))
  have z_d3 := x_d3.lt
  have c_d3_0 := x_d3.c 0 _ rfl
  have f_d3_0 := x_d3.f 0 _ rfl
  have c_d3_1 := x_d3.c 1 _ rfl
  have f_d3_1 := x_d3.f 1 _ rfl
  clear hb hB2 hs2 x_a2 z_a2 c_a2_0 c_a2_1 f_a2_0 f_a2_1 x_b2 z_b2 c_b2_0 c_b2_1 f_b2_0 f_b2_1 x_c2 z_c2 c_c2_0 c_c2_1 f_c2_0 f_c2_1
  go_wp2_with fail
  refine (add_ok _ g1 g2 h3 h4 h1 h2 ed'.out).mono ?_
  rintro e w4 ⟨rfl, hb⟩
  have hB4 : Below w.heap.size w w4 := below_thru (by go_grown) hb
  have hs4 : w.heap.size ≤ w4.heap.size := hB4.size
  have x_a4 : Box w4 (w.heap.size) [.int .u64 ah, .int .u64 al] := (by refine Box.below ?_ hb; repeat (first | (with_reducible assumption) | (with_reducible refine Box.drew ?_) | (with_reducible refine Box.drewN ?_ _) | ((with_reducible refine Box.new ?_); simp; done) | (with_reducible apply Box.set2) | (with_reducible refine Box.alloc ?_ _) | (with_reducible refine Box.other ?_ (by first | (dsimp only; omega) | omega) _)))
  have z_a4 := x_a4.lt
  have c_a4_0 := x_a4.c 0 _ rfl
  have f_a4_0 := x_a4.f 0 _ rfl
  have c_a4_1 := x_a4.c 1 _ rfl
  have f_a4_1 := x_a4.f 1 _ rfl
  have x_b4 : Box w4 (w.heap.size + 1) [.int .u64 bh, .int .u64 bl] := (by refine Box.below ?_ hb; repeat (first | (with_reducible assumption) | (with_reducible refine Box.drew ?_) | (with_reducible refine Box.drewN ?_ _) | ((with_reducible refine Box.new ?_); simp; done) | (with_reducible apply Box.set2) | (with_reducible refine Box.alloc ?_ _) | (with_reducible refine Box.other ?_ (by first | (dsimp only; omega) | omega) _)))
  have z_b4 := x_b4.lt
  have c_b4_0 := x_b4.c 0 _ rfl
  have f_b4_0 := x_b4.f 0 _ rfl
  have c_b4_1 := x_b4.c 1 _ rfl
  have f_b4_1 := x_b4.f 1 _ rfl
  have x_c4 : Box w4 (w.heap.size + 1 + 1) [.int .u64 ch, .int .u64 cl] := (by refine Box.below ?_ hb; repeat (first | (with_reducible assumption) | (with_reducible refine Box.drew ?_) | (with_reducible refine Box.drewN ?_ _) | ((with_reducible refine Box.new ?_); simp; done) | (with_reducible apply Box.set2) | (with_reducible refine Box.alloc ?_ _) | (with_reducible refine Box.other ?_ (by first | (dsimp only; omega) | omega) _)))
  have z_c4 := x_c4.lt
  have c_c4_0 := x_c4.c 0 _ rfl
  have f_c4_0 := x_c4.f 0 _ rfl
  have c_c4_1 := x_c4.c 1 _ rfl
  have f_c4_1 := x_c4.f 1 _ rfl
  have x_d4 : Box w4 (w2.heap.size) [.int .u64 dh, .int .u64 dl] := (by refine Box.below ?_ hb; repeat (first | (with_reducible assumption) | (with_reducible refine Box.drew ?_) | (with_reducible refine Box.drewN ?_ _) | ((with_reducible refine Box.new ?_); simp; done) | (with_reducible apply Box.set2) | (with_reducible refine Box.alloc ?_ _) | (with_reducible refine Box.other ?_ (by first | (dsimp only; omega) | omega) _)))
  have z_d4 := x_d4.lt
  have c_d4_0 := x_d4.c 0 _ rfl
  have f_d4_0 := x_d4.f 0 _ rfl
  have c_d4_1 := x_d4.c 1 _ rfl
  have f_d4_1 := x_d4.f 1 _ rfl
  clear hb hB3 hs3 x_a3 z_a3 c_a3_0 c_a3_1 f_a3_0 f_a3_1 x_b3 z_b3 c_b3_0 c_b3_1 f_b3_0 f_b3_1 x_c3 z_c3 c_c3_0 c_c3_1 f_c3_0 f_c3_1 x_d3 z_d3 c_d3_0 c_d3_1 f_d3_0 f_d3_1
  go_wp2_with fail
  refine (add_ok _ h1 h2 h5 h6 g3 g4 ex.out).mono ?_
  rintro e w5 ⟨rfl, hb⟩
  have hB5 : Below w.heap.size w w5 := below_thru (by go_grown) hb
  have hs5 : w.heap.size ≤ w5.heap.size := hB5.size
  have x_a5 : Box w5 (w.heap.size) [.int .u64 ah, .int .u64 al] := (by refine Box.below ?_ hb; repeat (first | (with_reducible assumption) | (with_reducible refine Box.drew ?_) | (with_reducible refine Box.drewN ?_ _) | ((with_reducible refine Box.new ?_); simp; done) | (with_reducible apply Box.set2) | (with_reducible refine Box.alloc ?_ _) | (with_reducible refine Box.other ?_ (by first | (dsimp only; omega) | omega) _)))
  have z_a5 := x_a5.lt
  have c_a5_0 := x_a5.c 0 _ rfl
  have f_a5_0 := x_a5.f 0 _ rfl
  have c_a5_1 := x_a5.c 1 _ rfl
  have f_a5_1 := x_a5.f 1 _ rfl
  have x_b5 : Box w5 (w.heap.size + 1) [.int .u64 bh, .int .u64 bl] := (by refine Box.below ?_ hb; repeat (first | (with_reducible assumption) | (with_reducible refine Box.drew ?_) | (with_reducible refine Box.drewN ?_ _) | ((with_reducible refine Box.new ?_); simp; done) | (with_reducible apply Box.set2) | (with_reducible refine Box.alloc ?_ _) | (with_reducible refine Box.other ?_ (by first | (dsimp only; omega) | omega) _)))
  have z_b5 := x_b5.lt
  have c_b5_0 := x_b5.c 0 _ rfl
  have f_b5_0 := x_b5.f 0 _ rfl
  have c_b5_1 := x_b5.c 1 _ rfl
  have f_b5_1 := x_b5.f 1 _ rfl
  have x_c5 : Box w5 (w.heap.size + 1 + 1) [.int .u64 ch, .int .u64 cl] := (by refine Box.below ?_ hb; repeat (first | (with_reducible assumption) | (with_reducible refine Box.drew ?_) | (with_reducible refine Box.drewN ?_ _) | ((with_reducible refine Box.new ?_); simp; done) | (with_reducible apply Box.set2) | (with_reducible refine Box.alloc ?_ _) | (with_reducible refine Box.other ?_ (by first | (dsimp only; omega) | omega) _)))
  have z_c5 := x_c5.lt
  have c_c5_0 := x_c5.c 0 _ rfl
  have f_c5_0 := x_c5.f 0 _ rfl
  have c_c5_1 := x_c5.c 1 _ rfl
  have f_c5_1 := x_c5.f 1 _ rfl
  have x_d5 : Box w5 (w2.heap.size) [.int .u64 dh, .int .u64 dl] := (by refine Box.below ?_ hb; repeat (first | (with_reducible assumption) | (with_reducible refine Box.drew ?_) | (with_reducible refine Box.drewN ?_ _) | ((with_reducible refine Box.new ?_); simp; done) | (with_reducible apply Box.set2) | (with_reducible refine Box.alloc ?_ _) | (with_reducible refine Box.other ?_ (by first | (dsimp only; omega) | omega) _)))
  have z_d5 := x_d5.lt
  have c_d5_0 := x_d5.c 0 _ rfl
  have f_d5_0 := x_d5.f 0 _ rfl
  have c_d5_1 := x_d5.c 1 _ rfl
  have f_d5_1 := x_d5.f 1 _ rfl
  have x_k5 : Box w5 (w4.heap.size) [.int .u64 ah, .int .u64 al] := (by refine Box.below ?_ hb; repeat (first | (with_reducible assumption) | (with_reducible refine Box.drew ?_) | (with_reducible refine Box.drewN ?_ _) | ((with_reducible refine Box.new ?_); simp; done) | (with_reducible apply Box.set2) | (with_reducible refine Box.alloc ?_ _) | (with_reducible refine Box.other ?_ (by first | (dsimp only; omega) | omega) _)))
  have z_k5 := x_k5.lt
  have c_k5_0 := x_k5.c 0 _ rfl
  have f_k5_0 := x_k5.f 0 _ rfl
  have c_k5_1 := x_k5.c 1 _ rfl
  have f_k5_1 := x_k5.f 1 _ rfl
  clear hb hB4 hs4 x_a4 z_a4 c_a4_0 c_a4_1 f_a4_0 f_a4_1 x_b4 z_b4 c_b4_0 c_b4_1 f_b4_0 f_b4_1 x_c4 z_c4 c_c4_0 c_c4_1 f_c4_0 f_c4_1 x_d4 z_d4 c_d4_0 c_d4_1 f_d4_0 f_d4_1
  clear x_d5 z_d5 c_d5_0 c_d5_1 f_d5_0 f_d5_1
  clear x_k5 z_k5 c_k5_0 c_k5_1 f_k5_0 f_k5_1
  go_wp2_with fail
  refine (add_ok _ h3 h4 h5 h6 g5 g6 ey.out).mono ?_
  rintro e w6 ⟨rfl, hb⟩
  have hB6 : Below w.heap.size w w6 := below_thru (by go_grown) hb
  have hs6 : w.heap.size ≤ w6.heap.size := hB6.size
  have x_a6 : Box w6 (w.heap.size) [.int .u64 ah, .int .u64 al] := (by refine Box.below ?_ hb; repeat (first | (with_reducible assumption) | (with_reducible refine Box.drew ?_) | (with_reducible refine Box.drewN ?_ _) | ((with_reducible refine Box.new ?_); simp; done) | (with_reducible apply Box.set2) | (with_reducible refine Box.alloc ?_ _) | (with_reducible refine Box.other ?_ (by first | (dsimp only; omega) | omega) _)))
  have z_a6 := x_a6.lt
  have c_a6_0 := x_a6.c 0 _ rfl
  have f_a6_0 := x_a6.f 0 _ rfl
  have c_a6_1 := x_a6.c 1 _ rfl
  have f_a6_1 := x_a6.f 1 _ rfl
  have x_b6 : Box w6 (w.heap.size + 1) [.int .u64 bh, .int .u64 bl] := (by refine Box.below ?_ hb; repeat (first | (with_reducible assumption) | (with_reducible refine Box.drew ?_) | (with_reducible refine Box.drewN ?_ _) | ((with_reducible refine Box.new ?_); simp; done) | (with_reducible apply Box.set2) | (with_reducible refine Box.alloc ?_ _) | (with_reducible refine Box.other ?_ (by first | (dsimp only; omega) | omega) _)))
  have z_b6 := x_b6.lt
  have c_b6_0 := x_b6.c 0 _ rfl
  have f_b6_0 := x_b6.f 0 _ rfl
  have c_b6_1 := x_b6.c 1 _ rfl
  have f_b6_1 := x_b6.f 1 _ rfl
  have x_c6 : Box w6 (w.heap.size + 1 + 1) [.int .u64 ch, .int .u64 cl] := (by refine Box.below ?_ hb; repeat (first | (with_reducible assumption) | (with_reducible refine Box.drew ?_) | (with_reducible refine Box.drewN ?_ _) | ((with_reducible refine Box.new ?_); simp; done) | (with_reducible apply Box.set2) | (with_reducible refine Box.alloc ?_ _) | (with_reducible refine Box.other ?_ (by first | (dsimp only; omega) | omega) _)))
  have z_c6 := x_c6.lt
  have c_c6_0 := x_c6.c 0 _ rfl
  have f_c6_0 := x_c6.f 0 _ rfl
  have c_c6_1 := x_c6.c 1 _ rfl
  have f_c6_1 := x_c6.f 1 _ rfl
  have x_x6 : Box w6 (w5.heap.size) [.int .u64 xh, .int .u64 xl] := (by refine Box.below ?_ hb; repeat (first | (with_reducible assumption) | (with_reducible refine Box.drew ?_) | (with_reducible refine Box.drewN ?_ _) | ((with_reducible refine Box.new ?_); simp; done) | (with_reducible apply Box.set2) | (with_reducible refine Box.alloc ?_ _) | (with_reducible refine Box.other ?_ (by first | (dsimp only; omega) | omega) _)))
  have z_x6 := x_x6.lt
  have c_x6_0 := x_x6.c 0 _ rfl
  have f_x6_0 := x_x6.f 0 _ rfl
  have c_x6_1 := x_x6.c 1 _ rfl
  have f_x6_1 := x_x6.f 1 _ rfl
  clear hb hB5 hs5 x_a5 z_a5 c_a5_0 c_a5_1 f_a5_0 f_a5_1 x_b5 z_b5 c_b5_0 c_b5_1 f_b5_0 f_b5_1 x_c5 z_c5 c_c5_0 c_c5_1 f_c5_0 f_c5_1
  go_wp2_with fail
  refine (cmp_ok _ g4 g6 exy.out).mono ?_
  rintro e w7 ⟨rfl, hb⟩
  have hB7 : Below w.heap.size w w7 := below_thru (by go_grown) hb
  have hs7 : w.heap.size ≤ w7.heap.size := hB7.size
  have x_a7 : Box w7 (w.heap.size) [.int .u64 ah, .int .u64 al] := (by refine Box.below ?_ hb; repeat (first | (with_reducible assumption) | (with_reducible refine Box.drew ?_) | (with_reducible refine Box.drewN ?_ _) | ((with_reducible refine Box.new ?_); simp; done) | (with_reducible apply Box.set2) | (with_reducible refine Box.alloc ?_ _) | (with_reducible refine Box.other ?_ (by first | (dsimp only; omega) | omega) _)))
  have z_a7 := x_a7.lt
  have c_a7_0 := x_a7.c 0 _ rfl
  have f_a7_0 := x_a7.f 0 _ rfl
  have c_a7_1 := x_a7.c 1 _ rfl
  have f_a7_1 := x_a7.f 1 _ rfl
  have x_b7 : Box w7 (w.heap.size + 1) [.int .u64 bh, .int .u64 bl] := (by refine Box.below ?_ hb; repeat (first | (with_reducible assumption) | (with_reducible refine Box.drew ?_) | (with_reducible refine Box.drewN ?_ _) | ((with_reducible refine Box.new ?_); simp; done) | (with_reducible apply Box.set2) | (with_reducible refine Box.alloc ?_ _) | (with_reducible refine Box.other ?_ (by first | (dsimp only; omega) | omega) _)))
  have z_b7 := x_b7.lt
  have c_b7_0 := x_b7.c 0 _ rfl
  have f_b7_0 := x_b7.f 0 _ rfl
  have c_b7_1 := x_b7.c 1 _ rfl
  have f_b7_1 := x_b7.f 1 _ rfl
  have x_c7 : Box w7 (w.heap.size + 1 + 1) [.int .u64 ch, .int .u64 cl] := (by refine Box.below ?_ hb; repeat (first | (with_reducible assumption) | (with_reducible refine Box.drew ?_) | (with_reducible refine Box.drewN ?_ _) | ((with_reducible refine Box.new ?_); simp; done) | (with_reducible apply Box.set2) | (with_reducible refine Box.alloc ?_ _) | (with_reducible refine Box.other ?_ (by first | (dsimp only; omega) | omega) _)))
  have z_c7 := x_c7.lt
  have c_c7_0 := x_c7.c 0 _ rfl
  have f_c7_0 := x_c7.f 0 _ rfl
  have c_c7_1 := x_c7.c 1 _ rfl
  have f_c7_1 := x_c7.f 1 _ rfl
  have x_x7 : Box w7 (w5.heap.size) [.int .u64 xh, .int .u64 xl] := (by refine Box.below ?_ hb; repeat (first | (with_reducible assumption) | (with_reducible refine Box.drew ?_) | (with_reducible refine Box.drewN ?_ _) | ((with_reducible refine Box.new ?_); simp; done) | (with_reducible apply Box.set2) | (with_reducible refine Box.alloc ?_ _) | (with_reducible refine Box.other ?_ (by first | (dsimp only; omega) | omega) _)))
  have z_x7 := x_x7.lt
  have c_x7_0 := x_x7.c 0 _ rfl
  have f_x7_0 := x_x7.f 0 _ rfl
  have c_x7_1 := x_x7.c 1 _ rfl
  have f_x7_1 := x_x7.f 1 _ rfl
  have x_y7 : Box w7 (w6.heap.size) [.int .u64 yh, .int .u64 yl] := (by refine Box.below ?_ hb; repeat (first | (with_reducible assumption) | (with_reducible refine Box.drew ?_) | (with_reducible refine Box.drewN ?_ _) | ((with_reducible refine Box.new ?_); simp; done) | (with_reducible apply Box.set2) | (with_reducible refine Box.alloc ?_ _) | (with_reducible refine Box.other ?_ (by first | (dsimp only; omega) | omega) _)))
  have z_y7 := x_y7.lt
  have c_y7_0 := x_y7.c 0 _ rfl
  have f_y7_0 := x_y7.f 0 _ rfl
  have c_y7_1 := x_y7.c 1 _ rfl
  have f_y7_1 := x_y7.f 1 _ rfl
  clear hb hB6 hs6 x_a6 z_a6 c_a6_0 c_a6_1 f_a6_0 f_a6_1 x_b6 z_b6 c_b6_0 c_b6_1 f_b6_0 f_b6_1 x_c6 z_c6 c_c6_0 c_c6_1 f_c6_0 f_c6_1 x_x6 z_x6 c_x6_0 c_x6_1 f_x6_0 f_x6_1
  go_wp2_with fail
  refine (wcmp_any _ _ _ _ _ h4 h6).mono ?_
  rintro e w8 ⟨rfl, hb⟩
  have hB8 : Below w.heap.size w w8 := below_thru (by go_grown) hb
  have hs8 : w.heap.size ≤ w8.heap.size := hB8.size
  have x_a8 : Box w8 (w.heap.size) [.int .u64 ah, .int .u64 al] := (by refine Box.below ?_ hb; repeat (first | (with_reducible assumption) | (with_reducible refine Box.drew ?_) | (with_reducible refine Box.drewN ?_ _) | ((with_reducible refine Box.new ?_); simp; done) | (with_reducible apply Box.set2) | (with_reducible refine Box.alloc ?_ _) | (with_reducible refine Box.other ?_ (by first | (dsimp only; omega) | omega) _)))
  have z_a8 := x_a8.lt
  have c_a8_0 := x_a8.c 0 _ rfl
  have f_a8_0 := x_a8.f 0 _ rfl
  have c_a8_1 := x_a8.c 1 _ rfl
  have f_a8_1 := x_a8.f 1 _ rfl
  have x_b8 : Box w8 (w.heap.size + 1) [.int .u64 bh, .int .u64 bl] := (by refine Box.below ?_ hb; repeat (first | (with_reducible assumption) | (with_reducible refine Box.drew ?_) | (with_reducible refine Box.drewN ?_ _) | ((with_reducible refine Box.new ?_); simp; done) | (with_reducible apply Box.set2) | (with_reducible refine Box.alloc ?_ _) | (with_reducible refine Box.other ?_ (by first | (dsimp only; omega) | omega) _)))
  have z_b8 := x_b8.lt
  have c_b8_0 := x_b8.c 0 _ rfl
  have f_b8_0 := x_b8.f 0 _ rfl
  have c_b8_1 := x_b8.c 1 _ rfl
  have f_b8_1 := x_b8.f 1 _ rfl
  have x_c8 : Box w8 (w.heap.size + 1 + 1) [.int .u64 ch, .int .u64 cl] := (by refine Box.below ?_ hb; repeat (first | (with_reducible assumption) | (with_reducible refine Box.drew ?_) | (with_reducible refine Box.drewN ?_ _) | ((with_reducible refine Box.new ?_); simp; done) | (with_reducible apply Box.set2) | (with_reducible refine Box.alloc ?_ _) | (with_reducible refine Box.other ?_ (by first | (dsimp only; omega) | omega) _)))
  have z_c8 := x_c8.lt
  have c_c8_0 := x_c8.c 0 _ rfl
  have f_c8_0 := x_c8.f 0 _ rfl
  have c_c8_1 := x_c8.c 1 _ rfl
  have f_c8_1 := x_c8.f 1 _ rfl
  have x_x8 : Box w8 (w5.heap.size) [.int .u64 xh, .int .u64 xl] := (by refine Box.below ?_ hb; repeat (first | (with_reducible assumption) | (with_reducible refine Box.drew ?_) | (with_reducible refine Box.drewN ?_ _) | ((with_reducible refine Box.new ?_); simp; done) | (with_reducible apply Box.set2) | (with_reducible refine Box.alloc ?_ _) | (with_reducible refine Box.other ?_ (by first | (dsimp only; omega) | omega) _)))
  have z_x8 := x_x8.lt
  have c_x8_0 := x_x8.c 0 _ rfl
  have f_x8_0 := x_x8.f 0 _ rfl
  have c_x8_1 := x_x8.c 1 _ rfl
  have f_x8_1 := x_x8.f 1 _ rfl
  have x_y8 : Box w8 (w6.heap.size) [.int .u64 yh, .int .u64 yl] := (by refine Box.below ?_ hb; repeat (first | (with_reducible assumption) | (with_reducible refine Box.drew ?_) | (with_reducible refine Box.drewN ?_ _) | ((with_reducible refine Box.new ?_); simp; done) | (with_reducible apply Box.set2) | (with_reducible refine Box.alloc ?_ _) | (with_reducible refine Box.other ?_ (by first | (dsimp only; omega) | omega) _)))
  have z_y8 := x_y8.lt
  have c_y8_0 := x_y8.c 0 _ rfl
  have f_y8_0 := x_y8.f 0 _ rfl
  have c_y8_1 := x_y8.c 1 _ rfl
  have f_y8_1 := x_y8.f 1 _ rfl
  clear hb hB7 hs7 x_a7 z_a7 c_a7_0 c_a7_1 f_a7_0 f_a7_1 x_b7 z_b7 c_b7_0 c_b7_1 f_b7_0 f_b7_1 x_c7 z_c7 c_c7_0 c_c7_1 f_c7_0 f_c7_1 x_x7 z_x7 c_x7_0 c_x7_1 f_x7_0 f_x7_1 x_y7 z_y7 c_y7_0 c_y7_1 f_y7_0 f_y7_1
  go_wp2_with fail
  refine (alive_any _).mono ?_
  rintro e w9 ⟨rfl, hb⟩
  have hB9 : Below w.heap.size w w9 := below_thru (by go_grown) hb
  have hs9 : w.heap.size ≤ w9.heap.size := hB9.size
  have x_a9 : Box w9 (w.heap.size) [.int .u64 ah, .int .u64 al] := (by refine Box.below ?_ hb; repeat (first | (with_reducible assumption) | (with_reducible refine Box.drew ?_) | (with_reducible refine Box.drewN ?_ _) | ((with_reducible refine Box.new ?_); simp; done) | (with_reducible apply Box.set2) | (with_reducible refine Box.alloc ?_ _) | (with_reducible refine Box.other ?_ (by first | (dsimp only; omega) | omega) _)))
  have z_a9 := x_a9.lt
  have c_a9_0 := x_a9.c 0 _ rfl
  have f_a9_0 := x_a9.f 0 _ rfl
  have c_a9_1 := x_a9.c 1 _ rfl
  have f_a9_1 := x_a9.f 1 _ rfl
  have x_b9 : Box w9 (w.heap.size + 1) [.int .u64 bh, .int .u64 bl] := (by refine Box.below ?_ hb; repeat (first | (with_reducible assumption) | (with_reducible refine Box.drew ?_) | (with_reducible refine Box.drewN ?_ _) | ((with_reducible refine Box.new ?_); simp; done) | (with_reducible apply Box.set2) | (with_reducible refine Box.alloc ?_ _) | (with_reducible refine Box.other ?_ (by first | (dsimp only; omega) | omega) _)))
  have z_b9 := x_b9.lt
  have c_b9_0 := x_b9.c 0 _ rfl
  have f_b9_0 := x_b9.f 0 _ rfl
  have c_b9_1 := x_b9.c 1 _ rfl
  have f_b9_1 := x_b9.f 1 _ rfl
  have x_c9 : Box w9 (w.heap.size + 1 + 1) [.int .u64 ch, .int .u64 cl] := (by refine Box.below ?_ hb; repeat (first | (with_reducible assumption) | (with_reducible refine Box.drew ?_) | (with_reducible refine Box.drewN ?_ _) | ((with_reducible refine Box.new ?_); simp; done) | (with_reducible apply Box.set2) | (with_reducible refine Box.alloc ?_ _) | (with_reducible refine Box.other ?_ (by first | (dsimp only; omega) | omega) _)))
  have z_c9 := x_c9.lt
  have c_c9_0 := x_c9.c 0 _ rfl
  have f_c9_0 := x_c9.f 0 _ rfl
  have c_c9_1 := x_c9.c 1 _ rfl
  have f_c9_1 := x_c9.f 1 _ rfl
  have x_x9 : Box w9 (w5.heap.size) [.int .u64 xh, .int .u64 xl] := (by refine Box.below ?_ hb; repeat (first | (with_reducible assumption) | (with_reducible refine Box.drew ?_) | (with_reducible refine Box.drewN ?_ _) | ((with_reducible refine Box.new ?_); simp; done) | (with_reducible apply Box.set2) | (with_reducible refine Box.alloc ?_ _) | (with_reducible refine Box.other ?_ (by first | (dsimp only; omega) | omega) _)))
  have z_x9 := x_x9.lt
  have c_x9_0 := x_x9.c 0 _ rfl
  have f_x9_0 := x_x9.f 0 _ rfl
  have c_x9_1 := x_x9.c 1 _ rfl
  have f_x9_1 := x_x9.f 1 _ rfl
  have x_y9 : Box w9 (w6.heap.size) [.int .u64 yh, .int .u64 yl] := (by refine Box.below ?_ hb; repeat (first | (with_reducible assumption) | (with_reducible refine Box.drew ?_) | (with_reducible refine Box.drewN ?_ _) | ((with_reducible refine Box.new ?_); simp; done) | (with_reducible apply Box.set2) | (with_reducible refine Box.alloc ?_ _) | (with_reducible refine Box.other ?_ (by first | (dsimp only; omega) | omega) _)))
  have z_y9 := x_y9.lt
  have c_y9_0 := x_y9.c 0 _ rfl
  have f_y9_0 := x_y9.f 0 _ rfl
  have c_y9_1 := x_y9.c 1 _ rfl
  have f_y9_1 := x_y9.f 1 _ rfl
  clear hb hB8 hs8 x_a8 z_a8 c_a8_0 c_a8_1 f_a8_0 f_a8_1 x_b8 z_b8 c_b8_0 c_b8_1 f_b8_0 f_b8_1 x_c8 z_c8 c_c8_0 c_c8_1 f_c8_0 f_c8_1 x_x8 z_x8 c_x8_0 c_x8_1 f_x8_0 f_x8_1 x_y8 z_y8 c_y8_0 c_y8_1 f_y8_0 f_y8_1
  go_wp2
  go_returns
  refine ⟨rfl, ?_⟩
  go_grown

set_option maxRecDepth 100000 in
set_option maxHeartbeats 3200000 in
theorem less_gt_01_0 (ah al bh bl ch cl dh dl yh yl : Int) (w : World) (h1 : isU ah) (h2 : isU al) (h3 : isU bh) (h4 : isU bl) (h5 : isU ch) (h6 : isU cl) (en : Hid (cmpI (wN ah al) (wN bh bl) = 1)) (en' : Hid (cmpI (wN bh bl) (wN ah al) = -1)) (g1 : isU dh) (g2 : isU dl) (ed : Hid (wN ah al - wN bh bl = wN dh dl)) (ed' : Hid (wN dh dl + wN bh bl = wN ah al)) (ne : wEq ah al bh bl = false) (ex : Hid (340282366920938463463374607431768211456 ≤ wN ah al + wN ch cl)) (g5 : isU yh) (g6 : isU yl) (ey : Hid (wN bh bl + wN ch cl = wN yh yl)) :
    lessCall ah al bh bl ch cl w := by
  unfold lessCall
  have hq := fun w => eqW_run ah al bh bl w
  go_enter Try.func8, Try.ntmps8
  go_wp2_with fail
  refine (cmp_ok _ h2 h4 en.out).mono ?_
  rintro e w1 ⟨rfl, hb⟩
  have hB1 : Below w.heap.size w w1 := below_thru (by go_grown) hb
  have hs1 : w.heap.size ≤ w1.heap.size := hB1.size
  have x_a1 : Box w1 (w.heap.size) [.int .u64 ah, .int .u64 al] := (by refine Box.below ?_ hb; repeat (first | (with_reducible assumption) | (with_reducible refine Box.drew ?_) | (with_reducible refine Box.drewN ?_ _) | ((with_reducible refine Box.new ?_); simp; done) | (with_reducible apply Box.set2) | (with_reducible refine Box.alloc ?_ _) | (with_reducible refine Box.other ?_ (by first | (dsimp only; omega) | omega) _)))
  have z_a1 := x_a1.lt
  have c_a1_0 := x_a1.c 0 _ rfl
  have f_a1_0 := x_a1.f 0 _ rfl
  have c_a1_1 := x_a1.c 1 _ rfl
  have f_a1_1 := x_a1.f 1 _ rfl
  have x_b1 : Box w1 (w.heap.size + 1) [.int .u64 bh, .int .u64 bl] := (by refine Box.below ?_ hb; repeat (first | (with_reducible assumption) | (with_reducible refine Box.drew ?_) | (with_reducible refine Box.drewN ?_ _) | ((with_reducible refine Box.new ?_); simp; done) | (with_reducible apply Box.set2) | (with_reducible refine Box.alloc ?_ _) | (with_reducible refine Box.other ?_ (by first | (dsimp only; omega) | omega) _)))
  have z_b1 := x_b1.lt
  have c_b1_0 := x_b1.c 0 _ rfl
  have f_b1_0 := x_b1.f 0 _ rfl
  have c_b1_1 := x_b1.c 1 _ rfl
  have f_b1_1 := x_b1.f 1 _ rfl
  have x_c1 : Box w1 (w.heap.size + 1 + 1) [.int .u64 ch, .int .u64 cl] := (by refine Box.below ?_ hb; repeat (first | (with_reducible assumption) | (with_reducible refine Box.drew ?_) | (with_reducible refine Box.drewN ?_ _) | ((with_reducible refine Box.new ?_); simp; done) | (with_reducible apply Box.set2) | (with_reducible refine Box.alloc ?_ _) | (with_reducible refine Box.other ?_ (by first | (dsimp only; omega) | omega) _)))
  have z_c1 := x_c1.lt
  have c_c1_0 := x_c1.c 0 _ rfl
  have f_c1_0 := x_c1.f 0 _ rfl
  have c_c1_1 := x_c1.c 1 _ rfl
  have f_c1_1 := x_c1.f 1 _ rfl
  clear hb
  go_wp2_with fail
  refine (sub_ok _ h1 h2 h3 h4 g1 g2 ed.out).mono ?_
  rintro e w2 ⟨rfl, hb⟩
  have hB2 : Below w.heap.size w w2 := below_thru (by go_grown) hb
  have hs2 : w.heap.size ≤ w2.heap.size := hB2.size
  have x_a2 : Box w2 (w.heap.size) [.int .u64 ah, .int .u64 al] := (by refine Box.below ?_ hb; repeat (first | (with_reducible assumption) | (with_reducible refine Box.drew ?_) | (with_reducible refine Box.drewN ?_ _) | ((with_reducible refine Box.new ?_); simp; done) | (with_reducible apply Box.set2) | (with_reducible refine Box.alloc ?_ _) | (with_reducible refine Box.other ?_ (by first | (dsimp only; omega) | omega) _)))
  have z_a2 := x_a2.lt
  have c_a2_0 := x_a2.c 0 _ rfl
  have f_a2_0 := x_a2.f 0 _ rfl
  have c_a2_1 := x_a2.c 1 _ rfl
  have f_a2_1 := x_a2.f 1 _ rfl
  have x_b2 : Box w2 (w.heap.size + 1) [.int .u64 bh, .int .u64 bl] := (by refine Box.below ?_ hb; repeat (first | (with_reducible assumption) | (with_reducible refine Box.drew ?_) | (with_reducible refine Box.drewN ?_ _) | ((with_reducible refine Box.new ?_); simp; done) | (with_reducible apply Box.set2) | (with_reducible refine Box.alloc ?_ _) | (with_reducible refine Box.other ?_ (by first | (dsimp only; omega) | omega) _)))
  have z_b2 := x_b2.lt
  have c_b2_0 := x_b2.c 0 _ rfl
  have f_b2_0 := x_b2.f 0 _ rfl
  have c_b2_1 := x_b2.c 1 _ rfl
  have f_b2_1 := x_b2.f 1 _ rfl
  have x_c2 : Box w2 (w.heap.size + 1 + 1) [.int .u64 ch, .int .u64 cl] := (by refine Box.below ?_ hb; repeat (first | (with_reducible assumption) | (with_reducible refine Box.drew ?_) | (with_reducible refine Box.drewN ?_ _) | ((with_reducible refine Box.new ?_); simp; done) | (with_reducible apply Box.set2) | (with_reducible refine Box.alloc ?_ _) | (with_reducible refine Box.other ?_ (by first | (dsimp only; omega) | omega) _)))
  have z_c2 := x_c2.lt
  have c_c2_0 := x_c2.c 0 _ rfl
  have f_c2_0 := x_c2.f 0 _ rfl
  have c_c2_1 := x_c2.c 1 _ rfl
  have f_c2_1 := x_c2.f 1 _ rfl
  clear hb hB1 hs1 x_a1 z_a1 c_a1_0 c_a1_1 f_a1_0 f_a1_1 x_b1 z_b1 c_b1_0 c_b1_1 f_b1_0 f_b1_1 x_c1 z_c1 c_c1_0 c_c1_1 f_c1_0 f_c1_1
  go_wp2_with fail
  refine (cmp_ok _ h4 h2 en'.out).mono ?_
  rintro e w3 ⟨rfl, hb⟩
  have hB3 : Below w.heap.size w w3 := below_thru (by go_grown) hb
  have hs3 : w.heap.size ≤ w3.heap.size := hB3.size
  have x_a3 : Box w3 (w.heap.size) [.int .u64 ah, .int .u64 al] := (by refine Box.below ?_ hb; repeat (first | (with_reducible assumption) | (with_reducible refine Box.drew ?_) | (with_reducible refine Box.drewN ?_ _) | ((with_reducible refine Box.new ?_); simp; done) | (with_reducible apply Box.set2) | (with_reducible refine Box.alloc ?_ _) | (with_reducible refine Box.other ?_ (by first | (dsimp only; omega) | omega) _)))
  have z_a3 := x_a3.lt
  have c_a3_0 := x_a3.c 0 _ rfl
  have f_a3_0 := x_a3.f 0 _ rfl
  have c_a3_1 := x_a3.c 1 _ rfl
  have f_a3_1 := x_a3.f 1 _ rfl
  have x_b3 : Box w3 (w.heap.size + 1) [.int .u64 bh, .int .u64 bl] := (by refine Box.below ?_ hb; repeat (first | (with_reducible assumption) | (with_reducible refine Box.drew ?_) | (with_reducible refine Box.drewN ?_ _) | ((with_reducible refine Box.new ?_); simp; done) | (with_reducible apply Box.set2) | (with_reducible refine Box.alloc ?_ _) | (with_reducible refine Box.other ?_ (by first | (dsimp only; omega) | omega) _)))
  have z_b3 := x_b3.lt
  have c_b3_0 := x_b3.c 0 _ rfl
  have f_b3_0 := x_b3.f 0 _ rfl
  have c_b3_1 := x_b3.c 1 _ rfl
  have f_b3_1 := x_b3.f 1 _ rfl
  have x_c3 : Box w3 (w.heap.size + 1 + 1) [.int .u64 ch, .int .u64 cl] := (by refine Box.below ?_ hb; repeat (first | (with_reducible assumption) | (with_reducible refine Box.drew ?_) | (with_reducible refine Box.drewN ?_ _) | ((with_reducible refine Box.new ?_); simp; done) | (with_reducible apply Box.set2) | (with_reducible refine Box.alloc ?_ _) | (with_reducible refine Box.other ?_ (by first | (dsimp only; omega) | omega) _)))
  have z_c3 := x_c3.lt
  have c_c3_0 := x_c3.c 0 _ rfl
  have f_c3_0 := x_c3.f 0 _ rfl
  have c_c3_1 := x_c3.c 1 _ rfl
  have f_c3_1 := x_c3.f 1 _ rfl
  have x_d3 : Box w3 (w2.heap.size) [.int .u64 dh, .int .u64 dl] := (by refine Box.below ?_ hb; repeat (first | (with_reducible assumption) | (with_reducible refine Box.drew ?_) | (with_reducible refine Box.drewN ?_ _) | ((with_reducible refine Box.new ?_); simp; done) | (with_reducible apply Box.set2) | (with_reducible refine Box.alloc ?_ _) | (with_reducible refine Box.other ?_ (by first | (dsimp only; omega) | omega) _)))
  have z_d3 := x_d3.lt
  have c_d3_0 := x_d3.c 0 _ rfl
  have f_d3_0 := x_d3.f 0 _ rfl
  have c_d3_1 := x_d3.c 1 _ rfl
  have f_d3_1 := x_d3.f 1 _ rfl
  clear hb hB2 hs2 x_a2 z_a2 c_a2_0 c_a2_1 f_a2_0 f_a2_1 x_b2 z_b2 c_b2_0 c_b2_1 f_b2_0 f_b2_1 x_c2 z_c2 c_c2_0 c_c2_1 f_c2_0 f_c2_1
  go_wp2_with fail
  refine (add_ok _ g1 g2 h3 h4 h1 h2 ed'.out).mono ?_
  rintro e w4 ⟨rfl, hb⟩
  have hB4 : Below w.heap.size w w4 := below_thru (by go_grown) hb
  have hs4 : w.heap.size ≤ w4.heap.size := hB4.size
  have x_a4 : Box w4 (w.heap.size) [.int .u64 ah, .int .u64 al] := (by refine Box.below ?_ hb; repeat (first | (with_reducible assumption) | (with_reducible refine Box.drew ?_) | (with_reducible refine Box.drewN ?_ _) | ((with_reducible refine Box.new ?_); simp; done) | (with_reducible apply Box.set2) | (with_reducible refine Box.alloc ?_ _) | (with_reducible refine Box.other ?_ (by first | (dsimp only; omega) | omega) _)))
  have z_a4 := x_a4.lt
  have c_a4_0 := x_a4.c 0 _ rfl
  have f_a4_0 := x_a4.f 0 _ rfl
  have c_a4_1 := x_a4.c 1 _ rfl
  have f_a4_1 := x_a4.f 1 _ rfl
  have x_b4 : Box w4 (w.heap.size + 1) [.int .u64 bh, .int .u64 bl] := (by refine Box.below ?_ hb; repeat (first | (with_reducible assumption) | (with_reducible refine Box.drew ?_) | (with_reducible refine Box.drewN ?_ _) | ((with_reducible refine Box.new ?_); simp; done) | (with_reducible apply Box.set2) | (with_reducible refine Box.alloc ?_ _) | (with_reducible refine Box.other ?_ (by first | (dsimp only; omega) | omega) _)))
  have z_b4 := x_b4.lt
  have c_b4_0 := x_b4.c 0 _ rfl
  have f_b4_0 := x_b4.f 0 _ rfl
  have c_b4_1 := x_b4.c 1 _ rfl
  have f_b4_1 := x_b4.f 1 _ rfl
  have x_c4 : Box w4 (w.heap.size + 1 + 1) [.int .u64 ch, .int .u64 cl] := (by refine Box.below ?_ hb; repeat (first | (with_reducible assumption) | (with_reducible refine Box.drew ?_) | (with_reducible refine Box.drewN ?_ _) | ((with_reducible refine Box.new ?_); simp; done) | (with_reducible apply Box.set2) | (with_reducible refine Box.alloc ?_ _) | (with_reducible refine Box.other ?_ (by first | (dsimp only; omega) | omega) _)))
  have z_c4 := x_c4.lt
  have c_c4_0 := x_c4.c 0 _ rfl
  have f_c4_0 := x_c4.f 0 _ rfl
  have c_c4_1 := x_c4.c 1 _ rfl
  have f_c4_1 := x_c4.f 1 _ rfl
  have x_d4 : Box w4 (w2.heap.size) [.int .u64 dh, .int .u64 dl] := (by refine Box.below ?_ hb; repeat (first | (with_reducible assumption) | (with_reducible refine Box.drew ?_) | (with_reducible refine Box.drewN ?_ _) | ((with_reducible refine Box.new ?_); simp; done) | (with_reducible apply Box.set2) | (with_reducible refine Box.alloc ?_ _) | (with_reducible refine Box.other ?_ (by first | (dsimp only; omega) | omega) _)))
  have z_d4 := x_d4.lt
  have c_d4_0 := x_d4.c 0 _ rfl
  have f_d4_0 := x_d4.f 0 _ rfl
  have c_d4_1 := x_d4.c 1 _ rfl
  have f_d4_1 := x_d4.f 1 _ rfl
  clear hb hB3 hs3 x_a3 z_a3 c_a3_0 c_a3_1 f_a3_0 f_a3_1 x_b3 z_b3 c_b3_0 c_b3_1 f_b3_0 f_b3_1 x_c3 z_c3 c_c3_0 c_c3_1 f_c3_0 f_c3_1 x_d3 z_d3 c_d3_0 c_d3_1 f_d3_0 f_d3_1
  go_wp2_with fail
  refine (add_no _ h1 h2 h5 h6 (Int.not_lt.2 ex.out)).mono ?_
  rintro e w5 ⟨rfl, hb⟩
  have hB5 : Below w.heap.size w w5 := below_thru (by go_grown) hb
  have hs5 : w.heap.size ≤ w5.heap.size := hB5.size
  have x_a5 : Box w5 (w.heap.size) [.int .u64 ah, .int .u64 al] := (by refine Box.below ?_ hb; repeat (first | (with_reducible assumption) | (with_reducible refine Box.drew ?_) | (with_reducible refine Box.drewN ?_ _) | ((with_reducible refine Box.new ?_); simp; done) | (with_reducible apply Box.set2) | (with_reducible refine Box.alloc ?_ _) | (with_reducible refine Box.other ?_ (by first | (dsimp only; omega) | omega) _)))
  have z_a5 := x_a5.lt
  have c_a5_0 := x_a5.c 0 _ rfl
  have f_a5_0 := x_a5.f 0 _ rfl
  have c_a5_1 := x_a5.c 1 _ rfl
  have f_a5_1 := x_a5.f 1 _ rfl
  have x_b5 : Box w5 (w.heap.size + 1) [.int .u64 bh, .int .u64 bl] := (by refine Box.below ?_ hb; repeat (first | (with_reducible assumption) | (with_reducible refine Box.drew ?_) | (with_reducible refine Box.drewN ?_ _) | ((with_reducible refine Box.new ?_); simp; done) | (with_reducible apply Box.set2) | (with_reducible refine Box.alloc ?_ _) | (with_reducible refine Box.other ?_ (by first | (dsimp only; omega) | omega) _)))
  have z_b5 := x_b5.lt
  have c_b5_0 := x_b5.c 0 _ rfl
  have f_b5_0 := x_b5.f 0 _ rfl
  have c_b5_1 := x_b5.c 1 _ rfl
  have f_b5_1 := x_b5.f 1 _ rfl
  have x_c5 : Box w5 (w.heap.size + 1 + 1) [.int .u64 ch, .int .u64 cl] := (by refine Box.below ?_ hb; repeat (first | (with_reducible assumption) | (with_reducible refine Box.drew ?_) | (with_reducible refine Box.drewN ?_ _) | ((with_reducible refine Box.new ?_); simp; done) | (with_reducible apply Box.set2) | (with_reducible refine Box.alloc ?_ _) | (with_reducible refine Box.other ?_ (by first | (dsimp only; omega) | omega) _)))
  have z_c5 := x_c5.lt
  have c_c5_0 := x_c5.c 0 _ rfl
  have f_c5_0 := x_c5.f 0 _ rfl
  have c_c5_1 := x_c5.c 1 _ rfl
  have f_c5_1 := x_c5.f 1 _ rfl
  have x_d5 : Box w5 (w2.heap.size) [.int .u64 dh, .int .u64 dl] := (by refine Box.below ?_ hb; repeat (first | (with_reducible assumption) | (with_reducible refine Box.drew ?_) | (with_reducible refine Box.drewN ?_ _) | ((with_reducible refine Box.new ?_); simp; done) | (with_reducible apply Box.set2) | (with_reducible refine Box.alloc ?_ _) | (with_reducible refine Box.other ?_ (by first | (dsimp only; omega) | omega) _)))
  have z_d5 := x_d5.lt
  have c_d5_0 := x_d5.c 0 _ rfl
  have f_d5_0 := x_d5.f 0 _ rfl
  have c_d5_1 := x_d5.c 1 _ rfl
  have f_d5_1 := x_d5.f 1 _ rfl
  have x_k5 : Box w5 (w4.heap.size) [.int .u64 ah, .int .u64 al] := (by refine Box.below ?_ hb; repeat (first | (with_reducible assumption) | (with_reducible refine Box.drew ?_) | (with_reducible refine Box.drewN ?_ _) | ((with_reducible refine Box.new ?_); simp; done) | (with_reducible apply Box.set2) | (with_reducible refine Box.alloc ?_ _) | (with_reducible refine Box.other ?_ (by first | (dsimp only; omega) | omega) _)))
  have z_k5 := x_k5.lt
  have c_k5_0 := x_k5.c 0 _ rfl
  have f_k5_0 := x_k5.f 0 _ rfl
  have c_k5_1 := x_k5.c 1 _ rfl
  have f_k5_1 := x_k5.f 1 _ rfl
  clear hb hB4 hs4 x_a4 z_a4 c_a4_0 c_a4_1 f_a4_0 f_a4_1 x_b4 z_b4 c_b4_0 c_b4_1 f_b4_0 f_b4_1 x_c4 z_c4 c_c4_0 c_c4_1 f_c4_0 f_c4_1 x_d4 z_d4 c_d4_0 c_d4_1 f_d4_0 f_d4_1
  clear x_d5 z_d5 c_d5_0 c_d5_1 f_d5_0 f_d5_1
  clear x_k5 z_k5 c_k5_0 c_k5_1 f_k5_0 f_k5_1
  go_wp2_with fail
  refine (add_ok _ h3 h4 h5 h6 g5 g6 ey.out).mono ?_
  rintro e w6 ⟨rfl, hb⟩
  have hB6 : Below w.heap.size w w6 := below_thru (by go_grown) hb
  have hs6 : w.heap.size ≤ w6.heap.size := hB6.size
  have x_a6 : Box w6 (w.heap.size) [.int .u64 ah, .int .u64 al] := (by refine Box.below ?_ hb; repeat (first | (with_reducible assumption) | (with_reducible refine Box.drew ?_) | (with_reducible refine Box.drewN ?_ _) | ((with_reducible refine Box.new ?_); simp; done) | (with_reducible apply Box.set2) | (with_reducible refine Box.alloc ?_ _) | (with_reducible refine Box.other ?_ (by first | (dsimp only; omega) | omega) _)))
  have z_a6 := x_a6.lt
  have c_a6_0 := x_a6.c 0 _ rfl
  have f_a6_0 := x_a6.f 0 _ rfl
  have c_a6_1 := x_a6.c 1 _ rfl
  have f_a6_1 := x_a6.f 1 _ rfl
  have x_b6 : Box w6 (w.heap.size + 1) [.int .u64 bh, .int .u64 bl] := (by refine Box.below ?_ hb; repeat (first | (with_reducible assumption) | (with_reducible refine Box.drew ?_) | (with_reducible refine Box.drewN ?_ _) | ((with_reducible refine Box.new ?_); simp; done) | (with_reducible apply Box.set2) | (with_reducible refine Box.alloc ?_ _) | (with_reducible refine Box.other ?_ (by first | (dsimp only; omega) | omega) _)))
  have z_b6 := x_b6.lt
  have c_b6_0 := x_b6.c 0 _ rfl
  have f_b6_0 := x_b6.f 0 _ rfl
  have c_b6_1 := x_b6.c 1 _ rfl
  have f_b6_1 := x_b6.f 1 _ rfl
  have x_c6 : Box w6 (w.heap.size + 1 + 1) [.int .u64 ch, .int .u64 cl] := (by refine Box.below ?_ hb; repeat (first | (with_reducible assumption) | (with_reducible refine Box.drew ?_) | (with_reducible refine Box.drewN ?_ _) | ((with_reducible refine Box.new ?_); simp; done) | (with_reducible apply Box.set2) | (with_reducible refine Box.alloc ?_ _) | (with_reducible refine Box.other ?_ (by first | (dsimp only; omega) | omega) _)))
  have z_c6 := x_c6.lt
  have c_c6_0 := x_c6.c 0 _ rfl
  have f_c6_0 := x_c6.f 0 _ rfl
  have c_c6_1 := x_c6.c 1 _ rfl
  have f_c6_1 := x_c6.f 1 _ rfl
  clear hb hB5 hs5 x_a5 z_a5 c_a5_0 c_a5_1 f_a5_0 f_a5_1 x_b5 z_b5 c_b5_0 c_b5_1 f_b5_0 f_b5_1 x_c5 z_c5 c_c5_0 c_c5_1 f_c5_0 f_c5_1
  go_wp2_with fail
  refine (wcmp_any _ _ _ _ _ h4 h6).mono ?_
  rintro e w7 ⟨rfl, hb⟩
  have hB7 : Below w.heap.size w w7 := below_thru (by go_grown) hb
  have hs7 : w.heap.size ≤ w7.heap.size := hB7.size
  have x_a7 : Box w7 (w.heap.size) [.int .u64 ah, .int .u64 al] := (by refine Box.below ?_ hb; repeat (first | (with_reducible assumption) | (with_reducible refine Box.drew ?_) | (with_reducible refine Box.drewN ?_ _) | ((with_reducible refine Box.new ?_); simp; done) | (with_reducible apply Box.set2) | (with_reducible refine Box.alloc ?_ _) | (with_reducible refine Box.other ?_ (by first | (dsimp only; omega) | omega) _)))
  have z_a7 := x_a7.lt
  have c_a7_0 := x_a7.c 0 _ rfl
  have f_a7_0 := x_a7.f 0 _ rfl
  have c_a7_1 := x_a7.c 1 _ rfl
  have f_a7_1 := x_a7.f 1 _ rfl
  have x_b7 : Box w7 (w.heap.size + 1) [.int .u64 bh, .int .u64 bl] := (by refine Box.below ?_ hb; repeat (first | (with_reducible assumption) | (with_reducible refine Box.drew ?_) | (with_reducible refine Box.drewN ?_ _) | ((with_reducible refine Box.new ?_); simp; done) | (with_reducible apply Box.set2) | (with_reducible refine Box.alloc ?_ _) | (with_reducible refine Box.other ?_ (by first | (dsimp only; omega) | omega) _)))
  have z_b7 := x_b7.lt
  have c_b7_0 := x_b7.c 0 _ rfl
  have f_b7_0 := x_b7.f 0 _ rfl
  have c_b7_1 := x_b7.c 1 _ rfl
  have f_b7_1 := x_b7.f 1 _ rfl
  have x_c7 : Box w7 (w.heap.size + 1 + 1) [.int .u64 ch, .int .u64 cl] := (by refine Box.below ?_ hb; repeat (first | (with_reducible assumption) | (with_reducible refine Box.drew ?_) | (with_reducible refine Box.drewN ?_ _) | ((with_reducible refine Box.new ?_); simp; done) | (with_reducible apply Box.set2) | (with_reducible refine Box.alloc ?_ _) | (with_reducible refine Box.other ?_ (by first | (dsimp only; omega) | omega) _)))
  have z_c7 := x_c7.lt
  have c_c7_0 := x_c7.c 0 _ rfl
  have f_c7_0 := x_c7.f 0 _ rfl
  have c_c7_1 := x_c7.c 1 _ rfl
  have f_c7_1 := x_c7.f 1 _ rfl
  have x_y7 : Box w7 (w6.heap.size) [.int .u64 yh, .int .u64 yl] := (by refine Box.below ?_ hb; repeat (first | (with_reducible assumption) | (with_reducible refine Box.drew ?_) | (with_reducible refine Box.drewN ?_ _) | ((with_reducible refine Box.new ?_); simp; done) | (with_reducible apply Box.set2) | (with_reducible refine Box.alloc ?_ _) | (with_reducible refine Box.other ?_ (by first | (dsimp only; omega) | omega) _)))
  have z_y7 := x_y7.lt
  have c_y7_0 := x_y7.c 0 _ rfl
  have f_y7_0 := x_y7.f 0 _ rfl
  have c_y7_1 := x_y7.c 1 _ rfl
  have f_y7_1 := x_y7.f 1 _ rfl
  clear hb hB6 hs6 x_a6 z_a6 c_a6_0 c_a6_1 f_a6_0 f_a6_1 x_b6 z_b6 c_b6_0 c_b6_1 f_b6_0 f_b6_1 x_c6 z_c6 c_c6_0 c_c6_1 f_c6_0 f_c6_1
  go_wp2_with fail
  refine (alive_any _).mono ?_
  rintro e w8 ⟨rfl, hb⟩
  have hB8 : Below w.heap.size w w8 := below_thru (by go_grown) hb
  have hs8 : w.heap.size ≤ w8.heap.size := hB8.size
  have x_a8 : Box w8 (w.heap.size) [.int .u64 ah, .int .u64 al] := (by refine Box.below ?_ hb; repeat (first | (with_reducible assumption) | (with_reducible refine Box.drew ?_) | (with_reducible refine Box.drewN ?_ _) | ((with_reducible refine Box.new ?_); simp; done) | (with_reducible apply Box.set2) | (with_reducible refine Box.alloc ?_ _) | (with_reducible refine Box.other ?_ (by first | (dsimp only; omega) | omega) _)))
  have z_a8 := x_a8.lt
  have c_a8_0 := x_a8.c 0 _ rfl
  have f_a8_0 := x_a8.f 0 _ rfl
  have c_a8_1 := x_a8.c 1 _ rfl
  have f_a8_1 := x_a8.f 1 _ rfl
  have x_b8 : Box w8 (w.heap.size + 1) [.int .u64 bh, .int .u64 bl] := (by refine Box.below ?_ hb; repeat (first | (with_reducible assumption) | (with_reducible refine Box.drew ?_) | (with_reducible refine Box.drewN ?_ _) | ((with_reducible refine Box.new ?_); simp; done) | (with_reducible apply Box.set2) | (with_reducible refine Box.alloc ?_ _) | (with_reducible refine Box.other ?_ (by first | (dsimp only; omega) | omega) _)))
  have z_b8 := x_b8.lt
  have c_b8_0 := x_b8.c 0 _ rfl
  have f_b8_0 := x_b8.f 0 _ rfl
  have c_b8_1 := x_b8.c 1 _ rfl
  have f_b8_1 := x_b8.f 1 _ rfl
  have x_c8 : Box w8 (w.heap.size + 1 + 1) [.int .u64 ch, .int .u64 cl] := (by refine Box.below ?_ hb; repeat (first | (with_reducible assumption) | (with_reducible refine Box.drew ?_) | (with_reducible refine Box.drewN ?_ _) | ((with_reducible refine Box.new ?_); simp; done) | (with_reducible apply Box.set2) | (with_reducible refine Box.alloc ?_ _) | (with_reducible refine Box.other ?_ (by first | (dsimp only; omega) | omega) _)))
  have z_c8 := x_c8.lt
  have c_c8_0 := x_c8.c 0 _ rfl
  have f_c8_0 := x_c8.f 0 _ rfl
  have c_c8_1 := x_c8.c 1 _ rfl
  have f_c8_1 := x_c8.f 1 _ rfl
  have x_y8 : Box w8 (w6.heap.size) [.int .u64 yh, .int .u64 yl] := (by refine Box.below ?_ hb; repeat (first | (with_reducible assumption) | (with_reducible refine Box.drew ?_) | (with_reducible refine Box.drewN ?_ _) | ((with_reducible refine Box.new ?_); simp; done) | (with_reducible apply Box.set2) | (with_reducible refine Box.alloc ?_ _) | (with_reducible refine Box.other ?_ (by first | (dsimp only; omega) | omega) _)))
  have z_y8 := x_y8.lt
  have c_y8_0 := x_y8.c 0 _ rfl
  have f_y8_0 := x_y8.f 0 _ rfl
  have c_y8_1 := x_y8.c 1 _ rfl
  have f_y8_1 := x_y8.f 1 _ rfl
  clear hb hB7 hs7 x_a7 z_a7 c_a7_0 c_a7_1 f_a7_0 f_a7_1 x_b7 z_b7 c_b7_0 c_b7_1 f_b7_0 f_b7_1 x_c7 z_c7 c_c7_0 c_c7_1 f_c7_0 f_c7_1 x_y7 z_y7 c_y7_0 c_y7_1 f_y7_0 f_y7_1
  go_wp2
  go_returns
  refine ⟨rfl, ?_⟩
  go_grown

set_option maxRecDepth 100000 in
set_option maxHeartbeats 3200000 in
theorem less_gt_00_0 (ah al bh bl ch cl dh dl : Int) (w : World) (h1 : isU ah) (h2 : isU al) (h3 : isU bh) (h4 : isU bl) (h5 : isU ch) (h6 : isU cl) (en : Hid (cmpI (wN ah al) (wN bh bl) = 1)) (en' : Hid (cmpI (wN bh bl) (wN ah al) = -1)) (g1 : isU dh) (g2 : isU dl) (ed : Hid (wN ah al - wN bh bl = wN dh dl)) (ed' : Hid (wN dh dl + wN bh bl = wN ah al)) (ne : wEq ah al bh bl = false) (ex : Hid (340282366920938463463374607431768211456 ≤ wN ah al + wN ch cl)) (ey : Hid (340282366920938463463374607431768211456 ≤ wN bh bl + wN ch cl)) :
    lessCall ah al bh bl ch cl w := by
  unfold lessCall
  have hq := fun w => eqW_run ah al bh bl w
  go_enter Try.func8, Try.ntmps8
  go_wp2_with fail
  refine (cmp_ok _ h2 h4 en.out).mono ?_
  rintro e w1 ⟨rfl, hb⟩
  have hB1 : Below w.heap.size w w1 := below_thru (by go_grown) hb
  have hs1 : w.heap.size ≤ w1.heap.size := hB1.size
  have x_a1 : Box w1 (w.heap.size) [.int .u64 ah, .int .u64 al] := (by refine Box.below ?_ hb; repeat (first | (with_reducible assumption) | (with_reducible refine Box.drew ?_) | (with_reducible refine Box.drewN ?_ _) | ((with_reducible refine Box.new ?_); simp; done) | (with_reducible apply Box.set2) | (with_reducible refine Box.alloc ?_ _) | (with_reducible refine Box.other ?_ (by first | (dsimp only; omega) | omega) _)))
  have z_a1 := x_a1.lt
  have c_a1_0 := x_a1.c 0 _ rfl
  have f_a1_0 := x_a1.f 0 _ rfl
  have c_a1_1 := x_a1.c 1 _ rfl
  have f_a1_1 := x_a1.f 1 _ rfl
  have x_b1 : Box w1 (w.heap.size + 1) [.int .u64 bh, .int .u64 bl] := (by refine Box.below ?_ hb; repeat (first | (with_reducible assumption) | (with_reducible refine Box.drew ?_) | (with_reducible refine Box.drewN ?_ _) | ((with_reducible refine Box.new ?_); simp; done) | (with_reducible apply Box.set2) | (with_reducible refine Box.alloc ?_ _) | (with_reducible refine Box.other ?_ (by first | (dsimp only; omega) | omega) _)))
  have z_b1 := x_b1.lt
  have c_b1_0 := x_b1.c 0 _ rfl
  have f_b1_0 := x_b1.f 0 _ rfl
  have c_b1_1 := x_b1.c 1 _ rfl
  have f_b1_1 := x_b1.f 1 _ rfl
  have x_c1 : Box w1 (w.heap.size + 1 + 1) [.int .u64 ch, .int .u64 cl] := (by refine Box.below ?_ hb; repeat (first | (with_reducible assumption) | (with_reducible refine Box.drew ?_) | (with_reducible refine Box.drewN ?_ _) | ((with_reducible refine Box.new ?_); simp; done) | (with_reducible apply Box.set2) | (with_reducible refine Box.alloc ?_ _) | (with_reducible refine Box.other ?_ (by first | (dsimp only; omega) | omega) _)))
  have z_c1 := x_c1.lt
  have c_c1_0 := x_c1.c 0 _ rfl
  have f_c1_0 := x_c1.f 0 _ rfl
  have c_c1_1 := x_c1.c 1 _ rfl
  have f_c1_1 := x_c1.f 1 _ rfl
  clear hb
  go_wp2_with fail
  refine (sub_ok _ h1 h2 h3 h4 g1 g2 ed.out).mono ?_
  rintro e w2 ⟨rfl, hb⟩
  have hB2 : Below w.heap.size w w2 := below_thru (by go_grown) hb
  have hs2 : w.heap.size ≤ w2.heap.size := hB2.size
  have x_a2 : Box w2 (w.heap.size) [.int .u64 ah, .int .u64 al] := (by refine Box.below ?_ hb; repeat (first | (with_reducible assumption) | (with_reducible refine Box.drew ?_) | (with_reducible refine Box.drewN ?_ _) | ((with_reducible refine Box.new ?_); simp; done) | (with_reducible apply Box.set2) | (with_reducible refine Box.alloc ?_ _) | (with_reducible refine Box.other ?_ (by first | (dsimp only; omega) | omega) _)))
  have z_a2 := x_a2.lt
  have c_a2_0 := x_a2.c 0 _ rfl
  have f_a2_0 := x_a2.f 0 _ rfl
  have c_a2_1 := x_a2.c 1 _ rfl
  have f_a2_1 := x_a2.f 1 _ rfl
  have x_b2 : Box w2 (w.heap.size + 1) [.int .u64 bh, .int .u64 bl] := (by refine Box.below ?_ hb; repeat (first | (with_reducible assumption) | (with_reducible refine Box.drew ?_) | (with_reducible refine Box.drewN ?_ _) | ((with_reducible refine Box.new ?_); simp; done) | (with_reducible apply Box.set2) | (with_reducible refine Box.alloc ?_ _) | (with_reducible refine Box.other ?_ (by first | (dsimp only; omega) | omega) _)))
  have z_b2 := x_b2.lt
  have c_b2_0 := x_b2.c 0 _ rfl
  have f_b2_0 := x_b2.f 0 _ rfl
  have c_b2_1 := x_b2.c 1 _ rfl
  have f_b2_1 := x_b2.f 1 _ rfl
  have x_c2 : Box w2 (w.heap.size + 1 + 1) [.int .u64 ch, .int .u64 cl] := (by refine Box.below ?_ hb; repeat (first | (with_reducible assumption) | (with_reducible refine Box.drew ?_) | (with_reducible refine Box.drewN ?_ _) | ((with_reducible refine Box.new ?_); simp; done) | (with_reducible apply Box.set2) | (with_reducible refine Box.alloc ?_ _) | (with_reducible refine Box.other ?_ (by first | (dsimp only; omega) | omega) _)))
  have z_c2 := x_c2.lt
  have c_c2_0 := x_c2.c 0 _ rfl
  have f_c2_0 := x_c2.f 0 _ rfl
  have c_c2_1 := x_c2.c 1 _ rfl
  have f_c2_1 := x_c2.f 1 _ rfl
  clear hb hB1 hs1 x_a1 z_a1 c_a1_0 c_a1_1 f_a1_0 f_a1_1 x_b1 z_b1 c_b1_0 c_b1_1 f_b1_0 f_b1_1 x_c1 z_c1 c_c1_0 c_c1_1 f_c1_0 f_c1_1
  go_wp2_with fail
  refine (cmp_ok _ h4 h2 en'.out).mono ?_
  rintro e w3 ⟨rfl, hb⟩
  have hB3 : Below w.heap.size w w3 := below_thru (by go_grown) hb
  have hs3 : w.heap.size ≤ w3.heap.size := hB3.size
  have x_a3 : Box w3 (w.heap.size) [.int .u64 ah, .int .u64 al] := (by refine Box.below ?_ hb; repeat (first | (with_reducible assumption) | (with_reducible refine Box.drew ?_) | (with_reducible refine Box.drewN ?_ _) | ((with_reducible refine Box.new ?_); simp; done) | (with_reducible apply Box.set2) | (with_reducible refine Box.alloc ?_ _) | (with_reducible refine Box.other ?_ (by first | (dsimp only; omega) | omega) _)))
  have z_a3 := x_a3.lt
  have c_a3_0 := x_a3.c 0 _ rfl
  have f_a3_0 := x_a3.f 0 _ rfl
  have c_a3_1 := x_a3.c 1 _ rfl
  have f_a3_1 := x_a3.f 1 _ rfl
  have x_b3 : Box w3 (w.heap.size + 1) [.int .u64 bh, .int .u64 bl] := (by refine Box.below ?_ hb; repeat (first | (with_reducible assumption) | (with_reducible refine Box.drew ?_) | (with_reducible refine Box.drewN ?_ _) | ((with_reducible refine Box.new ?_); simp; done) | (with_reducible apply Box.set2) | (with_reducible refine Box.alloc ?_ _) | (with_reducible refine Box.other ?_ (by first | (dsimp only; omega) | omega) _)))
  have z_b3 := x_b3.lt
  have c_b3_0 := x_b3.c 0 _ rfl
  have f_b3_0 := x_b3.f 0 _ rfl
  have c_b3_1 := x_b3.c 1 _ rfl
  have f_b3_1 := x_b3.f 1 _ rfl
  have x_c3 : Box w3 (w.heap.size + 1 + 1) [.int .u64 ch, .int .u64 cl] := (by refine Box.below ?_ hb; repeat (first | (with_reducible assumption) | (with_reducible refine Box.drew ?_) | (with_reducible refine Box.drewN ?_ _) | ((with_reducible refine Box.new ?_); simp; done) | (with_reducible apply Box.set2) | (with_reducible refine Box.alloc ?_ _) | (with_reducible refine Box.other ?_ (by first | (dsimp only; omega) | omega) _)))
  have z_c3 := x_c3.lt
  have c_c3_0 := x_c3.c 0 _ rfl
  have f_c3_0 := x_c3.f 0 _ rfl
  have c_c3_1 := x_c3.c 1 _ rfl
  have f_c3_1 := x_c3.f 1 _ rfl
  have x_d3 : Box w3 (w2.heap.size) [.int .u64 dh, .int .u64 dl] := (by refine Box.below ?_ hb; repeat (first | (with_reducible assumption) | (with_reducible refine Box.drew ?_) | (with_reducible refine Box.drewN ?_ _) | ((with_reducible refine Box.new ?_); simp; done) | (with_reducible apply Box.set2) | (with_reducible refine Box.alloc ?_ _) | (with_reducible refine Box.other ?_ (by first | (dsimp only; omega) | omega) _)))
  have z_d3 := x_d3.lt
  have c_d3_0 := x_d3.c 0 _ rfl
  have f_d3_0 := x_d3.f 0 _ rfl
  have c_d3_1 := x_d3.c 1 _ rfl
  have f_d3_1 := x_d3.f 1 _ rfl
  clear hb hB2 hs2 x_a2 z_a2 c_a2_0 c_a2_1 f_a2_0 f_a2_1 x_b2 z_b2 c_b2_0 c_b2_1 f_b2_0 f_b2_1 x_c2 z_c2 c_c2_0 c_c2_1 f_c2_0 f_c2_1
  go_wp2_with fail
  refine (add_ok _ g1 g2 h3 h4 h1 h2 ed'.out).mono ?_
  rintro e w4 ⟨rfl, hb⟩
  have hB4 : Below w.heap.size w w4 := below_thru (by go_grown) hb
  have hs4 : w.heap.size ≤ w4.heap.size := hB4.size
  have x_a4 : Box w4 (w.heap.size) [.int .u64 ah, .int .u64 al] := (by refine Box.below ?_ hb; repeat (first | (with_reducible assumption) | (with_reducible refine Box.drew ?_) | (with_reducible refine Box.drewN ?_ _) | ((with_reducible refine Box.new ?_); simp; done) | (with_reducible apply Box.set2) | (with_reducible refine Box.alloc ?_ _) | (with_reducible refine Box.other ?_ (by first | (dsimp only; omega) | omega) _)))
  have z_a4 := x_a4.lt
  have c_a4_0 := x_a4.c 0 _ rfl
  have f_a4_0 := x_a4.f 0 _ rfl
  have c_a4_1 := x_a4.c 1 _ rfl
  have f_a4_1 := x_a4.f 1 _ rfl
  have x_b4 : Box w4 (w.heap.size + 1) [.int .u64 bh, .int .u64 bl] := (by refine Box.below ?_ hb; repeat (first | (with_reducible assumption) | (with_reducible refine Box.drew ?_) | (with_reducible refine Box.drewN ?_ _) | ((with_reducible refine Box.new ?_); simp; done) | (with_reducible apply Box.set2) | (with_reducible refine Box.alloc ?_ _) | (with_reducible refine Box.other ?_ (by first | (dsimp only; omega) | omega) _)))
  have z_b4 := x_b4.lt
  have c_b4_0 := x_b4.c 0 _ rfl
  have f_b4_0 := x_b4.f 0 _ rfl
  have c_b4_1 := x_b4.c 1 _ rfl
  have f_b4_1 := x_b4.f 1 _ rfl
  have x_c4 : Box w4 (w.heap.size + 1 + 1) [.int .u64 ch, .int .u64 cl] := (by refine Box.below ?_ hb; repeat (first | (with_reducible assumption) | (with_reducible refine Box.drew ?_) | (with_reducible refine Box.drewN ?_ _) | ((with_reducible refine Box.new ?_); simp; done) | (with_reducible apply Box.set2) | (with_reducible refine Box.alloc ?_ _) | (with_reducible refine Box.other ?_ (by first | (dsimp only; omega) | omega) _)))
  have z_c4 := x_c4.lt
  have c_c4_0 := x_c4.c 0 _ rfl
  have f_c4_0 := x_c4.f 0 _ rfl
  have c_c4_1 := x_c4.c 1 _ rfl
  have f_c4_1 := x_c4.f 1 _ rfl
  have x_d4 : Box w4 (w2.heap.size) [.int .u64 dh, .int .u64 dl] := (by refine Box.below ?_ hb; repeat (first | (with_reducible assumption) | (with_reducible refine Box.drew ?_) | (with_reducible refine Box.drewN ?_ _) | ((with_reducible refine Box.new ?_); simp; done) | (with_reducible apply Box.set2) | (with_reducible refine Box.alloc ?_ _) | (with_reducible refine Box.other ?_ (by first | (dsimp only; omega) | omega) _)))
  have z_d4 := x_d4.lt
  have c_d4_0 := x_d4.c 0 _ rfl
  have f_d4_0 := x_d4.f 0 _ rfl
  have c_d4_1 := x_d4.c 1 _ rfl
  have f_d4_1 := x_d4.f 1 _ rfl
  clear hb hB3 hs3 x_a3 z_a3 c_a3_0 c_a3_1 f_a3_0 f_a3_1 x_b3 z_b3 c_b3_0 c_b3_1 f_b3_0 f_b3_1 x_c3 z_c3 c_c3_0 c_c3_1 f_c3_0 f_c3_1 x_d3 z_d3 c_d3_0 c_d3_1 f_d3_0 f_d3_1
  go_wp2_with fail
  refine (add_no _ h1 h2 h5 h6 (Int.not_lt.2 ex.out)).mono ?_
  rintro e w5 ⟨rfl, hb⟩
  have hB5 : Below w.heap.size w w5 := below_thru (by go_grown) hb
  have hs5 : w.heap.size ≤ w5.heap.size := hB5.size
  have x_a5 : Box w5 (w.heap.size) [.int .u64 ah, .int .u64 al] := (by refine Box.below ?_ hb; repeat (first | (with_reducible assumption) | (with_reducible refine Box.drew ?_) | (with_reducible refine Box.drewN ?_ _) | ((with_reducible refine Box.new ?_); simp; done) | (with_reducible apply Box.set2) | (with_reducible refine Box.alloc ?_ _) | (with_reducible refine Box.other ?_ (by first | (dsimp only; omega) | omega) _)))
  have z_a5 := x_a5.lt
  have c_a5_0 := x_a5.c 0 _ rfl
  have f_a5_0 := x_a5.f 0 _ rfl
  have c_a5_1 := x_a5.c 1 _ rfl
  have f_a5_1 := x_a5.f 1 _ rfl
  have x_b5 : Box w5 (w.heap.size + 1) [.int .u64 bh, .int .u64 bl] := (by refine Box.below ?_ hb; repeat (first | (with_reducible assumption) | (with_reducible refine Box.drew ?_) | (with_reducible refine Box.drewN ?_ _) | ((with_reducible refine Box.new ?_); simp; done) | (with_reducible apply Box.set2) | (with_reducible refine Box.alloc ?_ _) | (with_reducible refine Box.other ?_ (by first | (dsimp only; omega) | omega) _)))
  have z_b5 := x_b5.lt
  have c_b5_0 := x_b5.c 0 _ rfl
  have f_b5_0 := x_b5.f 0 _ rfl
  have c_b5_1 := x_b5.c 1 _ rfl
  have f_b5_1 := x_b5.f 1 _ rfl
  have x_c5 : Box w5 (w.heap.size + 1 + 1) [.int .u64 ch, .int .u64 cl] := (by refine Box.below ?_ hb; repeat (first | (with_reducible assumption) | (with_reducible refine Box.drew ?_) | (with_reducible refine Box.drewN ?_ _) | ((with_reducible refine Box.new ?_); simp; done) | (with_reducible apply Box.set2) | (with_reducible refine Box.alloc ?_ _) | (with_reducible refine Box.other ?_ (by first | (dsimp only; omega) | omega) _)))
  have z_c5 := x_c5.lt
  have c_c5_0 := x_c5.c 0 _ rfl
  have f_c5_0 := x_c5.f 0 _ rfl
  have c_c5_1 := x_c5.c 1 _ rfl
  have f_c5_1 := x_c5.f 1 _ rfl
  have x_d5 : Box w5 (w2.heap.size) [.int .u64 dh, .int .u64 dl] := (by refine Box.below ?_ hb; repeat (first | (with_reducible assumption) | (with_reducible refine Box.drew ?_) | (with_reducible refine Box.drewN ?_ _) | ((with_reducible refine Box.new ?_); simp; done) | (with_reducible apply Box.set2) | (with_reducible refine Box.alloc ?_ _) | (with_reducible refine Box.other ?_ (by first | (dsimp only; omega) | omega) _)))
  have z_d5 := x_d5.lt
  have c_d5_0 := x_d5.c 0 _ rfl
  have f_d5_0 := x_d5.f 0 _ rfl
  have c_d5_1 := x_d5.c 1 _ rfl
  have f_d5_1 := x_d5.f 1 _ rfl
  have x_k5 : Box w5 (w4.heap.size) [.int .u64 ah, .int .u64 al] := (by refine Box.below ?_ hb; repeat (first | (with_reducible assumption) | (with_reducible refine Box.drew ?_) | (with_reducible refine Box.drewN ?_ _) | ((with_reducible refine Box.new ?_); simp; done) | (with_reducible apply Box.set2) | (with_reducible refine Box.alloc ?_ _) | (with_reducible refine Box.other ?_ (by first | (dsimp only; omega) | omega) _)))
  have z_k5 := x_k5.lt
  have c_k5_0 := x_k5.c 0 _ rfl
  have f_k5_0 := x_k5.f 0 _ rfl
  have c_k5_1 := x_k5.c 1 _ rfl
  have f_k5_1 := x_k5.f 1 _ rfl
  clear hb hB4 hs4 x_a4 z_a4 c_a4_0 c_a4_1 f_a4_0 f_a4_1 x_b4 z_b4 c_b4_0 c_b4_1 f_b4_0 f_b4_1 x_c4 z_c4 c_c4_0 c_c4_1 f_c4_0 f_c4_1 x_d4 z_d4 c_d4_0 c_d4_1 f_d4_0 f_d4_1
  clear x_d5 z_d5 c_d5_0 c_d5_1 f_d5_0 f_d5_1
  clear x_k5 z_k5 c_k5_0 c_k5_1 f_k5_0 f_k5_1
  go_wp2_with fail
  refine (add_no _ h3 h4 h5 h6 (Int.not_lt.2 ey.out)).mono ?_
  rintro e w6 ⟨rfl, hb⟩
  have hB6 : Below w.heap.size w w6 := below_thru (by go_grown) hb
  have hs6 : w.heap.size ≤ w6.heap.size := hB6.size
  have x_a6 : Box w6 (w.heap.size) [.int .u64 ah, .int .u64 al] := (by refine Box.below ?_ hb; repeat (first | (with_reducible assumption) | (with_reducible refine Box.drew ?_) | (with_reducible refine Box.drewN ?_ _) | ((with_reducible refine Box.new ?_); simp; done) | (with_reducible apply Box.set2) | (with_reducible refine Box.alloc ?_ _) | (with_reducible refine Box.other ?_ (by first | (dsimp only; omega) | omega) _)))
  have z_a6 := x_a6.lt
  have c_a6_0 := x_a6.c 0 _ rfl
  have f_a6_0 := x_a6.f 0 _ rfl
  have c_a6_1 := x_a6.c 1 _ rfl
  have f_a6_1 := x_a6.f 1 _ rfl
  have x_b6 : Box w6 (w.heap.size + 1) [.int .u64 bh, .int .u64 bl] := (by refine Box.below ?_ hb; repeat (first | (with_reducible assumption) | (with_reducible refine Box.drew ?_) | (with_reducible refine Box.drewN ?_ _) | ((with_reducible refine Box.new ?_); simp; done) | (with_reducible apply Box.set2) | (with_reducible refine Box.alloc ?_ _) | (with_reducible refine Box.other ?_ (by first | (dsimp only; omega) | omega) _)))
  have z_b6 := x_b6.lt
  have c_b6_0 := x_b6.c 0 _ rfl
  have f_b6_0 := x_b6.f 0 _ rfl
  have c_b6_1 := x_b6.c 1 _ rfl
  have f_b6_1 := x_b6.f 1 _ rfl
  have x_c6 : Box w6 (w.heap.size + 1 + 1) [.int .u64 ch, .int .u64 cl] := (by refine Box.below ?_ hb; repeat (first | (with_reducible assumption) | (with_reducible refine Box.drew ?_) | (with_reducible refine Box.drewN ?_ _) | ((with_reducible refine Box.new ?_); simp; done) | (with_reducible apply Box.set2) | (with_reducible refine Box.alloc ?_ _) | (with_reducible refine Box.other ?_ (by first | (dsimp only; omega) | omega) _)))
  have z_c6 := x_c6.lt
  have c_c6_0 := x_c6.c 0 _ rfl
  have f_c6_0 := x_c6.f 0 _ rfl
  have c_c6_1 := x_c6.c 1 _ rfl
  have f_c6_1 := x_c6.f 1 _ rfl
  clear hb hB5 hs5 x_a5 z_a5 c_a5_0 c_a5_1 f_a5_0 f_a5_1 x_b5 z_b5 c_b5_0 c_b5_1 f_b5_0 f_b5_1 x_c5 z_c5 c_c5_0 c_c5_1 f_c5_0 f_c5_1
  go_wp2_with fail
  refine (wcmp_any _ _ _ _ _ h4 h6).mono ?_
  rintro e w7 ⟨rfl, hb⟩
  have hB7 : Below w.heap.size w w7 := below_thru (by go_grown) hb
  have hs7 : w.heap.size ≤ w7.heap.size := hB7.size
  have x_a7 : Box w7 (w.heap.size) [.int .u64 ah, .int .u64 al] := (by refine Box.below ?_ hb; repeat (first | (with_reducible assumption) | (with_reducible refine Box.drew ?_) | (with_reducible refine Box.drewN ?_ _) | ((with_reducible refine Box.new ?_); simp; done) | (with_reducible apply Box.set2) | (with_reducible refine Box.alloc ?_ _) | (with_reducible refine Box.other ?_ (by first | (dsimp only; omega) | omega) _)))
  have z_a7 := x_a7.lt
  have c_a7_0 := x_a7.c 0 _ rfl
  have f_a7_0 := x_a7.f 0 _ rfl
  have c_a7_1 := x_a7.c 1 _ rfl
  have f_a7_1 := x_a7.f 1 _ rfl
  have x_b7 : Box w7 (w.heap.size + 1) [.int .u64 bh, .int .u64 bl] := (by refine Box.below ?_ hb; repeat (first | (with_reducible assumption) | (with_reducible refine Box.drew ?_) | (with_reducible refine Box.drewN ?_ _) | ((with_reducible refine Box.new ?_); simp; done) | (with_reducible apply Box.set2) | (with_reducible refine Box.alloc ?_ _) | (with_reducible refine Box.other ?_ (by first | (dsimp only; omega) | omega) _)))
  have z_b7 := x_b7.lt
  have c_b7_0 := x_b7.c 0 _ rfl
  have f_b7_0 := x_b7.f 0 _ rfl
  have c_b7_1 := x_b7.c 1 _ rfl
  have f_b7_1 := x_b7.f 1 _ rfl
  have x_c7 : Box w7 (w.heap.size + 1 + 1) [.int .u64 ch, .int .u64 cl] := (by refine Box.below ?_ hb; repeat (first | (with_reducible assumption) | (with_reducible refine Box.drew ?_) | (with_reducible refine Box.drewN ?_ _) | ((with_reducible refine Box.new ?_); simp; done) | (with_reducible apply Box.set2) | (with_reducible refine Box.alloc ?_ _) | (with_reducible refine Box.other ?_ (by first | (dsimp only; omega) | omega) _)))
  have z_c7 := x_c7.lt
  have c_c7_0 := x_c7.c 0 _ rfl
  have f_c7_0 := x_c7.f 0 _ rfl
  have c_c7_1 := x_c7.c 1 _ rfl
  have f_c7_1 := x_c7.f 1 _ rfl
  clear hb hB6 hs6 x_a6 z_a6 c_a6_0 c_a6_1 f_a6_0 f_a6_1 x_b6 z_b6 c_b6_0 c_b6_1 f_b6_0 f_b6_1 x_c6 z_c6 c_c6_0 c_c6_1 f_c6_0 f_c6_1
  go_wp2_with fail
  refine (alive_any _).mono ?_
  rintro e w8 ⟨rfl, hb⟩
  have hB8 : Below w.heap.size w w8 := below_thru (by go_grown) hb
  have hs8 : w.heap.size ≤ w8.heap.size := hB8.size
  have x_a8 : Box w8 (w.heap.size) [.int .u64 ah, .int .u64 al] := (by refine Box.below ?_ hb; repeat (first | (with_reducible assumption) | (with_reducible refine Box.drew ?_) | (with_reducible refine Box.drewN ?_ _) | ((with_reducible refine Box.new ?_); simp; done) | (with_reducible apply Box.set2) | (with_reducible refine Box.alloc ?_ _) | (with_reducible refine Box.other ?_ (by first | (dsimp only; omega) | omega) _)))
  have z_a8 := x_a8.lt
  have c_a8_0 := x_a8.c 0 _ rfl
  have f_a8_0 := x_a8.f 0 _ rfl
  have c_a8_1 := x_a8.c 1 _ rfl
  have f_a8_1 := x_a8.f 1 _ rfl
  have x_b8 : Box w8 (w.heap.size + 1) [.int .u64 bh, .int .u64 bl] := (by refine Box.below ?_ hb; repeat (first | (with_reducible assumption) | (with_reducible refine Box.drew ?_) | (with_reducible refine Box.drewN ?_ _) | ((with_reducible refine Box.new ?_); simp; done) | (with_reducible apply Box.set2) | (with_reducible refine Box.alloc ?_ _) | (with_reducible refine Box.other ?_ (by first | (dsimp only; omega) | omega) _)))
  have z_b8 := x_b8.lt
  have c_b8_0 := x_b8.c 0 _ rfl
  have f_b8_0 := x_b8.f 0 _ rfl
  have c_b8_1 := x_b8.c 1 _ rfl
  have f_b8_1 := x_b8.f 1 _ rfl
  have x_c8 : Box w8 (w.heap.size + 1 + 1) [.int .u64 ch, .int .u64 cl] := (by refine Box.below ?_ hb; repeat (first | (with_reducible assumption) | (with_reducible refine Box.drew ?_) | (with_reducible refine Box.drewN ?_ _) | ((with_reducible refine Box.new ?_); simp; done) | (with_reducible apply Box.set2) | (with_reducible refine Box.alloc ?_ _) | (with_reducible refine Box.other ?_ (by first | (dsimp only; omega) | omega) _)))
  have z_c8 := x_c8.lt
  have c_c8_0 := x_c8.c 0 _ rfl
  have f_c8_0 := x_c8.f 0 _ rfl
  have c_c8_1 := x_c8.c 1 _ rfl
  have f_c8_1 := x_c8.f 1 _ rfl
  clear hb hB7 hs7 x_a7 z_a7 c_a7_0 c_a7_1 f_a7_0 f_a7_1 x_b7 z_b7 c_b7_0 c_b7_1 f_b7_0 f_b7_1 x_c7 z_c7 c_c7_0 c_c7_1 f_c7_0 f_c7_1
  go_wp2
  go_returns
  refine ⟨rfl, ?_⟩
  go_grown

end Go.Proofs.Ytjidognjnlhlcaa
