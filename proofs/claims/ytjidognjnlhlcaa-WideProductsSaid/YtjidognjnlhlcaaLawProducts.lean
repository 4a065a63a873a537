/-
  For any wide number and two small ones WideProducts returns true and leaves its arguments as they were. Conditions: none.
-/
import Derived.Test.YtjidognjnlhlcaaRefDiv
namespace Go.Proofs.Ytjidognjnlhlcaa
open Go.ChangeShapes Go.WideShapes Go.ChangeAt Go.RowKit Go.Joins

theorem rdiv_nm {ah al d h l r : Int} (w : World) (h1 : isU ah) (h2 : isU al) (h3 : isU d) (hd : d ≠ 0) (g2 : isU l) (e : wN ah al / d = wN h l) (er : wN ah al % d = r) :
    Calls Try.prog 22 #[.agg #[.int .u64 ah, .int .u64 al], .int .u64 d] w fun e w' =>
      e = .returned (.tuple #[.agg #[.int .u64 h, .int .u64 l], .int .u64 r, .int .i64 0]) ∧ Below w.heap.size w w' := by
  have hp := wParts g2 e
  refine (rdiv_ok w h1 h2 h3 hd _ (Lib.hid rfl)).mono fun e' w' ⟨he, hb⟩ => ⟨?_, hb⟩
  rw [he, er, hp.1, hp.2]

set_option maxHeartbeats 800000 in
theorem rup_no {ah al : Int} (w : World) :
    Calls Try.prog 23 #[.agg #[.int .u64 ah, .int .u64 al], .int .u64 0] w fun e w' => e = .returned (.tuple #[.agg #[.int .u64 0, .int .u64 0], .int .i64 26]) ∧ Below w.heap.size w w' := by
  go_enter Try.func23, Try.ntmps23
  go_wp2_with fail
  refine (rdiv_no _).mono ?_
  rintro e w1 ⟨rfl, hb⟩
  have hB1 : Below w.heap.size w w1 := below_thru (by go_grown) hb
  have hs1 : w.heap.size ≤ w1.heap.size := hB1.size
  have x_a1 : Box w1 (w.heap.size) [.int .u64 ah, .int .u64 al] := (by refine Box.below ?_ hb; repeat (first | (with_reducible assumption) | (with_reducible refine Box.drew ?_) | (with_reducible refine Box.drewN ?_ _) | ((with_reducible refine Box.new ?_); simp; done) | (with_reducible apply Box.set2) | (with_reducible refine Box.alloc ?_ _) | (with_reducible refine Box.other ?_ (by first | (dsimp only; omega) | omega) _)))
  have z_a1 := x_a1.lt
  have c_a1_0 := x_a1.c 0 _ rfl
  have f_a1_0 := x_a1.f 0 _ rfl
  have c_a1_1 := x_a1.c 1 _ rfl
  have f_a1_1 := x_a1.f 1 _ rfl
  have x_r1 : Box w1 (w.heap.size + 1) [.int .u64 0, .int .u64 0] := (by refine Box.below ?_ hb; repeat (first | (with_reducible assumption) | (with_reducible refine Box.drew ?_) | (with_reducible refine Box.drewN ?_ _) | ((with_reducible refine Box.new ?_); simp; done) | (with_reducible apply Box.set2) | (with_reducible refine Box.alloc ?_ _) | (with_reducible refine Box.other ?_ (by first | (dsimp only; omega) | omega) _)))
  have z_r1 := x_r1.lt
  have c_r1_0 := x_r1.c 0 _ rfl
  have f_r1_0 := x_r1.f 0 _ rfl
  have c_r1_1 := x_r1.c 1 _ rfl
  have f_r1_1 := x_r1.f 1 _ rfl
  clear hb
  clear x_a1 z_a1 c_a1_0 c_a1_1 f_a1_0 f_a1_1
  go_wp2
  refine bodyPost_ret (v := .tuple #[.agg #[.int .u64 0, .int .u64 0], .int .i64 26]) (by simp [results, Try.results23, go_sem, z_r1, c_r1_0, c_r1_1]) rfl ⟨rfl, ?_⟩
  go_grown

set_option maxHeartbeats 800000 in
theorem rup_even {ah al d h l : Int} (w : World) (h1 : isU ah) (h2 : isU al) (h3 : isU d) (hd : d ≠ 0) (g2 : isU l) (e : Hid (wN ah al / d = wN h l)) (er : Hid (wN ah al % d = 0)) :
    Calls Try.prog 23 #[.agg #[.int .u64 ah, .int .u64 al], .int .u64 d] w fun e w' => e = .returned (.tuple #[.agg #[.int .u64 h, .int .u64 l], .int .i64 0]) ∧ Below w.heap.size w w' := by
  go_enter Try.func23, Try.ntmps23
  go_wp2_with fail
  refine (rdiv_nm _ h1 h2 h3 hd g2 e.out er.out).mono ?_
  rintro e w1 ⟨rfl, hb⟩
  have hB1 : Below w.heap.size w w1 := below_thru (by go_grown) hb
  have hs1 : w.heap.size ≤ w1.heap.size := hB1.size
  have x_a1 : Box w1 (w.heap.size) [.int .u64 ah, .int .u64 al] := (by refine Box.below ?_ hb; repeat (first | (with_reducible assumption) | (with_reducible refine Box.drew ?_) | (with_reducible refine Box.drewN ?_ _) | ((with_reducible refine Box.new ?_); simp; done) | (with_reducible apply Box.set2) | (with_reducible refine Box.alloc ?_ _) | (with_reducible refine Box.other ?_ (by first | (dsimp only; omega) | omega) _)))
  have z_a1 := x_a1.lt
  have c_a1_0 := x_a1.c 0 _ rfl
  have f_a1_0 := x_a1.f 0 _ rfl
  have c_a1_1 := x_a1.c 1 _ rfl
  have f_a1_1 := x_a1.f 1 _ rfl
  have x_r1 : Box w1 (w.heap.size + 1) [.int .u64 0, .int .u64 0] := (by refine Box.below ?_ hb; repeat (first | (with_reducible assumption) | (with_reducible refine Box.drew ?_) | (with_reducible refine Box.drewN ?_ _) | ((with_reducible refine Box.new ?_); simp; done) | (with_reducible apply Box.set2) | (with_reducible refine Box.alloc ?_ _) | (with_reducible refine Box.other ?_ (by first | (dsimp only; omega) | omega) _)))
  have z_r1 := x_r1.lt
  have c_r1_0 := x_r1.c 0 _ rfl
  have f_r1_0 := x_r1.f 0 _ rfl
  have c_r1_1 := x_r1.c 1 _ rfl
  have f_r1_1 := x_r1.f 1 _ rfl
  clear hb
  clear x_a1 z_a1 c_a1_0 c_a1_1 f_a1_0 f_a1_1
  go_wp2
  refine bodyPost_ret (v := .tuple #[.agg #[.int .u64 h, .int .u64 l], .int .i64 0]) (by simp [results, Try.results23, go_sem, z_r1, c_r1_0, c_r1_1]) rfl ⟨rfl, ?_⟩
  go_grown

set_option maxHeartbeats 800000 in
theorem rup_odd {ah al d h l r uh ul : Int} (w : World) (h1 : isU ah) (h2 : isU al) (h3 : isU d) (hd : d ≠ 0) (g1 : isU h) (g2 : isU l) (e : Hid (wN ah al / d = wN h l)) (er : Hid (wN ah al % d = r)) (hr : decide (r > 0) = true)
    (g3 : isU uh) (g4 : isU ul) (eu : Hid (wN h l + wN 0 1 = wN uh ul)) :
    Calls Try.prog 23 #[.agg #[.int .u64 ah, .int .u64 al], .int .u64 d] w fun e w' => e = .returned (.tuple #[.agg #[.int .u64 uh, .int .u64 ul], .int .i64 0]) ∧ Below w.heap.size w w' := by
  go_enter Try.func23, Try.ntmps23
  go_wp2_with fail
  refine (rdiv_nm _ h1 h2 h3 hd g2 e.out er.out).mono ?_
  rintro e w1 ⟨rfl, hb⟩
  have hB1 : Below w.heap.size w w1 := below_thru (by go_grown) hb
  have hs1 : w.heap.size ≤ w1.heap.size := hB1.size
  have x_a1 : Box w1 (w.heap.size) [.int .u64 ah, .int .u64 al] := (by refine Box.below ?_ hb; repeat (first | (with_reducible assumption) | (with_reducible refine Box.drew ?_) | (with_reducible refine Box.drewN ?_ _) | ((with_reducible refine Box.new ?_); simp; done) | (with_reducible apply Box.set2) | (with_reducible refine Box.alloc ?_ _) | (with_reducible refine Box.other ?_ (by first | (dsimp only; omega) | omega) _)))
  have z_a1 := x_a1.lt
  have c_a1_0 := x_a1.c 0 _ rfl
  have f_a1_0 := x_a1.f 0 _ rfl
  have c_a1_1 := x_a1.c 1 _ rfl
  have f_a1_1 := x_a1.f 1 _ rfl
  have x_r1 : Box w1 (w.heap.size + 1) [.int .u64 0, .int .u64 0] := (by refine Box.below ?_ hb; repeat (first | (with_reducible assumption) | (with_reducible refine Box.drew ?_) | (with_reducible refine Box.drewN ?_ _) | ((with_reducible refine Box.new ?_); simp; done) | (with_reducible apply Box.set2) | (with_reducible refine Box.alloc ?_ _) | (with_reducible refine Box.other ?_ (by first | (dsimp only; omega) | omega) _)))
  have z_r1 := x_r1.lt
  have c_r1_0 := x_r1.c 0 _ rfl
  have f_r1_0 := x_r1.f 0 _ rfl
  have c_r1_1 := x_r1.c 1 _ rfl
  have f_r1_1 := x_r1.f 1 _ rfl
  clear hb
  clear x_a1 z_a1 c_a1_0 c_a1_1 f_a1_0 f_a1_1
  go_wp2_with fail
  refine (radd_ok _ g1 g2 u0 u1 g3 g4 eu.out).mono ?_
  rintro e w2 ⟨rfl, hb⟩
  have hB2 : Below w.heap.size w w2 := below_thru (by go_grown) hb
  have hs2 : w.heap.size ≤ w2.heap.size := hB2.size
  have x_r2 : Box w2 (w.heap.size + 1) [.int .u64 0, .int .u64 0] := (by refine Box.below ?_ hb; repeat (first | (with_reducible assumption) | (with_reducible refine Box.drew ?_) | (with_reducible refine Box.drewN ?_ _) | ((with_reducible refine Box.new ?_); simp; done) | (with_reducible apply Box.set2) | (with_reducible refine Box.alloc ?_ _) | (with_reducible refine Box.other ?_ (by first | (dsimp only; omega) | omega) _)))
  have z_r2 := x_r2.lt
  have c_r2_0 := x_r2.c 0 _ rfl
  have f_r2_0 := x_r2.f 0 _ rfl
  have c_r2_1 := x_r2.c 1 _ rfl
  have f_r2_1 := x_r2.f 1 _ rfl
  have x_q2 : Box w2 (w1.heap.size) [.int .u64 h, .int .u64 l] := (by refine Box.below ?_ hb; repeat (first | (with_reducible assumption) | (with_reducible refine Box.drew ?_) | (with_reducible refine Box.drewN ?_ _) | ((with_reducible refine Box.new ?_); simp; done) | (with_reducible apply Box.set2) | (with_reducible refine Box.alloc ?_ _) | (with_reducible refine Box.other ?_ (by first | (dsimp only; omega) | omega) _)))
  have z_q2 := x_q2.lt
  have c_q2_0 := x_q2.c 0 _ rfl
  have f_q2_0 := x_q2.f 0 _ rfl
  have c_q2_1 := x_q2.c 1 _ rfl
  have f_q2_1 := x_q2.f 1 _ rfl
  have z_r1' := z_r1
  clear hb hB1 hs1 x_r1 z_r1 c_r1_0 c_r1_1 f_r1_0 f_r1_1
  have hne : w.heap.size + 1 ≠ w1.heap.size := Nat.ne_of_lt z_r1'
  go_wp2
  refine bodyPost_ret (v := .tuple #[.agg #[.int .u64 uh, .int .u64 ul], .int .i64 0]) (by simp [results, Try.results23, go_sem, z_r2, c_r2_0, c_r2_1, z_q2, c_q2_0, c_q2_1]) rfl ⟨rfl, ?_⟩
  go_grown

def prodCall (ah al x y : Int) (w : World) : Prop :=
  Calls Try.prog 5 #[.agg #[.int .u64 ah, .int .u64 al], .int .u64 x, .int .u64 y] w fun e w' => e = .returned (.bool true) ∧ Below w.heap.size w w'

set_option maxRecDepth 100000 in
set_option maxHeartbeats 1600000 in
theorem prod_zero (ah al y ph pl : Int) (w : World) (h1 : isU ah) (h2 : isU al) (h4 : isU y) (g1 : isU ph) (g2 : isU pl) (ep : Hid (0 * y = wN ph pl)) : prodCall ah al 0 y w := by
  unfold prodCall
  go_enter Try.func5, Try.ntmps5
  go_wp2_with fail
  refine (div_no _ h1 h2).mono ?_
  rintro e w1 ⟨rfl, hb⟩
  have hB1 : Below w.heap.size w w1 := below_thru (by go_grown) hb
  have hs1 : w.heap.size ≤ w1.heap.size := hB1.size
  have x_a1 : Box w1 (w.heap.size) [.int .u64 ah, .int .u64 al] := (by refine Box.below ?_ hb; repeat (first | (with_reducible assumption) | (with_reducible refine Box.drew ?_) | (with_reducible refine Box.drewN ?_ _) | ((with_reducible refine Box.new ?_); simp; done) | (with_reducible apply Box.set2) | (with_reducible refine Box.alloc ?_ _) | (with_reducible refine Box.other ?_ (by first | (dsimp only; omega) | omega) _)))
  have z_a1 := x_a1.lt
  have c_a1_0 := x_a1.c 0 _ rfl
  have f_a1_0 := x_a1.f 0 _ rfl
  have c_a1_1 := x_a1.c 1 _ rfl
  have f_a1_1 := x_a1.f 1 _ rfl
  clear hb
  go_wp2_with fail
  refine (rdiv_no _).mono ?_
  rintro e w2 ⟨rfl, hb⟩
  have hB2 : Below w.heap.size w w2 := below_thru (by go_grown) hb
  have hs2 : w.heap.size ≤ w2.heap.size := hB2.size
  have x_a2 : Box w2 (w.heap.size) [.int .u64 ah, .int .u64 al] := (by refine Box.below ?_ hb; repeat (first | (with_reducible assumption) | (with_reducible refine Box.drew ?_) | (with_reducible refine Box.drewN ?_ _) | ((with_reducible refine Box.new ?_); simp; done) | (with_reducible apply Box.set2) | (with_reducible refine Box.alloc ?_ _) | (with_reducible refine Box.other ?_ (by first | (dsimp only; omega) | omega) _)))
  have z_a2 := x_a2.lt
  have c_a2_0 := x_a2.c 0 _ rfl
  have f_a2_0 := x_a2.f 0 _ rfl
  have c_a2_1 := x_a2.c 1 _ rfl
  have f_a2_1 := x_a2.f 1 _ rfl
  have x_b2 : Box w2 (w1.heap.size) [.int .u64 0, .int .u64 0] := (by refine Box.below ?_ hb; repeat (first | (with_reducible assumption) | (with_reducible refine Box.drew ?_) | (with_reducible refine Box.drewN ?_ _) | ((with_reducible refine Box.new ?_); simp; done) | (with_reducible apply Box.set2) | (with_reducible refine Box.alloc ?_ _) | (with_reducible refine Box.other ?_ (by first | (dsimp only; omega) | omega) _)))
  have z_b2 := x_b2.lt
  have c_b2_0 := x_b2.c 0 _ rfl
  have f_b2_0 := x_b2.f 0 _ rfl
  have c_b2_1 := x_b2.c 1 _ rfl
  have f_b2_1 := x_b2.f 1 _ rfl
  clear hb hB1 hs1 x_a1 z_a1 c_a1_0 c_a1_1 f_a1_0 f_a1_1
  go_wp2_with fail
  refine (up_no _ h1 h2).mono ?_
  rintro e w3 ⟨rfl, hb⟩
  have hB3 : Below w.heap.size w w3 := below_thru (by go_grown) hb
  have hs3 : w.heap.size ≤ w3.heap.size := hB3.size
  have x_a3 : Box w3 (w.heap.size) [.int .u64 ah, .int .u64 al] := (by refine Box.below ?_ hb; repeat (first | (with_reducible assumption) | (with_reducible refine Box.drew ?_) | (with_reducible refine Box.drewN ?_ _) | ((with_reducible refine Box.new ?_); simp; done) | (with_reducible apply Box.set2) | (with_reducible refine Box.alloc ?_ _) | (with_reducible refine Box.other ?_ (by first | (dsimp only; omega) | omega) _)))
  have z_a3 := x_a3.lt
  have c_a3_0 := x_a3.c 0 _ rfl
  have f_a3_0 := x_a3.f 0 _ rfl
  have c_a3_1 := x_a3.c 1 _ rfl
  have f_a3_1 := x_a3.f 1 _ rfl
  have x_b3 : Box w3 (w1.heap.size) [.int .u64 0, .int .u64 0] := (by refine Box.below ?_ hb; repeat (first | (with_reducible assumption) | (with_reducible refine Box.drew ?_) | (with_reducible refine Box.drewN ?_ _) | ((with_reducible refine Box.new ?_); simp; done) | (with_reducible apply Box.set2) | (with_reducible refine Box.alloc ?_ _) | (with_reducible refine Box.other ?_ (by first | (dsimp only; omega) | omega) _)))
  have z_b3 := x_b3.lt
  have c_b3_0 := x_b3.c 0 _ rfl
  have f_b3_0 := x_b3.f 0 _ rfl
  have c_b3_1 := x_b3.c 1 _ rfl
  have f_b3_1 := x_b3.f 1 _ rfl
  have x_d3 : Box w3 (w2.heap.size) [.int .u64 0, .int .u64 0] := (by refine Box.below ?_ hb; repeat (first | (with_reducible assumption) | (with_reducible refine Box.drew ?_) | (with_reducible refine Box.drewN ?_ _) | ((with_reducible refine Box.new ?_); simp; done) | (with_reducible apply Box.set2) | (with_reducible refine Box.alloc ?_ _) | (with_reducible refine Box.other ?_ (by first | (dsimp only; omega) | omega) _)))
  have z_d3 := x_d3.lt
  have c_d3_0 := x_d3.c 0 _ rfl
  have f_d3_0 := x_d3.f 0 _ rfl
  have c_d3_1 := x_d3.c 1 _ rfl
  have f_d3_1 := x_d3.f 1 _ rfl
  clear hb hB2 hs2 x_a2 z_a2 c_a2_0 c_a2_1 f_a2_0 f_a2_1 x_b2 z_b2 c_b2_0 c_b2_1 f_b2_0 f_b2_1
  go_wp2_with fail
  refine (rup_no _).mono ?_
  rintro e w4 ⟨rfl, hb⟩
  have hB4 : Below w.heap.size w w4 := below_thru (by go_grown) hb
  have hs4 : w.heap.size ≤ w4.heap.size := hB4.size
  have x_a4 : Box w4 (w.heap.size) [.int .u64 ah, .int .u64 al] := (by refine Box.below ?_ hb; repeat (first | (with_reducible assumption) | (with_reducible refine Box.drew ?_) | (with_reducible refine Box.drewN ?_ _) | ((with_reducible refine Box.new ?_); simp; done) | (with_reducible apply Box.set2) | (with_reducible refine Box.alloc ?_ _) | (with_reducible refine Box.other ?_ (by first | (dsimp only; omega) | omega) _)))
  have z_a4 := x_a4.lt
  have c_a4_0 := x_a4.c 0 _ rfl
  have f_a4_0 := x_a4.f 0 _ rfl
  have c_a4_1 := x_a4.c 1 _ rfl
  have f_a4_1 := x_a4.f 1 _ rfl
  have x_b4 : Box w4 (w1.heap.size) [.int .u64 0, .int .u64 0] := (by refine Box.below ?_ hb; repeat (first | (with_reducible assumption) | (with_reducible refine Box.drew ?_) | (with_reducible refine Box.drewN ?_ _) | ((with_reducible refine Box.new ?_); simp; done) | (with_reducible apply Box.set2) | (with_reducible refine Box.alloc ?_ _) | (with_reducible refine Box.other ?_ (by first | (dsimp only; omega) | omega) _)))
  have z_b4 := x_b4.lt
  have c_b4_0 := x_b4.c 0 _ rfl
  have f_b4_0 := x_b4.f 0 _ rfl
  have c_b4_1 := x_b4.c 1 _ rfl
  have f_b4_1 := x_b4.f 1 _ rfl
  have x_d4 : Box w4 (w2.heap.size) [.int .u64 0, .int .u64 0] := (by refine Box.below ?_ hb; repeat (first | (with_reducible assumption) | (with_reducible refine Box.drew ?_) | (with_reducible refine Box.drewN ?_ _) | ((with_reducible refine Box.new ?_); simp; done) | (with_reducible apply Box.set2) | (with_reducible refine Box.alloc ?_ _) | (with_reducible refine Box.other ?_ (by first | (dsimp only; omega) | omega) _)))
  have z_d4 := x_d4.lt
  have c_d4_0 := x_d4.c 0 _ rfl
  have f_d4_0 := x_d4.f 0 _ rfl
  have c_d4_1 := x_d4.c 1 _ rfl
  have f_d4_1 := x_d4.f 1 _ rfl
  have x_h4 : Box w4 (w3.heap.size) [.int .u64 0, .int .u64 0] := (by refine Box.below ?_ hb; repeat (first | (with_reducible assumption) | (with_reducible refine Box.drew ?_) | (with_reducible refine Box.drewN ?_ _) | ((with_reducible refine Box.new ?_); simp; done) | (with_reducible apply Box.set2) | (with_reducible refine Box.alloc ?_ _) | (with_reducible refine Box.other ?_ (by first | (dsimp only; omega) | omega) _)))
  have z_h4 := x_h4.lt
  have c_h4_0 := x_h4.c 0 _ rfl
  have f_h4_0 := x_h4.f 0 _ rfl
  have c_h4_1 := x_h4.c 1 _ rfl
  have f_h4_1 := x_h4.f 1 _ rfl
  clear hb hB3 hs3 x_a3 z_a3 c_a3_0 c_a3_1 f_a3_0 f_a3_1 x_b3 z_b3 c_b3_0 c_b3_1 f_b3_0 f_b3_1 x_d3 z_d3 c_d3_0 c_d3_1 f_d3_0 f_d3_1
  clear x_a4 z_a4 c_a4_0 c_a4_1 f_a4_0 f_a4_1
  go_wp2_with fail
  refine (mul_ok _ u0 h4 g2 ep.out).mono ?_
  rintro e w5 ⟨rfl, hb⟩
  have hB5 : Below w.heap.size w w5 := below_thru (by go_grown) hb
  have hs5 : w.heap.size ≤ w5.heap.size := hB5.size
  have x_b5 : Box w5 (w1.heap.size) [.int .u64 0, .int .u64 0] := (by refine Box.below ?_ hb; repeat (first | (with_reducible assumption) | (with_reducible refine Box.drew ?_) | (with_reducible refine Box.drewN ?_ _) | ((with_reducible refine Box.new ?_); simp; done) | (with_reducible apply Box.set2) | (with_reducible refine Box.alloc ?_ _) | (with_reducible refine Box.other ?_ (by first | (dsimp only; omega) | omega) _)))
  have z_b5 := x_b5.lt
  have c_b5_0 := x_b5.c 0 _ rfl
  have f_b5_0 := x_b5.f 0 _ rfl
  have c_b5_1 := x_b5.c 1 _ rfl
  have f_b5_1 := x_b5.f 1 _ rfl
  have x_d5 : Box w5 (w2.heap.size) [.int .u64 0, .int .u64 0] := (by refine Box.below ?_ hb; repeat (first | (with_reducible assumption) | (with_reducible refine Box.drew ?_) | (with_reducible refine Box.drewN ?_ _) | ((with_reducible refine Box.new ?_); simp; done) | (with_reducible apply Box.set2) | (with_reducible refine Box.alloc ?_ _) | (with_reducible refine Box.other ?_ (by first | (dsimp only; omega) | omega) _)))
  have z_d5 := x_d5.lt
  have c_d5_0 := x_d5.c 0 _ rfl
  have f_d5_0 := x_d5.f 0 _ rfl
  have c_d5_1 := x_d5.c 1 _ rfl
  have f_d5_1 := x_d5.f 1 _ rfl
  have x_h5 : Box w5 (w3.heap.size) [.int .u64 0, .int .u64 0] := (by refine Box.below ?_ hb; repeat (first | (with_reducible assumption) | (with_reducible refine Box.drew ?_) | (with_reducible refine Box.drewN ?_ _) | ((with_reducible refine Box.new ?_); simp; done) | (with_reducible apply Box.set2) | (with_reducible refine Box.alloc ?_ _) | (with_reducible refine Box.other ?_ (by first | (dsimp only; omega) | omega) _)))
  have z_h5 := x_h5.lt
  have c_h5_0 := x_h5.c 0 _ rfl
  have f_h5_0 := x_h5.f 0 _ rfl
  have c_h5_1 := x_h5.c 1 _ rfl
  have f_h5_1 := x_h5.f 1 _ rfl
  have x_j5 : Box w5 (w4.heap.size) [.int .u64 0, .int .u64 0] := (by refine Box.below ?_ hb; repeat (first | (with_reducible assumption) | (with_reducible refine Box.drew ?_) | (with_reducible refine Box.drewN ?_ _) | ((with_reducible refine Box.new ?_); simp; done) | (with_reducible apply Box.set2) | (with_reducible refine Box.alloc ?_ _) | (with_reducible refine Box.other ?_ (by first | (dsimp only; omega) | omega) _)))
  have z_j5 := x_j5.lt
  have c_j5_0 := x_j5.c 0 _ rfl
  have f_j5_0 := x_j5.f 0 _ rfl
  have c_j5_1 := x_j5.c 1 _ rfl
  have f_j5_1 := x_j5.f 1 _ rfl
  clear hb hB4 hs4 x_b4 z_b4 c_b4_0 c_b4_1 f_b4_0 f_b4_1 x_d4 z_d4 c_d4_0 c_d4_1 f_d4_0 f_d4_1 x_h4 z_h4 c_h4_0 c_h4_1 f_h4_0 f_h4_1
  go_wp2_with fail
  refine (rmul_ok _ u0 h4 g1 g2 ep.out).mono ?_
  rintro e w6 ⟨rfl, hb⟩
  have hB6 : Below w.heap.size w w6 := below_thru (by go_grown) hb
  have hs6 : w.heap.size ≤ w6.heap.size := hB6.size
  have x_b6 : Box w6 (w1.heap.size) [.int .u64 0, .int .u64 0] := (by refine Box.below ?_ hb; repeat (first | (with_reducible assumption) | (with_reducible refine Box.drew ?_) | (with_reducible refine Box.drewN ?_ _) | ((with_reducible refine Box.new ?_); simp; done) | (with_reducible apply Box.set2) | (with_reducible refine Box.alloc ?_ _) | (with_reducible refine Box.other ?_ (by first | (dsimp only; omega) | omega) _)))
  have z_b6 := x_b6.lt
  have c_b6_0 := x_b6.c 0 _ rfl
  have f_b6_0 := x_b6.f 0 _ rfl
  have c_b6_1 := x_b6.c 1 _ rfl
  have f_b6_1 := x_b6.f 1 _ rfl
  have x_d6 : Box w6 (w2.heap.size) [.int .u64 0, .int .u64 0] := (by refine Box.below ?_ hb; repeat (first | (with_reducible assumption) | (with_reducible refine Box.drew ?_) | (with_reducible refine Box.drewN ?_ _) | ((with_reducible refine Box.new ?_); simp; done) | (with_reducible apply Box.set2) | (with_reducible refine Box.alloc ?_ _) | (with_reducible refine Box.other ?_ (by first | (dsimp only; omega) | omega) _)))
  have z_d6 := x_d6.lt
  have c_d6_0 := x_d6.c 0 _ rfl
  have f_d6_0 := x_d6.f 0 _ rfl
  have c_d6_1 := x_d6.c 1 _ rfl
  have f_d6_1 := x_d6.f 1 _ rfl
  have x_h6 : Box w6 (w3.heap.size) [.int .u64 0, .int .u64 0] := (by refine Box.below ?_ hb; repeat (first | (with_reducible assumption) | (with_reducible refine Box.drew ?_) | (with_reducible refine Box.drewN ?_ _) | ((with_reducible refine Box.new ?_); simp; done) | (with_reducible apply Box.set2) | (with_reducible refine Box.alloc ?_ _) | (with_reducible refine Box.other ?_ (by first | (dsimp only; omega) | omega) _)))
  have z_h6 := x_h6.lt
  have c_h6_0 := x_h6.c 0 _ rfl
  have f_h6_0 := x_h6.f 0 _ rfl
  have c_h6_1 := x_h6.c 1 _ rfl
  have f_h6_1 := x_h6.f 1 _ rfl
  have x_j6 : Box w6 (w4.heap.size) [.int .u64 0, .int .u64 0] := (by refine Box.below ?_ hb; repeat (first | (with_reducible assumption) | (with_reducible refine Box.drew ?_) | (with_reducible refine Box.drewN ?_ _) | ((with_reducible refine Box.new ?_); simp; done) | (with_reducible apply Box.set2) | (with_reducible refine Box.alloc ?_ _) | (with_reducible refine Box.other ?_ (by first | (dsimp only; omega) | omega) _)))
  have z_j6 := x_j6.lt
  have c_j6_0 := x_j6.c 0 _ rfl
  have f_j6_0 := x_j6.f 0 _ rfl
  have c_j6_1 := x_j6.c 1 _ rfl
  have f_j6_1 := x_j6.f 1 _ rfl
  clear hb hB5 hs5 x_b5 z_b5 c_b5_0 c_b5_1 f_b5_0 f_b5_1 x_d5 z_d5 c_d5_0 c_d5_1 f_d5_0 f_d5_1 x_h5 z_h5 c_h5_0 c_h5_1 f_h5_0 f_h5_1 x_j5 z_j5 c_j5_0 c_j5_1 f_j5_0 f_j5_1
  go_wp2
  go_returns
  refine ⟨rfl, ?_⟩
  go_grown

set_option maxRecDepth 100000 in
set_option maxHeartbeats 1600000 in
theorem prod_some (ah al x y ph pl qh ql r uh ul : Int) (w : World) (h1 : isU ah) (h2 : isU al) (h3 : isU x) (hx : x ≠ 0) (h4 : isU y) (g1 : isU ph) (g2 : isU pl) (ep : Hid (x * y = wN ph pl))
    (g3 : isU ql) (eq : Hid (wN ah al / x = wN qh ql)) (er : Hid (wN ah al % x = r)) (g4 : isU ul) (eu : Hid (upV (wN ah al) x = wN uh ul))
    (hup : ∀ w : World, Calls Try.prog 23 #[.agg #[.int .u64 ah, .int .u64 al], .int .u64 x] w fun e w' => e = .returned (.tuple #[.agg #[.int .u64 uh, .int .u64 ul], .int .i64 0]) ∧ Below w.heap.size w w') : prodCall ah al x y w := by
  have HU := Lib.hid hup
  clear hup
  unfold prodCall
  go_enter Try.func5, Try.ntmps5
  go_wp2_with fail
  refine (div_ok _ h1 h2 h3 hx g3 eq.out er.out).mono ?_
  rintro e w1 ⟨rfl, hb⟩
  have hB1 : Below w.heap.size w w1 := below_thru (by go_grown) hb
  have hs1 : w.heap.size ≤ w1.heap.size := hB1.size
  have x_a1 : Box w1 (w.heap.size) [.int .u64 ah, .int .u64 al] := (by refine Box.below ?_ hb; repeat (first | (with_reducible assumption) | (with_reducible refine Box.drew ?_) | (with_reducible refine Box.drewN ?_ _) | ((with_reducible refine Box.new ?_); simp; done) | (with_reducible apply Box.set2) | (with_reducible refine Box.alloc ?_ _) | (with_reducible refine Box.other ?_ (by first | (dsimp only; omega) | omega) _)))
  have z_a1 := x_a1.lt
  have c_a1_0 := x_a1.c 0 _ rfl
  have f_a1_0 := x_a1.f 0 _ rfl
  have c_a1_1 := x_a1.c 1 _ rfl
  have f_a1_1 := x_a1.f 1 _ rfl
  clear hb
  go_wp2_with fail
  refine (rdiv_nm _ h1 h2 h3 hx g3 eq.out er.out).mono ?_
  rintro e w2 ⟨rfl, hb⟩
  have hB2 : Below w.heap.size w w2 := below_thru (by go_grown) hb
  have hs2 : w.heap.size ≤ w2.heap.size := hB2.size
  have x_a2 : Box w2 (w.heap.size) [.int .u64 ah, .int .u64 al] := (by refine Box.below ?_ hb; repeat (first | (with_reducible assumption) | (with_reducible refine Box.drew ?_) | (with_reducible refine Box.drewN ?_ _) | ((with_reducible refine Box.new ?_); simp; done) | (with_reducible apply Box.set2) | (with_reducible refine Box.alloc ?_ _) | (with_reducible refine Box.other ?_ (by first | (dsimp only; omega) | omega) _)))
  have z_a2 := x_a2.lt
  have c_a2_0 := x_a2.c 0 _ rfl
  have f_a2_0 := x_a2.f 0 _ rfl
  have c_a2_1 := x_a2.c 1 _ rfl
  have f_a2_1 := x_a2.f 1 _ rfl
  have x_b2 : Box w2 (w1.heap.size) [.int .u64 qh, .int .u64 ql] := (by refine Box.below ?_ hb; repeat (first | (with_reducible assumption) | (with_reducible refine Box.drew ?_) | (with_reducible refine Box.drewN ?_ _) | ((with_reducible refine Box.new ?_); simp; done) | (with_reducible apply Box.set2) | (with_reducible refine Box.alloc ?_ _) | (with_reducible refine Box.other ?_ (by first | (dsimp only; omega) | omega) _)))
  have z_b2 := x_b2.lt
  have c_b2_0 := x_b2.c 0 _ rfl
  have f_b2_0 := x_b2.f 0 _ rfl
  have c_b2_1 := x_b2.c 1 _ rfl
  have f_b2_1 := x_b2.f 1 _ rfl
  clear hb hB1 hs1 x_a1 z_a1 c_a1_0 c_a1_1 f_a1_0 f_a1_1
  go_wp2_with fail
  refine (up_ok _ h1 h2 h3 hx g4 eu.out).mono ?_
  rintro e w3 ⟨rfl, hb⟩
  have hB3 : Below w.heap.size w w3 := below_thru (by go_grown) hb
  have hs3 : w.heap.size ≤ w3.heap.size := hB3.size
  have x_a3 : Box w3 (w.heap.size) [.int .u64 ah, .int .u64 al] := (by refine Box.below ?_ hb; repeat (first | (with_reducible assumption) | (with_reducible refine Box.drew ?_) | (with_reducible refine Box.drewN ?_ _) | ((with_reducible refine Box.new ?_); simp; done) | (with_reducible apply Box.set2) | (with_reducible refine Box.alloc ?_ _) | (with_reducible refine Box.other ?_ (by first | (dsimp only; omega) | omega) _)))
  have z_a3 := x_a3.lt
  have c_a3_0 := x_a3.c 0 _ rfl
  have f_a3_0 := x_a3.f 0 _ rfl
  have c_a3_1 := x_a3.c 1 _ rfl
  have f_a3_1 := x_a3.f 1 _ rfl
  have x_b3 : Box w3 (w1.heap.size) [.int .u64 qh, .int .u64 ql] := (by refine Box.below ?_ hb; repeat (first | (with_reducible assumption) | (with_reducible refine Box.drew ?_) | (with_reducible refine Box.drewN ?_ _) | ((with_reducible refine Box.new ?_); simp; done) | (with_reducible apply Box.set2) | (with_reducible refine Box.alloc ?_ _) | (with_reducible refine Box.other ?_ (by first | (dsimp only; omega) | omega) _)))
  have z_b3 := x_b3.lt
  have c_b3_0 := x_b3.c 0 _ rfl
  have f_b3_0 := x_b3.f 0 _ rfl
  have c_b3_1 := x_b3.c 1 _ rfl
  have f_b3_1 := x_b3.f 1 _ rfl
  have x_d3 : Box w3 (w2.heap.size) [.int .u64 qh, .int .u64 ql] := (by refine Box.below ?_ hb; repeat (first | (with_reducible assumption) | (with_reducible refine Box.drew ?_) | (with_reducible refine Box.drewN ?_ _) | ((with_reducible refine Box.new ?_); simp; done) | (with_reducible apply Box.set2) | (with_reducible refine Box.alloc ?_ _) | (with_reducible refine Box.other ?_ (by first | (dsimp only; omega) | omega) _)))
  have z_d3 := x_d3.lt
  have c_d3_0 := x_d3.c 0 _ rfl
  have f_d3_0 := x_d3.f 0 _ rfl
  have c_d3_1 := x_d3.c 1 _ rfl
  have f_d3_1 := x_d3.f 1 _ rfl
  clear hb hB2 hs2 x_a2 z_a2 c_a2_0 c_a2_1 f_a2_0 f_a2_1 x_b2 z_b2 c_b2_0 c_b2_1 f_b2_0 f_b2_1
  go_wp2_with fail
  refine (HU.out _).mono ?_
  rintro e w4 ⟨rfl, hb⟩
  have hB4 : Below w.heap.size w w4 := below_thru (by go_grown) hb
  have hs4 : w.heap.size ≤ w4.heap.size := hB4.size
  have x_a4 : Box w4 (w.heap.size) [.int .u64 ah, .int .u64 al] := (by refine Box.below ?_ hb; repeat (first | (with_reducible assumption) | (with_reducible refine Box.drew ?_) | (with_reducible refine Box.drewN ?_ _) | ((with_reducible refine Box.new ?_); simp; done) | (with_reducible apply Box.set2) | (with_reducible refine Box.alloc ?_ _) | (with_reducible refine Box.other ?_ (by first | (dsimp only; omega) | omega) _)))
  have z_a4 := x_a4.lt
  have c_a4_0 := x_a4.c 0 _ rfl
  have f_a4_0 := x_a4.f 0 _ rfl
  have c_a4_1 := x_a4.c 1 _ rfl
  have f_a4_1 := x_a4.f 1 _ rfl
  have x_b4 : Box w4 (w1.heap.size) [.int .u64 qh, .int .u64 ql] := (by refine Box.below ?_ hb; repeat (first | (with_reducible assumption) | (with_reducible refine Box.drew ?_) | (with_reducible refine Box.drewN ?_ _) | ((with_reducible refine Box.new ?_); simp; done) | (with_reducible apply Box.set2) | (with_reducible refine Box.alloc ?_ _) | (with_reducible refine Box.other ?_ (by first | (dsimp only; omega) | omega) _)))
  have z_b4 := x_b4.lt
  have c_b4_0 := x_b4.c 0 _ rfl
  have f_b4_0 := x_b4.f 0 _ rfl
  have c_b4_1 := x_b4.c 1 _ rfl
  have f_b4_1 := x_b4.f 1 _ rfl
  have x_d4 : Box w4 (w2.heap.size) [.int .u64 qh, .int .u64 ql] := (by refine Box.below ?_ hb; repeat (first | (with_reducible assumption) | (with_reducible refine Box.drew ?_) | (with_reducible refine Box.drewN ?_ _) | ((with_reducible refine Box.new ?_); simp; done) | (with_reducible apply Box.set2) | (with_reducible refine Box.alloc ?_ _) | (with_reducible refine Box.other ?_ (by first | (dsimp only; omega) | omega) _)))
  have z_d4 := x_d4.lt
  have c_d4_0 := x_d4.c 0 _ rfl
  have f_d4_0 := x_d4.f 0 _ rfl
  have c_d4_1 := x_d4.c 1 _ rfl
  have f_d4_1 := x_d4.f 1 _ rfl
  have x_h4 : Box w4 (w3.heap.size) [.int .u64 uh, .int .u64 ul] := (by refine Box.below ?_ hb; repeat (first | (with_reducible assumption) | (with_reducible refine Box.drew ?_) | (with_reducible refine Box.drewN ?_ _) | ((with_reducible refine Box.new ?_); simp; done) | (with_reducible apply Box.set2) | (with_reducible refine Box.alloc ?_ _) | (with_reducible refine Box.other ?_ (by first | (dsimp only; omega) | omega) _)))
  have z_h4 := x_h4.lt
  have c_h4_0 := x_h4.c 0 _ rfl
  have f_h4_0 := x_h4.f 0 _ rfl
  have c_h4_1 := x_h4.c 1 _ rfl
  have f_h4_1 := x_h4.f 1 _ rfl
  clear hb hB3 hs3 x_a3 z_a3 c_a3_0 c_a3_1 f_a3_0 f_a3_1 x_b3 z_b3 c_b3_0 c_b3_1 f_b3_0 f_b3_1 x_d3 z_d3 c_d3_0 c_d3_1 f_d3_0 f_d3_1
  clear x_a4 z_a4 c_a4_0 c_a4_1 f_a4_0 f_a4_1
  go_wp2_with fail
  refine (mul_ok _ h3 h4 g2 ep.out).mono ?_
  rintro e w5 ⟨rfl, hb⟩
  have hB5 : Below w.heap.size w w5 := below_thru (by go_grown) hb
  have hs5 : w.heap.size ≤ w5.heap.size := hB5.size
  have x_b5 : Box w5 (w1.heap.size) [.int .u64 qh, .int .u64 ql] := (by refine Box.below ?_ hb; repeat (first | (with_reducible assumption) | (with_reducible refine Box.drew ?_) | (with_reducible refine Box.drewN ?_ _) | ((with_reducible refine Box.new ?_); simp; done) | (with_reducible apply Box.set2) | (with_reducible refine Box.alloc ?_ _) | (with_reducible refine Box.other ?_ (by first | (dsimp only; omega) | omega) _)))
  have z_b5 := x_b5.lt
  have c_b5_0 := x_b5.c 0 _ rfl
  have f_b5_0 := x_b5.f 0 _ rfl
  have c_b5_1 := x_b5.c 1 _ rfl
  have f_b5_1 := x_b5.f 1 _ rfl
  have x_d5 : Box w5 (w2.heap.size) [.int .u64 qh, .int .u64 ql] := (by refine Box.below ?_ hb; repeat (first | (with_reducible assumption) | (with_reducible refine Box.drew ?_) | (with_reducible refine Box.drewN ?_ _) | ((with_reducible refine Box.new ?_); simp; done) | (with_reducible apply Box.set2) | (with_reducible refine Box.alloc ?_ _) | (with_reducible refine Box.other ?_ (by first | (dsimp only; omega) | omega) _)))
  have z_d5 := x_d5.lt
  have c_d5_0 := x_d5.c 0 _ rfl
  have f_d5_0 := x_d5.f 0 _ rfl
  have c_d5_1 := x_d5.c 1 _ rfl
  have f_d5_1 := x_d5.f 1 _ rfl
  have x_h5 : Box w5 (w3.heap.size) [.int .u64 uh, .int .u64 ul] := (by refine Box.below ?_ hb; repeat (first | (with_reducible assumption) | (with_reducible refine Box.drew ?_) | (with_reducible refine Box.drewN ?_ _) | ((with_reducible refine Box.new ?_); simp; done) | (with_reducible apply Box.set2) | (with_reducible refine Box.alloc ?_ _) | (with_reducible refine Box.other ?_ (by first | (dsimp only; omega) | omega) _)))
  have z_h5 := x_h5.lt
  have c_h5_0 := x_h5.c 0 _ rfl
  have f_h5_0 := x_h5.f 0 _ rfl
  have c_h5_1 := x_h5.c 1 _ rfl
  have f_h5_1 := x_h5.f 1 _ rfl
  have x_j5 : Box w5 (w4.heap.size) [.int .u64 uh, .int .u64 ul] := (by refine Box.below ?_ hb; repeat (first | (with_reducible assumption) | (with_reducible refine Box.drew ?_) | (with_reducible refine Box.drewN ?_ _) | ((with_reducible refine Box.new ?_); simp; done) | (with_reducible apply Box.set2) | (with_reducible refine Box.alloc ?_ _) | (with_reducible refine Box.other ?_ (by first | (dsimp only; omega) | omega) _)))
  have z_j5 := x_j5.lt
  have c_j5_0 := x_j5.c 0 _ rfl
  have f_j5_0 := x_j5.f 0 _ rfl
  have c_j5_1 := x_j5.c 1 _ rfl
  have f_j5_1 := x_j5.f 1 _ rfl
  clear hb hB4 hs4 x_b4 z_b4 c_b4_0 c_b4_1 f_b4_0 f_b4_1 x_d4 z_d4 c_d4_0 c_d4_1 f_d4_0 f_d4_1 x_h4 z_h4 c_h4_0 c_h4_1 f_h4_0 f_h4_1
  go_wp2_with fail
  refine (rmul_ok _ h3 h4 g1 g2 ep.out).mono ?_
  rintro e w6 ⟨rfl, hb⟩
  have hB6 : Below w.heap.size w w6 := below_thru (by go_grown) hb
  have hs6 : w.heap.size ≤ w6.heap.size := hB6.size
  have x_b6 : Box w6 (w1.heap.size) [.int .u64 qh, .int .u64 ql] := (by refine Box.below ?_ hb; repeat (first | (with_reducible assumption) | (with_reducible refine Box.drew ?_) | (with_reducible refine Box.drewN ?_ _) | ((with_reducible refine Box.new ?_); simp; done) | (with_reducible apply Box.set2) | (with_reducible refine Box.alloc ?_ _) | (with_reducible refine Box.other ?_ (by first | (dsimp only; omega) | omega) _)))
  have z_b6 := x_b6.lt
  have c_b6_0 := x_b6.c 0 _ rfl
  have f_b6_0 := x_b6.f 0 _ rfl
  have c_b6_1 := x_b6.c 1 _ rfl
  have f_b6_1 := x_b6.f 1 _ rfl
  have x_d6 : Box w6 (w2.heap.size) [.int .u64 qh, .int .u64 ql] := (by refine Box.below ?_ hb; repeat (first | (with_reducible assumption) | (with_reducible refine Box.drew ?_) | (with_reducible refine Box.drewN ?_ _) | ((with_reducible refine Box.new ?_); simp; done) | (with_reducible apply Box.set2) | (with_reducible refine Box.alloc ?_ _) | (with_reducible refine Box.other ?_ (by first | (dsimp only; omega) | omega) _)))
  have z_d6 := x_d6.lt
  have c_d6_0 := x_d6.c 0 _ rfl
  have f_d6_0 := x_d6.f 0 _ rfl
  have c_d6_1 := x_d6.c 1 _ rfl
  have f_d6_1 := x_d6.f 1 _ rfl
  have x_h6 : Box w6 (w3.heap.size) [.int .u64 uh, .int .u64 ul] := (by refine Box.below ?_ hb; repeat (first | (with_reducible assumption) | (with_reducible refine Box.drew ?_) | (with_reducible refine Box.drewN ?_ _) | ((with_reducible refine Box.new ?_); simp; done) | (with_reducible apply Box.set2) | (with_reducible refine Box.alloc ?_ _) | (with_reducible refine Box.other ?_ (by first | (dsimp only; omega) | omega) _)))
  have z_h6 := x_h6.lt
  have c_h6_0 := x_h6.c 0 _ rfl
  have f_h6_0 := x_h6.f 0 _ rfl
  have c_h6_1 := x_h6.c 1 _ rfl
  have f_h6_1 := x_h6.f 1 _ rfl
  have x_j6 : Box w6 (w4.heap.size) [.int .u64 uh, .int .u64 ul] := (by refine Box.below ?_ hb; repeat (first | (with_reducible assumption) | (with_reducible refine Box.drew ?_) | (with_reducible refine Box.drewN ?_ _) | ((with_reducible refine Box.new ?_); simp; done) | (with_reducible apply Box.set2) | (with_reducible refine Box.alloc ?_ _) | (with_reducible refine Box.other ?_ (by first | (dsimp only; omega) | omega) _)))
  have z_j6 := x_j6.lt
  have c_j6_0 := x_j6.c 0 _ rfl
  have f_j6_0 := x_j6.f 0 _ rfl
  have c_j6_1 := x_j6.c 1 _ rfl
  have f_j6_1 := x_j6.f 1 _ rfl
  clear hb hB5 hs5 x_b5 z_b5 c_b5_0 c_b5_1 f_b5_0 f_b5_1 x_d5 z_d5 c_d5_0 c_d5_1 f_d5_0 f_d5_1 x_h5 z_h5 c_h5_0 c_h5_1 f_h5_0 f_h5_1 x_j5 z_j5 c_j5_0 c_j5_1 f_j5_0 f_j5_1
  go_wp2
  go_returns
  refine ⟨rfl, ?_⟩
  go_grown

theorem isW_mul {x y : Int} (h1 : isU x) (h2 : isU y) : isW (x * y) := by
  unfold isU at *
  have h : x * y ≤ 18446744073709551615 * 18446744073709551615 := Int.mul_le_mul h1.2 h2.2 h2.1 (by omega)
  have h0 : 0 ≤ x * y := Int.mul_nonneg h1.1 h2.1
  unfold isW
  omega

theorem prod_any (ah al x y : Int) (w : World) (h1 : isU ah) (h2 : isU al) (h3 : isU x) (h4 : isU y) : prodCall ah al x y w := by
  have wp := isW_mul h3 h4
  have ep : Hid (x * y = wN (wHi (x * y)) (wLo (x * y))) := Lib.hid (wN_parts _).symm
  by_cases hx : x = 0
  · subst hx
    exact prod_zero ah al y _ _ w h1 h2 h4 (isU_hi wp) (isU_lo _) ep
  · have hn := isW_of h1 h2
    have hx1 : 0 < x := by unfold isU at h3; omega
    obtain ⟨n, en⟩ : ∃ n, wN ah al = n := ⟨_, rfl⟩
    obtain ⟨q, eq⟩ : ∃ q, n / x = q := ⟨_, rfl⟩
    obtain ⟨r, er⟩ : ∃ r, n % x = r := ⟨_, rfl⟩
    rw [en] at hn
    have hq0 : 0 ≤ q := by rw [← eq]; unfold isW at hn; exact Int.ediv_nonneg hn.1 (by omega)
    have hqn : q ≤ n := by rw [← eq]; unfold isW at hn; exact Int.ediv_le_self x hn.1
    have hr0 : 0 ≤ r := by rw [← er]; exact Int.emod_nonneg n hx
    have hrx : r < x := by rw [← er]; exact Int.emod_lt_of_pos n hx1
    have hm : q * x + r = n := by rw [← eq, ← er, Int.mul_comm]; exact Int.mul_ediv_add_emod n x
    have hq : isW q := by unfold isW at *; omega
    have e1 : Hid (wN ah al / x = wN (wHi q) (wLo q)) := by refine Lib.hid ?_; rw [wN_parts, en]; exact eq
    have e2 : Hid (wN ah al % x = r) := by refine Lib.hid ?_; rw [en]; exact er
    by_cases hz : r = 0
    · subst hz
      exact prod_some ah al x y _ _ _ _ _ _ _ w h1 h2 h3 hx h4 (isU_hi wp) (isU_lo _) ep (isU_lo _) e1 e2 (isU_lo _)
        (by refine Lib.hid ?_; unfold upV; rw [if_neg hx, en, if_pos er, eq, wN_parts]) (fun w => rup_even w h1 h2 h3 hx (isU_lo _) e1 e2)
    · have hx2 : 2 ≤ x := by omega
      have hq2 : q * 2 ≤ q * x := Int.mul_le_mul_of_nonneg_left hx2 hq0
      have hu : isW (q + 1) := by unfold isW at *; omega
      exact prod_some ah al x y _ _ _ _ _ _ _ w h1 h2 h3 hx h4 (isU_hi wp) (isU_lo _) ep (isU_lo _) e1 e2 (isU_lo (q + 1))
        (by refine Lib.hid ?_; unfold upV; rw [if_neg hx, en, if_neg (by rw [er]; exact hz), eq, wN_parts])
        (fun w => rup_odd w h1 h2 h3 hx (isU_hi hq) (isU_lo _) e1 e2 (decide_eq_true (by omega)) (isU_hi hu) (isU_lo _) (by refine Lib.hid ?_; rw [wN_parts, wN_parts]; rfl))

theorem prod_walk : LawWalk Try.prog 5 Try.f5 := by
  intro H enc W base args ds ps hval hA _ _
  rw [Try.params5] at hA hval
  obtain ⟨v0, vs0, d0, ds0, p0, q0, hargs, rfl, rfl, h0, r0⟩ := trodAll_cons hA
  obtain ⟨v1, vs1, d1, ds1, p1, q1, rfl, rfl, rfl, h1, r1⟩ := trodAll_cons r0
  obtain ⟨v2, vs2, d2, ds2, p2, q2, rfl, rfl, rfl, h2, r2⟩ := trodAll_cons r1
  obtain ⟨rfl, rfl, rfl⟩ := trodAll_nil r2
  obtain rfl : args = #[v0, v1, v2] := by cases args; simp_all
  obtain ⟨a0, b0, rfl, ha0, hb0⟩ := open_wide (hval 0 _ v0 rfl rfl) h0
  obtain ⟨c1, rfl, hc1⟩ := open_u64 (hval 1 _ v1 rfl rfl) h1
  obtain ⟨c2, rfl, hc2⟩ := open_u64 (hval 2 _ v2 rfl rfl) h2
  exact prod_any a0 b0 c1 c2 W ha0 hb0 hc1 hc2

set_option maxRecDepth 100000 in
theorem prod_lifted (os : Os) (started : os.Started) (H : Type) (enc : TypeId × Value → H) :
    ReturnsInHanded {} Try.checked os 5 .any (Rows.wideProductsSpec.pre6 enc Try.prog Try.f5 Rows.wideProductsRow.domain false) (Rows.wideProductsSpec.post enc Try.prog Try.f5 false true false false) :=
  law_lifted (C := Try.checked) (s := Rows.wideProductsSpec) (conds := Rows.wideProductsRow.domain) (tb := 4) own laidOut started (by kernel_rfl) Try.func5
    (ChangeSpec.witness6 (enc := enc) (C := Try.checked) false ⟨#[], #[.agg #[.int .u64 0, .int .u64 0], .int .u64 0, .int .u64 0], []⟩ 8 (by kernel_rfl) (by kernel_rfl) (by kernel_rfl) (by kernel_rfl))
    (by rw [show Try.f5.params = _ from Try.params5]; decide +kernel) (by kernel_rfl) Try.underlying4 rfl
    (fun ds hl => by
      rw [show Try.f5.params = _ from Try.params5] at hl
      match ds, hl with
      | [_, _, _], _ => rfl) prod_walk

set_option maxRecDepth 100000 in
theorem prod_over : Rows.wideProductsRow.holds Try.pinned (OpenSpec.ofChange Rows.wideProductsSpec) :=
  OpenClaim.holds_of_wide 5 Try.f5 rfl rfl rfl rfl rfl rfl rfl ⟨rfl, rfl, rfl, rfl, rfl⟩ rfl rfl rfl rfl rfl (by kernel_rfl) Try.func5 (by kernel_rfl)
    (of_decide_eq_true (by kernel_rfl)) (by unfold Func.isWrapper; first | (rw [if_pos (by decide +kernel)]; kernel_rfl) | (rw [if_neg (by decide +kernel)]; exact ⟨rfl, rfl⟩))
    (fun os started H enc _ => prod_lifted os started H enc)

/-- The given statement. -/
theorem prod_holds : Rows.WideProductsSaid := prod_over
#print axioms prod_holds
end Go.Proofs.Ytjidognjnlhlcaa
