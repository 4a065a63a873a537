/-
  The statement WideRules, walked: three cases, by which sums are too great.
-/
import Derived.Test.YtjidognjnlhlcaaBack
namespace Go.Proofs.Ytjidognjnlhlcaa
open Go.RowKit

def rulesCall (ah al bh bl ch cl x y z : Int) (w : World) : Prop :=
  Calls Try.prog 7 #[.agg #[.int .u64 ah, .int .u64 al], .agg #[.int .u64 bh, .int .u64 bl], .agg #[.int .u64 ch, .int .u64 cl], .int .u64 x, .int .u64 y, .int .u64 z] w fun e w' => e = .returned (.bool true) ∧ Below w.heap.size w w'

set_option maxRecDepth 100000 in
set_option maxHeartbeats 800000 in
theorem rules_1 (ah al bh bl ch cl x y z ph pl mh ml nh nl oh ol qh ql rh rl sh sl : Int) (w : World) (h1 : isU ah) (h2 : isU al) (h3 : isU bh) (h4 : isU bl) (h5 : isU ch) (h6 : isU cl) (hx : isU x) (hy : isU y) (hz : isU z) (hY : isU (y / 2)) (hZ : isU (z / 2)) (hYZ : isU (y / 2 + z / 2))
    (hsum : IntKind.u64.wrap (y / 2 + z / 2) = y / 2 + z / 2)
    (gp : isU pl) (ep : Hid (x * y = wN ph pl)) (gm : isU mh) (gm' : isU ml) (em : Hid (x * (y / 2) = wN mh ml)) (gn : isU nh) (gn' : isU nl) (en : Hid (x * (z / 2) = wN nh nl))
    (go : isU oh) (go' : isU ol) (eo : Hid (x * (y / 2 + z / 2) = wN oh ol)) (eo' : Hid (wN mh ml + wN nh nl = wN oh ol))
    (g1 : isU qh) (g2 : isU ql) (eq : Hid (wN ah al + wN bh bl = wN qh ql)) (g3 : isU rh) (g4 : isU rl) (er : Hid (wN qh ql + wN ch cl = wN rh rl)) (g5 : isU sh) (g6 : isU sl) (es : Hid (wN bh bl + wN ch cl = wN sh sl)) (et : Hid (wN ah al + wN sh sl = wN rh rl)) :
    rulesCall ah al bh bl ch cl x y z w := by
  unfold rulesCall
  have ep' : Hid (y * x = wN ph pl) := by refine Lib.hid ?_; rw [Int.mul_comm]; exact ep.out
  have eq' := Lib.hid ((Int.add_comm (wN bh bl) (wN ah al)).trans eq.out)
  have y0 : 0 ≤ y := hy.1
  have z0 : 0 ≤ z := hz.1
  have y1 : y ≤ 18446744073709551615 := hy.2
  have z1 : z ≤ 18446744073709551615 := hz.2
  go_enter Try.func7, Try.ntmps7
  go_wp2_with fail
  refine (add_ok _ h1 h2 h3 h4 g1 g2 eq.out).mono ?_
  rintro e w1 ⟨rfl, hb⟩
  have hB1 : Below w.heap.size w w1 := below_thru (by go_grown) hb
  have hs1 : w.heap.size ≤ w1.heap.size := hB1.size
  have x_a1 : Box w1 (w.heap.size) [.int .u64 ah, .int .u64 al] := (by refine Box.below ?_ hb; repeat (first | (with_reducible assumption) | (with_reducible refine Box.drew ?_) | (with_reducible refine Box.drewN ?_ _) | ((with_reducible refine Box.new ?_); simp; done) | (with_reducible apply Box.set2) | (with_reducible refine Box.alloc ?_ _) | (with_reducible refine Box.other ?_ (by first | (dsimp only; omega) | omega) _)))
  have z_a1 := x_a1.lt
  have c_a1_0 := x_a1.c 0 _ rfl
  have f_a1_0 := x_a1.f 0 _ rfl
  have c_a1_1 := x_a1.c 1 _ rfl
  have f_a1_1 := x_a1.f 1 _ rfl
  have x_b1 : Box w1 (w.heap.size + 1) [.int .u64 bh, .int .u64 bl] := (by refine Box.below ?_ hb; repeat (first | (with_reducible assumption) | (with_reducible refine Box.drew ?_) | (with_reducible refine Box.drewN ?_ _) | ((with_reducible refine Box.new ?_); simp; done) | (with_reducible apply Box.set2) | (with_reducible refine Box.alloc ?_ _) | (with_reducible refine Box.other ?_ (by first | (dsimp only; omega) | omega) _)))
  have z_b1 := x_b1.lt
  have c_b1_0 := x_b1.c 0 _ rfl
  have f_b1_0 := x_b1.f 0 _ rfl
  have c_b1_1 := x_b1.c 1 _ rfl
  have f_b1_1 := x_b1.f 1 _ rfl
  have x_c1 : Box w1 (w.heap.size + 1 + 1) [.int .u64 ch, .int .u64 cl] := (by refine Box.below ?_ hb; repeat (first | (with_reducible assumption) | (with_reducible refine Box.drew ?_) | (with_reducible refine Box.drewN ?_ _) | ((with_reducible refine Box.new ?_); simp; done) | (with_reducible apply Box.set2) | (with_reducible refine Box.alloc ?_ _) | (with_reducible refine Box.other ?_ (by first | (dsimp only; omega) | omega) _)))
  have z_c1 := x_c1.lt
  have c_c1_0 := x_c1.c 0 _ rfl
  have f_c1_0 := x_c1.f 0 _ rfl
  have c_c1_1 := x_c1.c 1 _ rfl
  have f_c1_1 := x_c1.f 1 _ rfl
  clear hb
  go_wp2_with fail
  refine (add_ok _ h3 h4 h1 h2 g1 g2 eq'.out).mono ?_
  rintro e w2 ⟨rfl, hb⟩
  have hB2 : Below w.heap.size w w2 := below_thru (by go_grown) hb
  have hs2 : w.heap.size ≤ w2.heap.size := hB2.size
  have x_a2 : Box w2 (w.heap.size) [.int .u64 ah, .int .u64 al] := (by refine Box.below ?_ hb; repeat (first | (with_reducible assumption) | (with_reducible refine Box.drew ?_) | (with_reducible refine Box.drewN ?_ _) | ((with_reducible refine Box.new ?_); simp; done) | (with_reducible apply Box.set2) | (with_reducible refine Box.alloc ?_ _) | (with_reducible refine Box.other ?_ (by first | (dsimp only; omega) | omega) _)))
  have z_a2 := x_a2.lt
  have c_a2_0 := x_a2.c 0 _ rfl
  have f_a2_0 := x_a2.f 0 _ rfl
  have c_a2_1 := x_a2.c 1 _ rfl
  have f_a2_1 := x_a2.f 1 _ rfl
  have x_b2 : Box w2 (w.heap.size + 1) [.int .u64 bh, .int .u64 bl] := (by refine Box.below ?_ hb; repeat (first | (with_reducible assumption) | (with_reducible refine Box.drew ?_) | (with_reducible refine Box.drewN ?_ _) | ((with_reducible refine Box.new ?_); simp; done) | (with_reducible apply Box.set2) | (with_reducible refine Box.alloc ?_ _) | (with_reducible refine Box.other ?_ (by first | (dsimp only; omega) | omega) _)))
  have z_b2 := x_b2.lt
  have c_b2_0 := x_b2.c 0 _ rfl
  have f_b2_0 := x_b2.f 0 _ rfl
  have c_b2_1 := x_b2.c 1 _ rfl
  have f_b2_1 := x_b2.f 1 _ rfl
  have x_c2 : Box w2 (w.heap.size + 1 + 1) [.int .u64 ch, .int .u64 cl] := (by refine Box.below ?_ hb; repeat (first | (with_reducible assumption) | (with_reducible refine Box.drew ?_) | (with_reducible refine Box.drewN ?_ _) | ((with_reducible refine Box.new ?_); simp; done) | (with_reducible apply Box.set2) | (with_reducible refine Box.alloc ?_ _) | (with_reducible refine Box.other ?_ (by first | (dsimp only; omega) | omega) _)))
  have z_c2 := x_c2.lt
  have c_c2_0 := x_c2.c 0 _ rfl
  have f_c2_0 := x_c2.f 0 _ rfl
  have c_c2_1 := x_c2.c 1 _ rfl
  have f_c2_1 := x_c2.f 1 _ rfl
  have x_p2 : Box w2 (w1.heap.size) [.int .u64 qh, .int .u64 ql] := (by refine Box.below ?_ hb; repeat (first | (with_reducible assumption) | (with_reducible refine Box.drew ?_) | (with_reducible refine Box.drewN ?_ _) | ((with_reducible refine Box.new ?_); simp; done) | (with_reducible apply Box.set2) | (with_reducible refine Box.alloc ?_ _) | (with_reducible refine Box.other ?_ (by first | (dsimp only; omega) | omega) _)))
  have z_p2 := x_p2.lt
  have c_p2_0 := x_p2.c 0 _ rfl
  have f_p2_0 := x_p2.f 0 _ rfl
  have c_p2_1 := x_p2.c 1 _ rfl
  have f_p2_1 := x_p2.f 1 _ rfl
  clear hb hB1 hs1 x_a1 z_a1 c_a1_0 c_a1_1 f_a1_0 f_a1_1 x_b1 z_b1 c_b1_0 c_b1_1 f_b1_0 f_b1_1 x_c1 z_c1 c_c1_0 c_c1_1 f_c1_0 f_c1_1
  go_wp2_with fail
  refine (mul_ok _ hx hy gp ep.out).mono ?_
  rintro e w3 ⟨rfl, hb⟩
  have hB3 : Below w.heap.size w w3 := below_thru (by go_grown) hb
  have hs3 : w.heap.size ≤ w3.heap.size := hB3.size
  have x_a3 : Box w3 (w.heap.size) [.int .u64 ah, .int .u64 al] := (by refine Box.below ?_ hb; repeat (first | (with_reducible assumption) | (with_reducible refine Box.drew ?_) | (with_reducible refine Box.drewN ?_ _) | ((with_reducible refine Box.new ?_); simp; done) | (with_reducible apply Box.set2) | (with_reducible refine Box.alloc ?_ _) | (with_reducible refine Box.other ?_ (by first | (dsimp only; omega) | omega) _)))
  have z_a3 := x_a3.lt
  have c_a3_0 := x_a3.c 0 _ rfl
  have f_a3_0 := x_a3.f 0 _ rfl
  have c_a3_1 := x_a3.c 1 _ rfl
  have f_a3_1 := x_a3.f 1 _ rfl
  have x_b3 : Box w3 (w.heap.size + 1) [.int .u64 bh, .int .u64 bl] := (by refine Box.below ?_ hb; repeat (first | (with_reducible assumption) | (with_reducible refine Box.drew ?_) | (with_reducible refine Box.drewN ?_ _) | ((with_reducible refine Box.new ?_); simp; done) | (with_reducible apply Box.set2) | (with_reducible refine Box.alloc ?_ _) | (with_reducible refine Box.other ?_ (by first | (dsimp only; omega) | omega) _)))
  have z_b3 := x_b3.lt
  have c_b3_0 := x_b3.c 0 _ rfl
  have f_b3_0 := x_b3.f 0 _ rfl
  have c_b3_1 := x_b3.c 1 _ rfl
  have f_b3_1 := x_b3.f 1 _ rfl
  have x_c3 : Box w3 (w.heap.size + 1 + 1) [.int .u64 ch, .int .u64 cl] := (by refine Box.below ?_ hb; repeat (first | (with_reducible assumption) | (with_reducible refine Box.drew ?_) | (with_reducible refine Box.drewN ?_ _) | ((with_reducible refine Box.new ?_); simp; done) | (with_reducible apply Box.set2) | (with_reducible refine Box.alloc ?_ _) | (with_reducible refine Box.other ?_ (by first | (dsimp only; omega) | omega) _)))
  have z_c3 := x_c3.lt
  have c_c3_0 := x_c3.c 0 _ rfl
  have f_c3_0 := x_c3.f 0 _ rfl
  have c_c3_1 := x_c3.c 1 _ rfl
  have f_c3_1 := x_c3.f 1 _ rfl
  have x_p3 : Box w3 (w1.heap.size) [.int .u64 qh, .int .u64 ql] := (by refine Box.below ?_ hb; repeat (first | (with_reducible assumption) | (with_reducible refine Box.drew ?_) | (with_reducible refine Box.drewN ?_ _) | ((with_reducible refine Box.new ?_); simp; done) | (with_reducible apply Box.set2) | (with_reducible refine Box.alloc ?_ _) | (with_reducible refine Box.other ?_ (by first | (dsimp only; omega) | omega) _)))
  have z_p3 := x_p3.lt
  have c_p3_0 := x_p3.c 0 _ rfl
  have f_p3_0 := x_p3.f 0 _ rfl
  have c_p3_1 := x_p3.c 1 _ rfl
  have f_p3_1 := x_p3.f 1 _ rfl
  have x_q3 : Box w3 (w2.heap.size) [.int .u64 qh, .int .u64 ql] := (by refine Box.below ?_ hb; repeat (first | (with_reducible assumption) | (with_reducible refine Box.drew ?_) | (with_reducible refine Box.drewN ?_ _) | ((with_reducible refine Box.new ?_); simp; done) | (with_reducible apply Box.set2) | (with_reducible refine Box.alloc ?_ _) | (with_reducible refine Box.other ?_ (by first | (dsimp only; omega) | omega) _)))
  have z_q3 := x_q3.lt
  have c_q3_0 := x_q3.c 0 _ rfl
  have f_q3_0 := x_q3.f 0 _ rfl
  have c_q3_1 := x_q3.c 1 _ rfl
  have f_q3_1 := x_q3.f 1 _ rfl
  clear hb hB2 hs2 x_a2 z_a2 c_a2_0 c_a2_1 f_a2_0 f_a2_1 x_b2 z_b2 c_b2_0 c_b2_1 f_b2_0 f_b2_1 x_c2 z_c2 c_c2_0 c_c2_1 f_c2_0 f_c2_1 x_p2 z_p2 c_p2_0 c_p2_1 f_p2_0 f_p2_1
  go_wp2_with fail
  refine (mul_ok _ hy hx gp ep'.out).mono ?_
  rintro e w4 ⟨rfl, hb⟩
  have hB4 : Below w.heap.size w w4 := below_thru (by go_grown) hb
  have hs4 : w.heap.size ≤ w4.heap.size := hB4.size
  have x_a4 : Box w4 (w.heap.size) [.int .u64 ah, .int .u64 al] := (by refine Box.below ?_ hb; repeat (first | (with_reducible assumption) | (with_reducible refine Box.drew ?_) | (with_reducible refine Box.drewN ?_ _) | ((with_reducible refine Box.new ?_); simp; done) | (with_reducible apply Box.set2) | (with_reducible refine Box.alloc ?_ _) | (with_reducible refine Box.other ?_ (by first | (dsimp only; omega) | omega) _)))
  have z_a4 := x_a4.lt
  have c_a4_0 := x_a4.c 0 _ rfl
  have f_a4_0 := x_a4.f 0 _ rfl
  have c_a4_1 := x_a4.c 1 _ rfl
  have f_a4_1 := x_a4.f 1 _ rfl
  have x_b4 : Box w4 (w.heap.size + 1) [.int .u64 bh, .int .u64 bl] := (by refine Box.below ?_ hb; repeat (first | (with_reducible assumption) | (with_reducible refine Box.drew ?_) | (with_reducible refine Box.drewN ?_ _) | ((with_reducible refine Box.new ?_); simp; done) | (with_reducible apply Box.set2) | (with_reducible refine Box.alloc ?_ _) | (with_reducible refine Box.other ?_ (by first | (dsimp only; omega) | omega) _)))
  have z_b4 := x_b4.lt
  have c_b4_0 := x_b4.c 0 _ rfl
  have f_b4_0 := x_b4.f 0 _ rfl
  have c_b4_1 := x_b4.c 1 _ rfl
  have f_b4_1 := x_b4.f 1 _ rfl
  have x_c4 : Box w4 (w.heap.size + 1 + 1) [.int .u64 ch, .int .u64 cl] := (by refine Box.below ?_ hb; repeat (first | (with_reducible assumption) | (with_reducible refine Box.drew ?_) | (with_reducible refine Box.drewN ?_ _) | ((with_reducible refine Box.new ?_); simp; done) | (with_reducible apply Box.set2) | (with_reducible refine Box.alloc ?_ _) | (with_reducible refine Box.other ?_ (by first | (dsimp only; omega) | omega) _)))
  have z_c4 := x_c4.lt
  have c_c4_0 := x_c4.c 0 _ rfl
  have f_c4_0 := x_c4.f 0 _ rfl
  have c_c4_1 := x_c4.c 1 _ rfl
  have f_c4_1 := x_c4.f 1 _ rfl
  have x_p4 : Box w4 (w1.heap.size) [.int .u64 qh, .int .u64 ql] := (by refine Box.below ?_ hb; repeat (first | (with_reducible assumption) | (with_reducible refine Box.drew ?_) | (with_reducible refine Box.drewN ?_ _) | ((with_reducible refine Box.new ?_); simp; done) | (with_reducible apply Box.set2) | (with_reducible refine Box.alloc ?_ _) | (with_reducible refine Box.other ?_ (by first | (dsimp only; omega) | omega) _)))
  have z_p4 := x_p4.lt
  have c_p4_0 := x_p4.c 0 _ rfl
  have f_p4_0 := x_p4.f 0 _ rfl
  have c_p4_1 := x_p4.c 1 _ rfl
  have f_p4_1 := x_p4.f 1 _ rfl
  have x_q4 : Box w4 (w2.heap.size) [.int .u64 qh, .int .u64 ql] := (by refine Box.below ?_ hb; repeat (first | (with_reducible assumption) | (with_reducible refine Box.drew ?_) | (with_reducible refine Box.drewN ?_ _) | ((with_reducible refine Box.new ?_); simp; done) | (with_reducible apply Box.set2) | (with_reducible refine Box.alloc ?_ _) | (with_reducible refine Box.other ?_ (by first | (dsimp only; omega) | omega) _)))
  have z_q4 := x_q4.lt
  have c_q4_0 := x_q4.c 0 _ rfl
  have f_q4_0 := x_q4.f 0 _ rfl
  have c_q4_1 := x_q4.c 1 _ rfl
  have f_q4_1 := x_q4.f 1 _ rfl
  clear hb hB3 hs3 x_a3 z_a3 c_a3_0 c_a3_1 f_a3_0 f_a3_1 x_b3 z_b3 c_b3_0 c_b3_1 f_b3_0 f_b3_1 x_c3 z_c3 c_c3_0 c_c3_1 f_c3_0 f_c3_1 x_p3 z_p3 c_p3_0 c_p3_1 f_p3_0 f_p3_1 x_q3 z_q3 c_q3_0 c_q3_1 f_q3_0 f_q3_1
  clear x_q4 z_q4 c_q4_0 c_q4_1 f_q4_0 f_q4_1
  go_wp2_with fail
  refine (add_ok _ g1 g2 h5 h6 g3 g4 er.out).mono ?_
  rintro e w5 ⟨rfl, hb⟩
  have hB5 : Below w.heap.size w w5 := below_thru (by go_grown) hb
  have hs5 : w.heap.size ≤ w5.heap.size := hB5.size
  have x_a5 : Box w5 (w.heap.size) [.int .u64 ah, .int .u64 al] := (by refine Box.below ?_ hb; repeat (first | (with_reducible assumption) | (with_reducible refine Box.drew ?_) | (with_reducible refine Box.drewN ?_ _) | ((with_reducible refine Box.new ?_); simp; done) | (with_reducible apply Box.set2) | (with_reducible refine Box.alloc ?_ _) | (with_reducible refine Box.other ?_ (by first | (dsimp only; omega) | omega) _)))
  have z_a5 := x_a5.lt
  have c_a5_0 := x_a5.c 0 _ rfl
  have f_a5_0 := x_a5.f 0 _ rfl
  have c_a5_1 := x_a5.c 1 _ rfl
  have f_a5_1 := x_a5.f 1 _ rfl
  have x_b5 : Box w5 (w.heap.size + 1) [.int .u64 bh, .int .u64 bl] := (by refine Box.below ?_ hb; repeat (first | (with_reducible assumption) | (with_reducible refine Box.drew ?_) | (with_reducible refine Box.drewN ?_ _) | ((with_reducible refine Box.new ?_); simp; done) | (with_reducible apply Box.set2) | (with_reducible refine Box.alloc ?_ _) | (with_reducible refine Box.other ?_ (by first | (dsimp only; omega) | omega) _)))
  have z_b5 := x_b5.lt
  have c_b5_0 := x_b5.c 0 _ rfl
  have f_b5_0 := x_b5.f 0 _ rfl
  have c_b5_1 := x_b5.c 1 _ rfl
  have f_b5_1 := x_b5.f 1 _ rfl
  have x_c5 : Box w5 (w.heap.size + 1 + 1) [.int .u64 ch, .int .u64 cl] := (by refine Box.below ?_ hb; repeat (first | (with_reducible assumption) | (with_reducible refine Box.drew ?_) | (with_reducible refine Box.drewN ?_ _) | ((with_reducible refine Box.new ?_); simp; done) | (with_reducible apply Box.set2) | (with_reducible refine Box.alloc ?_ _) | (with_reducible refine Box.other ?_ (by first | (dsimp only; omega) | omega) _)))
  have z_c5 := x_c5.lt
  have c_c5_0 := x_c5.c 0 _ rfl
  have f_c5_0 := x_c5.f 0 _ rfl
  have c_c5_1 := x_c5.c 1 _ rfl
  have f_c5_1 := x_c5.f 1 _ rfl
  have x_p5 : Box w5 (w1.heap.size) [.int .u64 qh, .int .u64 ql] := (by refine Box.below ?_ hb; repeat (first | (with_reducible assumption) | (with_reducible refine Box.drew ?_) | (with_reducible refine Box.drewN ?_ _) | ((with_reducible refine Box.new ?_); simp; done) | (with_reducible apply Box.set2) | (with_reducible refine Box.alloc ?_ _) | (with_reducible refine Box.other ?_ (by first | (dsimp only; omega) | omega) _)))
  have z_p5 := x_p5.lt
  have c_p5_0 := x_p5.c 0 _ rfl
  have f_p5_0 := x_p5.f 0 _ rfl
  have c_p5_1 := x_p5.c 1 _ rfl
  have f_p5_1 := x_p5.f 1 _ rfl
  clear hb hB4 hs4 x_a4 z_a4 c_a4_0 c_a4_1 f_a4_0 f_a4_1 x_b4 z_b4 c_b4_0 c_b4_1 f_b4_0 f_b4_1 x_c4 z_c4 c_c4_0 c_c4_1 f_c4_0 f_c4_1 x_p4 z_p4 c_p4_0 c_p4_1 f_p4_0 f_p4_1
  go_wp2_with fail
  refine (add_ok _ h3 h4 h5 h6 g5 g6 es.out).mono ?_
  rintro e w6 ⟨rfl, hb⟩
  have hB6 : Below w.heap.size w w6 := below_thru (by go_grown) hb
  have hs6 : w.heap.size ≤ w6.heap.size := hB6.size
  have x_a6 : Box w6 (w.heap.size) [.int .u64 ah, .int .u64 al] := (by refine Box.below ?_ hb; repeat (first | (with_reducible assumption) | (with_reducible refine Box.drew ?_) | (with_reducible refine Box.drewN ?_ _) | ((with_reducible refine Box.new ?_); simp; done) | (with_reducible apply Box.set2) | (with_reducible refine Box.alloc ?_ _) | (with_reducible refine Box.other ?_ (by first | (dsimp only; omega) | omega) _)))
  have z_a6 := x_a6.lt
  have c_a6_0 := x_a6.c 0 _ rfl
  have f_a6_0 := x_a6.f 0 _ rfl
  have c_a6_1 := x_a6.c 1 _ rfl
  have f_a6_1 := x_a6.f 1 _ rfl
  have x_b6 : Box w6 (w.heap.size + 1) [.int .u64 bh, .int .u64 bl] := (by refine Box.below ?_ hb; repeat (first | (with_reducible assumption) | (with_reducible refine Box.drew ?_) | (with_reducible refine Box.drewN ?_ _) | ((with_reducible refine Box.new ?_); simp; done) | (with_reducible apply Box.set2) | (with_reducible refine Box.alloc ?_ _) | (with_reducible refine Box.other ?_ (by first | (dsimp only; omega) | omega) _)))
  have z_b6 := x_b6.lt
  have c_b6_0 := x_b6.c 0 _ rfl
  have f_b6_0 := x_b6.f 0 _ rfl
  have c_b6_1 := x_b6.c 1 _ rfl
  have f_b6_1 := x_b6.f 1 _ rfl
  have x_c6 : Box w6 (w.heap.size + 1 + 1) [.int .u64 ch, .int .u64 cl] := (by refine Box.below ?_ hb; repeat (first | (with_reducible assumption) | (with_reducible refine Box.drew ?_) | (with_reducible refine Box.drewN ?_ _) | ((with_reducible refine Box.new ?_); simp; done) | (with_reducible apply Box.set2) | (with_reducible refine Box.alloc ?_ _) | (with_reducible refine Box.other ?_ (by first | (dsimp only; omega) | omega) _)))
  have z_c6 := x_c6.lt
  have c_c6_0 := x_c6.c 0 _ rfl
  have f_c6_0 := x_c6.f 0 _ rfl
  have c_c6_1 := x_c6.c 1 _ rfl
  have f_c6_1 := x_c6.f 1 _ rfl
  have x_p6 : Box w6 (w1.heap.size) [.int .u64 qh, .int .u64 ql] := (by refine Box.below ?_ hb; repeat (first | (with_reducible assumption) | (with_reducible refine Box.drew ?_) | (with_reducible refine Box.drewN ?_ _) | ((with_reducible refine Box.new ?_); simp; done) | (with_reducible apply Box.set2) | (with_reducible refine Box.alloc ?_ _) | (with_reducible refine Box.other ?_ (by first | (dsimp only; omega) | omega) _)))
  have z_p6 := x_p6.lt
  have c_p6_0 := x_p6.c 0 _ rfl
  have f_p6_0 := x_p6.f 0 _ rfl
  have c_p6_1 := x_p6.c 1 _ rfl
  have f_p6_1 := x_p6.f 1 _ rfl
  have x_r6 : Box w6 (w5.heap.size) [.int .u64 rh, .int .u64 rl] := (by refine Box.below ?_ hb; repeat (first | (with_reducible assumption) | (with_reducible refine Box.drew ?_) | (with_reducible refine Box.drewN ?_ _) | ((with_reducible refine Box.new ?_); simp; done) | (with_reducible apply Box.set2) | (with_reducible refine Box.alloc ?_ _) | (with_reducible refine Box.other ?_ (by first | (dsimp only; omega) | omega) _)))
  have z_r6 := x_r6.lt
  have c_r6_0 := x_r6.c 0 _ rfl
  have f_r6_0 := x_r6.f 0 _ rfl
  have c_r6_1 := x_r6.c 1 _ rfl
  have f_r6_1 := x_r6.f 1 _ rfl
  clear hb hB5 hs5 x_a5 z_a5 c_a5_0 c_a5_1 f_a5_0 f_a5_1 x_b5 z_b5 c_b5_0 c_b5_1 f_b5_0 f_b5_1 x_c5 z_c5 c_c5_0 c_c5_1 f_c5_0 f_c5_1 x_p5 z_p5 c_p5_0 c_p5_1 f_p5_0 f_p5_1
  go_wp2_with fail
  refine (add_ok _ h1 h2 g5 g6 g3 g4 et.out).mono ?_
  rintro e w7 ⟨rfl, hb⟩
  have hB7 : Below w.heap.size w w7 := below_thru (by go_grown) hb
  have hs7 : w.heap.size ≤ w7.heap.size := hB7.size
  have x_a7 : Box w7 (w.heap.size) [.int .u64 ah, .int .u64 al] := (by refine Box.below ?_ hb; repeat (first | (with_reducible assumption) | (with_reducible refine Box.drew ?_) | (with_reducible refine Box.drewN ?_ _) | ((with_reducible refine Box.new ?_); simp; done) | (with_reducible apply Box.set2) | (with_reducible refine Box.alloc ?_ _) | (with_reducible refine Box.other ?_ (by first | (dsimp only; omega) | omega) _)))
  have z_a7 := x_a7.lt
  have c_a7_0 := x_a7.c 0 _ rfl
  have f_a7_0 := x_a7.f 0 _ rfl
  have c_a7_1 := x_a7.c 1 _ rfl
  have f_a7_1 := x_a7.f 1 _ rfl
  have x_b7 : Box w7 (w.heap.size + 1) [.int .u64 bh, .int .u64 bl] := (by refine Box.below ?_ hb; repeat (first | (with_reducible assumption) | (with_reducible refine Box.drew ?_) | (with_reducible refine Box.drewN ?_ _) | ((with_reducible refine Box.new ?_); simp; done) | (with_reducible apply Box.set2) | (with_reducible refine Box.alloc ?_ _) | (with_reducible refine Box.other ?_ (by first | (dsimp only; omega) | omega) _)))
  have z_b7 := x_b7.lt
  have c_b7_0 := x_b7.c 0 _ rfl
  have f_b7_0 := x_b7.f 0 _ rfl
  have c_b7_1 := x_b7.c 1 _ rfl
  have f_b7_1 := x_b7.f 1 _ rfl
  have x_c7 : Box w7 (w.heap.size + 1 + 1) [.int .u64 ch, .int .u64 cl] := (by refine Box.below ?_ hb; repeat (first | (with_reducible assumption) | (with_reducible refine Box.drew ?_) | (with_reducible refine Box.drewN ?_ _) | ((with_reducible refine Box.new ?_); simp; done) | (with_reducible apply Box.set2) | (with_reducible refine Box.alloc ?_ _) | (with_reducible refine Box.other ?_ (by first | (dsimp only; omega) | omega) _)))
  have z_c7 := x_c7.lt
  have c_c7_0 := x_c7.c 0 _ rfl
  have f_c7_0 := x_c7.f 0 _ rfl
  have c_c7_1 := x_c7.c 1 _ rfl
  have f_c7_1 := x_c7.f 1 _ rfl
  have x_p7 : Box w7 (w1.heap.size) [.int .u64 qh, .int .u64 ql] := (by refine Box.below ?_ hb; repeat (first | (with_reducible assumption) | (with_reducible refine Box.drew ?_) | (with_reducible refine Box.drewN ?_ _) | ((with_reducible refine Box.new ?_); simp; done) | (with_reducible apply Box.set2) | (with_reducible refine Box.alloc ?_ _) | (with_reducible refine Box.other ?_ (by first | (dsimp only; omega) | omega) _)))
  have z_p7 := x_p7.lt
  have c_p7_0 := x_p7.c 0 _ rfl
  have f_p7_0 := x_p7.f 0 _ rfl
  have c_p7_1 := x_p7.c 1 _ rfl
  have f_p7_1 := x_p7.f 1 _ rfl
  have x_r7 : Box w7 (w5.heap.size) [.int .u64 rh, .int .u64 rl] := (by refine Box.below ?_ hb; repeat (first | (with_reducible assumption) | (with_reducible refine Box.drew ?_) | (with_reducible refine Box.drewN ?_ _) | ((with_reducible refine Box.new ?_); simp; done) | (with_reducible apply Box.set2) | (with_reducible refine Box.alloc ?_ _) | (with_reducible refine Box.other ?_ (by first | (dsimp only; omega) | omega) _)))
  have z_r7 := x_r7.lt
  have c_r7_0 := x_r7.c 0 _ rfl
  have f_r7_0 := x_r7.f 0 _ rfl
  have c_r7_1 := x_r7.c 1 _ rfl
  have f_r7_1 := x_r7.f 1 _ rfl
  have x_s7 : Box w7 (w6.heap.size) [.int .u64 sh, .int .u64 sl] := (by refine Box.below ?_ hb; repeat (first | (with_reducible assumption) | (with_reducible refine Box.drew ?_) | (with_reducible refine Box.drewN ?_ _) | ((with_reducible refine Box.new ?_); simp; done) | (with_reducible apply Box.set2) | (with_reducible refine Box.alloc ?_ _) | (with_reducible refine Box.other ?_ (by first | (dsimp only; omega) | omega) _)))
  have z_s7 := x_s7.lt
  have c_s7_0 := x_s7.c 0 _ rfl
  have f_s7_0 := x_s7.f 0 _ rfl
  have c_s7_1 := x_s7.c 1 _ rfl
  have f_s7_1 := x_s7.f 1 _ rfl
  clear hb hB6 hs6 x_a6 z_a6 c_a6_0 c_a6_1 f_a6_0 f_a6_1 x_b6 z_b6 c_b6_0 c_b6_1 f_b6_0 f_b6_1 x_c6 z_c6 c_c6_0 c_c6_1 f_c6_0 f_c6_1 x_p6 z_p6 c_p6_0 c_p6_1 f_p6_0 f_p6_1 x_r6 z_r6 c_r6_0 c_r6_1 f_r6_0 f_r6_1
  go_wp2_with fail
  refine (mul_ok _ hx hY gm' em.out).mono ?_
  rintro e w8 ⟨rfl, hb⟩
  have hB8 : Below w.heap.size w w8 := below_thru (by go_grown) hb
  have hs8 : w.heap.size ≤ w8.heap.size := hB8.size
  have x_a8 : Box w8 (w.heap.size) [.int .u64 ah, .int .u64 al] := (by refine Box.below ?_ hb; repeat (first | (with_reducible assumption) | (with_reducible refine Box.drew ?_) | (with_reducible refine Box.drewN ?_ _) | ((with_reducible refine Box.new ?_); simp; done) | (with_reducible apply Box.set2) | (with_reducible refine Box.alloc ?_ _) | (with_reducible refine Box.other ?_ (by first | (dsimp only; omega) | omega) _)))
  have z_a8 := x_a8.lt
  have c_a8_0 := x_a8.c 0 _ rfl
  have f_a8_0 := x_a8.f 0 _ rfl
  have c_a8_1 := x_a8.c 1 _ rfl
  have f_a8_1 := x_a8.f 1 _ rfl
  have x_b8 : Box w8 (w.heap.size + 1) [.int .u64 bh, .int .u64 bl] := (by refine Box.below ?_ hb; repeat (first | (with_reducible assumption) | (with_reducible refine Box.drew ?_) | (with_reducible refine Box.drewN ?_ _) | ((with_reducible refine Box.new ?_); simp; done) | (with_reducible apply Box.set2) | (with_reducible refine Box.alloc ?_ _) | (with_reducible refine Box.other ?_ (by first | (dsimp only; omega) | omega) _)))
  have z_b8 := x_b8.lt
  have c_b8_0 := x_b8.c 0 _ rfl
  have f_b8_0 := x_b8.f 0 _ rfl
  have c_b8_1 := x_b8.c 1 _ rfl
  have f_b8_1 := x_b8.f 1 _ rfl
  have x_c8 : Box w8 (w.heap.size + 1 + 1) [.int .u64 ch, .int .u64 cl] := (by refine Box.below ?_ hb; repeat (first | (with_reducible assumption) | (with_reducible refine Box.drew ?_) | (with_reducible refine Box.drewN ?_ _) | ((with_reducible refine Box.new ?_); simp; done) | (with_reducible apply Box.set2) | (with_reducible refine Box.alloc ?_ _) | (with_reducible refine Box.other ?_ (by first | (dsimp only; omega) | omega) _)))
  have z_c8 := x_c8.lt
  have c_c8_0 := x_c8.c 0 _ rfl
  have f_c8_0 := x_c8.f 0 _ rfl
  have c_c8_1 := x_c8.c 1 _ rfl
  have f_c8_1 := x_c8.f 1 _ rfl
  have x_p8 : Box w8 (w1.heap.size) [.int .u64 qh, .int .u64 ql] := (by refine Box.below ?_ hb; repeat (first | (with_reducible assumption) | (with_reducible refine Box.drew ?_) | (with_reducible refine Box.drewN ?_ _) | ((with_reducible refine Box.new ?_); simp; done) | (with_reducible apply Box.set2) | (with_reducible refine Box.alloc ?_ _) | (with_reducible refine Box.other ?_ (by first | (dsimp only; omega) | omega) _)))
  have z_p8 := x_p8.lt
  have c_p8_0 := x_p8.c 0 _ rfl
  have f_p8_0 := x_p8.f 0 _ rfl
  have c_p8_1 := x_p8.c 1 _ rfl
  have f_p8_1 := x_p8.f 1 _ rfl
  have x_r8 : Box w8 (w5.heap.size) [.int .u64 rh, .int .u64 rl] := (by refine Box.below ?_ hb; repeat (first | (with_reducible assumption) | (with_reducible refine Box.drew ?_) | (with_reducible refine Box.drewN ?_ _) | ((with_reducible refine Box.new ?_); simp; done) | (with_reducible apply Box.set2) | (with_reducible refine Box.alloc ?_ _) | (with_reducible refine Box.other ?_ (by first | (dsimp only; omega) | omega) _)))
  have z_r8 := x_r8.lt
  have c_r8_0 := x_r8.c 0 _ rfl
  have f_r8_0 := x_r8.f 0 _ rfl
  have c_r8_1 := x_r8.c 1 _ rfl
  have f_r8_1 := x_r8.f 1 _ rfl
  have x_s8 : Box w8 (w6.heap.size) [.int .u64 sh, .int .u64 sl] := (by refine Box.below ?_ hb; repeat (first | (with_reducible assumption) | (with_reducible refine Box.drew ?_) | (with_reducible refine Box.drewN ?_ _) | ((with_reducible refine Box.new ?_); simp; done) | (with_reducible apply Box.set2) | (with_reducible refine Box.alloc ?_ _) | (with_reducible refine Box.other ?_ (by first | (dsimp only; omega) | omega) _)))
  have z_s8 := x_s8.lt
  have c_s8_0 := x_s8.c 0 _ rfl
  have f_s8_0 := x_s8.f 0 _ rfl
  have c_s8_1 := x_s8.c 1 _ rfl
  have f_s8_1 := x_s8.f 1 _ rfl
  have x_t8 : Box w8 (w7.heap.size) [.int .u64 rh, .int .u64 rl] := (by refine Box.below ?_ hb; repeat (first | (with_reducible assumption) | (with_reducible refine Box.drew ?_) | (with_reducible refine Box.drewN ?_ _) | ((with_reducible refine Box.new ?_); simp; done) | (with_reducible apply Box.set2) | (with_reducible refine Box.alloc ?_ _) | (with_reducible refine Box.other ?_ (by first | (dsimp only; omega) | omega) _)))
  have z_t8 := x_t8.lt
  have c_t8_0 := x_t8.c 0 _ rfl
  have f_t8_0 := x_t8.f 0 _ rfl
  have c_t8_1 := x_t8.c 1 _ rfl
  have f_t8_1 := x_t8.f 1 _ rfl
  clear hb hB7 hs7 x_a7 z_a7 c_a7_0 c_a7_1 f_a7_0 f_a7_1 x_b7 z_b7 c_b7_0 c_b7_1 f_b7_0 f_b7_1 x_c7 z_c7 c_c7_0 c_c7_1 f_c7_0 f_c7_1 x_p7 z_p7 c_p7_0 c_p7_1 f_p7_0 f_p7_1 x_r7 z_r7 c_r7_0 c_r7_1 f_r7_0 f_r7_1 x_s7 z_s7 c_s7_0 c_s7_1 f_s7_0 f_s7_1
  go_wp2_with fail
  refine (mul_ok _ hx hZ gn' en.out).mono ?_
  rintro e w9 ⟨rfl, hb⟩
  have hB9 : Below w.heap.size w w9 := below_thru (by go_grown) hb
  have hs9 : w.heap.size ≤ w9.heap.size := hB9.size
  have x_a9 : Box w9 (w.heap.size) [.int .u64 ah, .int .u64 al] := (by refine Box.below ?_ hb; repeat (first | (with_reducible assumption) | (with_reducible refine Box.drew ?_) | (with_reducible refine Box.drewN ?_ _) | ((with_reducible refine Box.new ?_); simp; done) | (with_reducible apply Box.set2) | (with_reducible refine Box.alloc ?_ _) | (with_reducible refine Box.other ?_ (by first | (dsimp only; omega) | omega) _)))
  have z_a9 := x_a9.lt
  have c_a9_0 := x_a9.c 0 _ rfl
  have f_a9_0 := x_a9.f 0 _ rfl
  have c_a9_1 := x_a9.c 1 _ rfl
  have f_a9_1 := x_a9.f 1 _ rfl
  have x_b9 : Box w9 (w.heap.size + 1) [.int .u64 bh, .int .u64 bl] := (by refine Box.below ?_ hb; repeat (first | (with_reducible assumption) | (with_reducible refine Box.drew ?_) | (with_reducible refine Box.drewN ?_ _) | ((with_reducible refine Box.new ?_); simp; done) | (with_reducible apply Box.set2) | (with_reducible refine Box.alloc ?_ _) | (with_reducible refine Box.other ?_ (by first | (dsimp only; omega) | omega) _)))
  have z_b9 := x_b9.lt
  have c_b9_0 := x_b9.c 0 _ rfl
  have f_b9_0 := x_b9.f 0 _ rfl
  have c_b9_1 := x_b9.c 1 _ rfl
  have f_b9_1 := x_b9.f 1 _ rfl
  have x_c9 : Box w9 (w.heap.size + 1 + 1) [.int .u64 ch, .int .u64 cl] := (by refine Box.below ?_ hb; repeat (first | (with_reducible assumption) | (with_reducible refine Box.drew ?_) | (with_reducible refine Box.drewN ?_ _) | ((with_reducible refine Box.new ?_); simp; done) | (with_reducible apply Box.set2) | (with_reducible refine Box.alloc ?_ _) | (with_reducible refine Box.other ?_ (by first | (dsimp only; omega) | omega) _)))
  have z_c9 := x_c9.lt
  have c_c9_0 := x_c9.c 0 _ rfl
  have f_c9_0 := x_c9.f 0 _ rfl
  have c_c9_1 := x_c9.c 1 _ rfl
  have f_c9_1 := x_c9.f 1 _ rfl
  have x_p9 : Box w9 (w1.heap.size) [.int .u64 qh, .int .u64 ql] := (by refine Box.below ?_ hb; repeat (first | (with_reducible assumption) | (with_reducible refine Box.drew ?_) | (with_reducible refine Box.drewN ?_ _) | ((with_reducible refine Box.new ?_); simp; done) | (with_reducible apply Box.set2) | (with_reducible refine Box.alloc ?_ _) | (with_reducible refine Box.other ?_ (by first | (dsimp only; omega) | omega) _)))
  have z_p9 := x_p9.lt
  have c_p9_0 := x_p9.c 0 _ rfl
  have f_p9_0 := x_p9.f 0 _ rfl
  have c_p9_1 := x_p9.c 1 _ rfl
  have f_p9_1 := x_p9.f 1 _ rfl
  have x_r9 : Box w9 (w5.heap.size) [.int .u64 rh, .int .u64 rl] := (by refine Box.below ?_ hb; repeat (first | (with_reducible assumption) | (with_reducible refine Box.drew ?_) | (with_reducible refine Box.drewN ?_ _) | ((with_reducible refine Box.new ?_); simp; done) | (with_reducible apply Box.set2) | (with_reducible refine Box.alloc ?_ _) | (with_reducible refine Box.other ?_ (by first | (dsimp only; omega) | omega) _)))
  have z_r9 := x_r9.lt
  have c_r9_0 := x_r9.c 0 _ rfl
  have f_r9_0 := x_r9.f 0 _ rfl
  have c_r9_1 := x_r9.c 1 _ rfl
  have f_r9_1 := x_r9.f 1 _ rfl
  have x_s9 : Box w9 (w6.heap.size) [.int .u64 sh, .int .u64 sl] := (by refine Box.below ?_ hb; repeat (first | (with_reducible assumption) | (with_reducible refine Box.drew ?_) | (with_reducible refine Box.drewN ?_ _) | ((with_reducible refine Box.new ?_); simp; done) | (with_reducible apply Box.set2) | (with_reducible refine Box.alloc ?_ _) | (with_reducible refine Box.other ?_ (by first | (dsimp only; omega) | omega) _)))
  have z_s9 := x_s9.lt
  have c_s9_0 := x_s9.c 0 _ rfl
  have f_s9_0 := x_s9.f 0 _ rfl
  have c_s9_1 := x_s9.c 1 _ rfl
  have f_s9_1 := x_s9.f 1 _ rfl
  have x_t9 : Box w9 (w7.heap.size) [.int .u64 rh, .int .u64 rl] := (by refine Box.below ?_ hb; repeat (first | (with_reducible assumption) | (with_reducible refine Box.drew ?_) | (with_reducible refine Box.drewN ?_ _) | ((with_reducible refine Box.new ?_); simp; done) | (with_reducible apply Box.set2) | (with_reducible refine Box.alloc ?_ _) | (with_reducible refine Box.other ?_ (by first | (dsimp only; omega) | omega) _)))
  have z_t9 := x_t9.lt
  have c_t9_0 := x_t9.c 0 _ rfl
  have f_t9_0 := x_t9.f 0 _ rfl
  have c_t9_1 := x_t9.c 1 _ rfl
  have f_t9_1 := x_t9.f 1 _ rfl
  clear hb hB8 hs8 x_a8 z_a8 c_a8_0 c_a8_1 f_a8_0 f_a8_1 x_b8 z_b8 c_b8_0 c_b8_1 f_b8_0 f_b8_1 x_c8 z_c8 c_c8_0 c_c8_1 f_c8_0 f_c8_1 x_p8 z_p8 c_p8_0 c_p8_1 f_p8_0 f_p8_1 x_r8 z_r8 c_r8_0 c_r8_1 f_r8_0 f_r8_1 x_s8 z_s8 c_s8_0 c_s8_1 f_s8_0 f_s8_1 x_t8 z_t8 c_t8_0 c_t8_1 f_t8_0 f_t8_1
  clear x_a9 z_a9 c_a9_0 c_a9_1 f_a9_0 f_a9_1
  clear x_b9 z_b9 c_b9_0 c_b9_1 f_b9_0 f_b9_1
  clear x_c9 z_c9 c_c9_0 c_c9_1 f_c9_0 f_c9_1
  clear x_p9 z_p9 c_p9_0 c_p9_1 f_p9_0 f_p9_1
  clear x_r9 z_r9 c_r9_0 c_r9_1 f_r9_0 f_r9_1
  clear x_s9 z_s9 c_s9_0 c_s9_1 f_s9_0 f_s9_1
  clear x_t9 z_t9 c_t9_0 c_t9_1 f_t9_0 f_t9_1
  go_wp2_with fail
  refine (add_ok _ gm gm' gn gn' go go' eo'.out).mono ?_
  rintro e w10 ⟨rfl, hb⟩
  have hB10 : Below w.heap.size w w10 := below_thru (by go_grown) hb
  have hs10 : w.heap.size ≤ w10.heap.size := hB10.size
  clear hb hB9 hs9
  go_upto_region 12 with fail
  go_cut [12] (fun q0 wx => q0 = .bool true ∧ Box wx (w10.heap.size) [.int .u64 oh, .int .u64 ol] ∧ Below w.heap.size w wx)
  case first =>
    go_region_held3 (fun w' => w'.cell? ⟨w10.heap.size, 0, none⟩ = some (.int .u64 oh) ∧ w'.cell? ⟨w10.heap.size, 1, none⟩ = some (.int .u64 ol)) (((repeat' apply And.intro) <;> (first | (go_keep; done) | go_cell)))
      (first
        | (go_at_call 16; refine (mul_ok _ hx hYZ go' eo.out).mono ?_; rintro e v1 ⟨rfl, hv1⟩; have hV1 : Below w.heap.size w v1 := below_thru (by go_grown) hv1; have hs_v1 : w.heap.size ≤ v1.heap.size := hV1.size; have x_u_v1 : Box v1 (w10.heap.size) [.int .u64 oh, .int .u64 ol] := (by refine Box.below ?_ hv1; repeat (first | (with_reducible assumption) | (with_reducible refine Box.drew ?_) | (with_reducible refine Box.drewN ?_ _) | ((with_reducible refine Box.new ?_); simp; done) | (with_reducible apply Box.set2) | (with_reducible refine Box.alloc ?_ _) | (with_reducible refine Box.other ?_ (by first | (dsimp only; omega) | omega) _))); have z_u_v1 := x_u_v1.lt; have c_u_v1_0 := x_u_v1.c 0 _ rfl; have f_u_v1_0 := x_u_v1.f 0 _ rfl; have c_u_v1_1 := x_u_v1.c 1 _ rfl; have f_u_v1_1 := x_u_v1.f 1 _ rfl)
        | (go_at_call 17; refine (alive_any _).mono ?_; rintro e v2 ⟨rfl, hv2⟩; have hV2 : Below w.heap.size w v2 := below_thru (by go_grown) hv2; have hs_v2 : w.heap.size ≤ v2.heap.size := hV2.size; have x_u_v2 : Box v2 (w10.heap.size) [.int .u64 oh, .int .u64 ol] := (by refine Box.below ?_ hv2; repeat (first | (with_reducible assumption) | (with_reducible refine Box.drew ?_) | (with_reducible refine Box.drewN ?_ _) | ((with_reducible refine Box.new ?_); simp; done) | (with_reducible apply Box.set2) | (with_reducible refine Box.alloc ?_ _) | (with_reducible refine Box.other ?_ (by first | (dsimp only; omega) | omega) _))); have z_u_v2 := x_u_v2.lt; have c_u_v2_0 := x_u_v2.c 0 _ rfl; have f_u_v2_0 := x_u_v2.f 0 _ rfl; have c_u_v2_1 := x_u_v2.c 1 _ rfl; have f_u_v2_1 := x_u_v2.f 1 _ rfl))
    all_goals
      go_wp2_with fail
      go_meet
      refine ⟨rfl, ?_, ?_⟩
      all_goals first
        | ((repeat (first | (with_reducible assumption) | (with_reducible refine Box.drew ?_) | (with_reducible refine Box.drewN ?_ _) | ((with_reducible refine Box.new ?_); simp; done) | (with_reducible apply Box.set2) | (with_reducible refine Box.alloc ?_ _) | (with_reducible refine Box.other ?_ (by first | (dsimp only; omega) | omega) _))); done)
        | (go_grown; done)
  case rest =>
    obtain ⟨rfl, x_u11, hB11⟩ := hcut
    obtain ⟨w11, rfl⟩ : ∃ u : World, u = wc := ⟨_, rfl⟩
    clear hB10 hs10
    have hs11 : w.heap.size ≤ w11.heap.size := hB11.size
    have z_u11 := x_u11.lt
    have c_u11_0 := x_u11.c 0 _ rfl; have f_u11_0 := x_u11.f 0 _ rfl
    have c_u11_1 := x_u11.c 1 _ rfl; have f_u11_1 := x_u11.f 1 _ rfl
    go_wp2
    go_returns
    refine ⟨rfl, ?_⟩
    go_grown

set_option maxRecDepth 100000 in
set_option maxHeartbeats 800000 in
theorem rules_2 (ah al bh bl ch cl x y z ph pl mh ml nh nl oh ol qh ql : Int) (w : World) (h1 : isU ah) (h2 : isU al) (h3 : isU bh) (h4 : isU bl) (h5 : isU ch) (h6 : isU cl) (hx : isU x) (hy : isU y) (hz : isU z) (hY : isU (y / 2)) (hZ : isU (z / 2)) (hYZ : isU (y / 2 + z / 2))
    (hsum : IntKind.u64.wrap (y / 2 + z / 2) = y / 2 + z / 2)
    (gp : isU pl) (ep : Hid (x * y = wN ph pl)) (gm : isU mh) (gm' : isU ml) (em : Hid (x * (y / 2) = wN mh ml)) (gn : isU nh) (gn' : isU nl) (en : Hid (x * (z / 2) = wN nh nl))
    (go : isU oh) (go' : isU ol) (eo : Hid (x * (y / 2 + z / 2) = wN oh ol)) (eo' : Hid (wN mh ml + wN nh nl = wN oh ol))
    (g1 : isU qh) (g2 : isU ql) (eq : Hid (wN ah al + wN bh bl = wN qh ql)) (er : Hid (340282366920938463463374607431768211456 ≤ wN qh ql + wN ch cl)) (gs : isU (wHi (addV (wN bh bl + wN ch cl)))) :
    rulesCall ah al bh bl ch cl x y z w := by
  unfold rulesCall
  have ep' : Hid (y * x = wN ph pl) := by refine Lib.hid ?_; rw [Int.mul_comm]; exact ep.out
  have eq' := Lib.hid ((Int.add_comm (wN bh bl) (wN ah al)).trans eq.out)
  have y0 : 0 ≤ y := hy.1
  have z0 : 0 ≤ z := hz.1
  have y1 : y ≤ 18446744073709551615 := hy.2
  have z1 : z ≤ 18446744073709551615 := hz.2
  go_enter Try.func7, Try.ntmps7
  go_wp2_with fail
  refine (add_ok _ h1 h2 h3 h4 g1 g2 eq.out).mono ?_
  rintro e w1 ⟨rfl, hb⟩
  have hB1 : Below w.heap.size w w1 := below_thru (by go_grown) hb
  have hs1 : w.heap.size ≤ w1.heap.size := hB1.size
  have x_a1 : Box w1 (w.heap.size) [.int .u64 ah, .int .u64 al] := (by refine Box.below ?_ hb; repeat (first | (with_reducible assumption) | (with_reducible refine Box.drew ?_) | (with_reducible refine Box.drewN ?_ _) | ((with_reducible refine Box.new ?_); simp; done) | (with_reducible apply Box.set2) | (with_reducible refine Box.alloc ?_ _) | (with_reducible refine Box.other ?_ (by first | (dsimp only; omega) | omega) _)))
  have z_a1 := x_a1.lt
  have c_a1_0 := x_a1.c 0 _ rfl
  have f_a1_0 := x_a1.f 0 _ rfl
  have c_a1_1 := x_a1.c 1 _ rfl
  have f_a1_1 := x_a1.f 1 _ rfl
  have x_b1 : Box w1 (w.heap.size + 1) [.int .u64 bh, .int .u64 bl] := (by refine Box.below ?_ hb; repeat (first | (with_reducible assumption) | (with_reducible refine Box.drew ?_) | (with_reducible refine Box.drewN ?_ _) | ((with_reducible refine Box.new ?_); simp; done) | (with_reducible apply Box.set2) | (with_reducible refine Box.alloc ?_ _) | (with_reducible refine Box.other ?_ (by first | (dsimp only; omega) | omega) _)))
  have z_b1 := x_b1.lt
  have c_b1_0 := x_b1.c 0 _ rfl
  have f_b1_0 := x_b1.f 0 _ rfl
  have c_b1_1 := x_b1.c 1 _ rfl
  have f_b1_1 := x_b1.f 1 _ rfl
  have x_c1 : Box w1 (w.heap.size + 1 + 1) [.int .u64 ch, .int .u64 cl] := (by refine Box.below ?_ hb; repeat (first | (with_reducible assumption) | (with_reducible refine Box.drew ?_) | (with_reducible refine Box.drewN ?_ _) | ((with_reducible refine Box.new ?_); simp; done) | (with_reducible apply Box.set2) | (with_reducible refine Box.alloc ?_ _) | (with_reducible refine Box.other ?_ (by first | (dsimp only; omega) | omega) _)))
  have z_c1 := x_c1.lt
  have c_c1_0 := x_c1.c 0 _ rfl
  have f_c1_0 := x_c1.f 0 _ rfl
  have c_c1_1 := x_c1.c 1 _ rfl
  have f_c1_1 := x_c1.f 1 _ rfl
  clear hb
  go_wp2_with fail
  refine (add_ok _ h3 h4 h1 h2 g1 g2 eq'.out).mono ?_
  rintro e w2 ⟨rfl, hb⟩
  have hB2 : Below w.heap.size w w2 := below_thru (by go_grown) hb
  have hs2 : w.heap.size ≤ w2.heap.size := hB2.size
  have x_a2 : Box w2 (w.heap.size) [.int .u64 ah, .int .u64 al] := (by refine Box.below ?_ hb; repeat (first | (with_reducible assumption) | (with_reducible refine Box.drew ?_) | (with_reducible refine Box.drewN ?_ _) | ((with_reducible refine Box.new ?_); simp; done) | (with_reducible apply Box.set2) | (with_reducible refine Box.alloc ?_ _) | (with_reducible refine Box.other ?_ (by first | (dsimp only; omega) | omega) _)))
  have z_a2 := x_a2.lt
  have c_a2_0 := x_a2.c 0 _ rfl
  have f_a2_0 := x_a2.f 0 _ rfl
  have c_a2_1 := x_a2.c 1 _ rfl
  have f_a2_1 := x_a2.f 1 _ rfl
  have x_b2 : Box w2 (w.heap.size + 1) [.int .u64 bh, .int .u64 bl] := (by refine Box.below ?_ hb; repeat (first | (with_reducible assumption) | (with_reducible refine Box.drew ?_) | (with_reducible refine Box.drewN ?_ _) | ((with_reducible refine Box.new ?_); simp; done) | (with_reducible apply Box.set2) | (with_reducible refine Box.alloc ?_ _) | (with_reducible refine Box.other ?_ (by first | (dsimp only; omega) | omega) _)))
  have z_b2 := x_b2.lt
  have c_b2_0 := x_b2.c 0 _ rfl
  have f_b2_0 := x_b2.f 0 _ rfl
  have c_b2_1 := x_b2.c 1 _ rfl
  have f_b2_1 := x_b2.f 1 _ rfl
  have x_c2 : Box w2 (w.heap.size + 1 + 1) [.int .u64 ch, .int .u64 cl] := (by refine Box.below ?_ hb; repeat (first | (with_reducible assumption) | (with_reducible refine Box.drew ?_) | (with_reducible refine Box.drewN ?_ _) | ((with_reducible refine Box.new ?_); simp; done) | (with_reducible apply Box.set2) | (with_reducible refine Box.alloc ?_ _) | (with_reducible refine Box.other ?_ (by first | (dsimp only; omega) | omega) _)))
  have z_c2 := x_c2.lt
  have c_c2_0 := x_c2.c 0 _ rfl
  have f_c2_0 := x_c2.f 0 _ rfl
  have c_c2_1 := x_c2.c 1 _ rfl
  have f_c2_1 := x_c2.f 1 _ rfl
  have x_p2 : Box w2 (w1.heap.size) [.int .u64 qh, .int .u64 ql] := (by refine Box.below ?_ hb; repeat (first | (with_reducible assumption) | (with_reducible refine Box.drew ?_) | (with_reducible refine Box.drewN ?_ _) | ((with_reducible refine Box.new ?_); simp; done) | (with_reducible apply Box.set2) | (with_reducible refine Box.alloc ?_ _) | (with_reducible refine Box.other ?_ (by first | (dsimp only; omega) | omega) _)))
  have z_p2 := x_p2.lt
  have c_p2_0 := x_p2.c 0 _ rfl
  have f_p2_0 := x_p2.f 0 _ rfl
  have c_p2_1 := x_p2.c 1 _ rfl
  have f_p2_1 := x_p2.f 1 _ rfl
  clear hb hB1 hs1 x_a1 z_a1 c_a1_0 c_a1_1 f_a1_0 f_a1_1 x_b1 z_b1 c_b1_0 c_b1_1 f_b1_0 f_b1_1 x_c1 z_c1 c_c1_0 c_c1_1 f_c1_0 f_c1_1
  go_wp2_with fail
  refine (mul_ok _ hx hy gp ep.out).mono ?_
  rintro e w3 ⟨rfl, hb⟩
  have hB3 : Below w.heap.size w w3 := below_thru (by go_grown) hb
  have hs3 : w.heap.size ≤ w3.heap.size := hB3.size
  have x_a3 : Box w3 (w.heap.size) [.int .u64 ah, .int .u64 al] := (by refine Box.below ?_ hb; repeat (first | (with_reducible assumption) | (with_reducible refine Box.drew ?_) | (with_reducible refine Box.drewN ?_ _) | ((with_reducible refine Box.new ?_); simp; done) | (with_reducible apply Box.set2) | (with_reducible refine Box.alloc ?_ _) | (with_reducible refine Box.other ?_ (by first | (dsimp only; omega) | omega) _)))
  have z_a3 := x_a3.lt
  have c_a3_0 := x_a3.c 0 _ rfl
  have f_a3_0 := x_a3.f 0 _ rfl
  have c_a3_1 := x_a3.c 1 _ rfl
  have f_a3_1 := x_a3.f 1 _ rfl
  have x_b3 : Box w3 (w.heap.size + 1) [.int .u64 bh, .int .u64 bl] := (by refine Box.below ?_ hb; repeat (first | (with_reducible assumption) | (with_reducible refine Box.drew ?_) | (with_reducible refine Box.drewN ?_ _) | ((with_reducible refine Box.new ?_); simp; done) | (with_reducible apply Box.set2) | (with_reducible refine Box.alloc ?_ _) | (with_reducible refine Box.other ?_ (by first | (dsimp only; omega) | omega) _)))
  have z_b3 := x_b3.lt
  have c_b3_0 := x_b3.c 0 _ rfl
  have f_b3_0 := x_b3.f 0 _ rfl
  have c_b3_1 := x_b3.c 1 _ rfl
  have f_b3_1 := x_b3.f 1 _ rfl
  have x_c3 : Box w3 (w.heap.size + 1 + 1) [.int .u64 ch, .int .u64 cl] := (by refine Box.below ?_ hb; repeat (first | (with_reducible assumption) | (with_reducible refine Box.drew ?_) | (with_reducible refine Box.drewN ?_ _) | ((with_reducible refine Box.new ?_); simp; done) | (with_reducible apply Box.set2) | (with_reducible refine Box.alloc ?_ _) | (with_reducible refine Box.other ?_ (by first | (dsimp only; omega) | omega) _)))
  have z_c3 := x_c3.lt
  have c_c3_0 := x_c3.c 0 _ rfl
  have f_c3_0 := x_c3.f 0 _ rfl
  have c_c3_1 := x_c3.c 1 _ rfl
  have f_c3_1 := x_c3.f 1 _ rfl
  have x_p3 : Box w3 (w1.heap.size) [.int .u64 qh, .int .u64 ql] := (by refine Box.below ?_ hb; repeat (first | (with_reducible assumption) | (with_reducible refine Box.drew ?_) | (with_reducible refine Box.drewN ?_ _) | ((with_reducible refine Box.new ?_); simp; done) | (with_reducible apply Box.set2) | (with_reducible refine Box.alloc ?_ _) | (with_reducible refine Box.other ?_ (by first | (dsimp only; omega) | omega) _)))
  have z_p3 := x_p3.lt
  have c_p3_0 := x_p3.c 0 _ rfl
  have f_p3_0 := x_p3.f 0 _ rfl
  have c_p3_1 := x_p3.c 1 _ rfl
  have f_p3_1 := x_p3.f 1 _ rfl
  have x_q3 : Box w3 (w2.heap.size) [.int .u64 qh, .int .u64 ql] := (by refine Box.below ?_ hb; repeat (first | (with_reducible assumption) | (with_reducible refine Box.drew ?_) | (with_reducible refine Box.drewN ?_ _) | ((with_reducible refine Box.new ?_); simp; done) | (with_reducible apply Box.set2) | (with_reducible refine Box.alloc ?_ _) | (with_reducible refine Box.other ?_ (by first | (dsimp only; omega) | omega) _)))
  have z_q3 := x_q3.lt
  have c_q3_0 := x_q3.c 0 _ rfl
  have f_q3_0 := x_q3.f 0 _ rfl
  have c_q3_1 := x_q3.c 1 _ rfl
  have f_q3_1 := x_q3.f 1 _ rfl
  clear hb hB2 hs2 x_a2 z_a2 c_a2_0 c_a2_1 f_a2_0 f_a2_1 x_b2 z_b2 c_b2_0 c_b2_1 f_b2_0 f_b2_1 x_c2 z_c2 c_c2_0 c_c2_1 f_c2_0 f_c2_1 x_p2 z_p2 c_p2_0 c_p2_1 f_p2_0 f_p2_1
  go_wp2_with fail
  refine (mul_ok _ hy hx gp ep'.out).mono ?_
  rintro e w4 ⟨rfl, hb⟩
  have hB4 : Below w.heap.size w w4 := below_thru (by go_grown) hb
  have hs4 : w.heap.size ≤ w4.heap.size := hB4.size
  have x_a4 : Box w4 (w.heap.size) [.int .u64 ah, .int .u64 al] := (by refine Box.below ?_ hb; repeat (first | (with_reducible assumption) | (with_reducible refine Box.drew ?_) | (with_reducible refine Box.drewN ?_ _) | ((with_reducible refine Box.new ?_); simp; done) | (with_reducible apply Box.set2) | (with_reducible refine Box.alloc ?_ _) | (with_reducible refine Box.other ?_ (by first | (dsimp only; omega) | omega) _)))
  have z_a4 := x_a4.lt
  have c_a4_0 := x_a4.c 0 _ rfl
  have f_a4_0 := x_a4.f 0 _ rfl
  have c_a4_1 := x_a4.c 1 _ rfl
  have f_a4_1 := x_a4.f 1 _ rfl
  have x_b4 : Box w4 (w.heap.size + 1) [.int .u64 bh, .int .u64 bl] := (by refine Box.below ?_ hb; repeat (first | (with_reducible assumption) | (with_reducible refine Box.drew ?_) | (with_reducible refine Box.drewN ?_ _) | ((with_reducible refine Box.new ?_); simp; done) | (with_reducible apply Box.set2) | (with_reducible refine Box.alloc ?_ _) | (with_reducible refine Box.other ?_ (by first | (dsimp only; omega) | omega) _)))
  have z_b4 := x_b4.lt
  have c_b4_0 := x_b4.c 0 _ rfl
  have f_b4_0 := x_b4.f 0 _ rfl
  have c_b4_1 := x_b4.c 1 _ rfl
  have f_b4_1 := x_b4.f 1 _ rfl
  have x_c4 : Box w4 (w.heap.size + 1 + 1) [.int .u64 ch, .int .u64 cl] := (by refine Box.below ?_ hb; repeat (first | (with_reducible assumption) | (with_reducible refine Box.drew ?_) | (with_reducible refine Box.drewN ?_ _) | ((with_reducible refine Box.new ?_); simp; done) | (with_reducible apply Box.set2) | (with_reducible refine Box.alloc ?_ _) | (with_reducible refine Box.other ?_ (by first | (dsimp only; omega) | omega) _)))
  have z_c4 := x_c4.lt
  have c_c4_0 := x_c4.c 0 _ rfl
  have f_c4_0 := x_c4.f 0 _ rfl
  have c_c4_1 := x_c4.c 1 _ rfl
  have f_c4_1 := x_c4.f 1 _ rfl
  have x_p4 : Box w4 (w1.heap.size) [.int .u64 qh, .int .u64 ql] := (by refine Box.below ?_ hb; repeat (first | (with_reducible assumption) | (with_reducible refine Box.drew ?_) | (with_reducible refine Box.drewN ?_ _) | ((with_reducible refine Box.new ?_); simp; done) | (with_reducible apply Box.set2) | (with_reducible refine Box.alloc ?_ _) | (with_reducible refine Box.other ?_ (by first | (dsimp only; omega) | omega) _)))
  have z_p4 := x_p4.lt
  have c_p4_0 := x_p4.c 0 _ rfl
  have f_p4_0 := x_p4.f 0 _ rfl
  have c_p4_1 := x_p4.c 1 _ rfl
  have f_p4_1 := x_p4.f 1 _ rfl
  have x_q4 : Box w4 (w2.heap.size) [.int .u64 qh, .int .u64 ql] := (by refine Box.below ?_ hb; repeat (first | (with_reducible assumption) | (with_reducible refine Box.drew ?_) | (with_reducible refine Box.drewN ?_ _) | ((with_reducible refine Box.new ?_); simp; done) | (with_reducible apply Box.set2) | (with_reducible refine Box.alloc ?_ _) | (with_reducible refine Box.other ?_ (by first | (dsimp only; omega) | omega) _)))
  have z_q4 := x_q4.lt
  have c_q4_0 := x_q4.c 0 _ rfl
  have f_q4_0 := x_q4.f 0 _ rfl
  have c_q4_1 := x_q4.c 1 _ rfl
  have f_q4_1 := x_q4.f 1 _ rfl
  clear hb hB3 hs3 x_a3 z_a3 c_a3_0 c_a3_1 f_a3_0 f_a3_1 x_b3 z_b3 c_b3_0 c_b3_1 f_b3_0 f_b3_1 x_c3 z_c3 c_c3_0 c_c3_1 f_c3_0 f_c3_1 x_p3 z_p3 c_p3_0 c_p3_1 f_p3_0 f_p3_1 x_q3 z_q3 c_q3_0 c_q3_1 f_q3_0 f_q3_1
  clear x_q4 z_q4 c_q4_0 c_q4_1 f_q4_0 f_q4_1
  go_wp2_with fail
  refine (add_no _ g1 g2 h5 h6 (Int.not_lt.2 er.out)).mono ?_
  rintro e w5 ⟨rfl, hb⟩
  have hB5 : Below w.heap.size w w5 := below_thru (by go_grown) hb
  have hs5 : w.heap.size ≤ w5.heap.size := hB5.size
  have x_a5 : Box w5 (w.heap.size) [.int .u64 ah, .int .u64 al] := (by refine Box.below ?_ hb; repeat (first | (with_reducible assumption) | (with_reducible refine Box.drew ?_) | (with_reducible refine Box.drewN ?_ _) | ((with_reducible refine Box.new ?_); simp; done) | (with_reducible apply Box.set2) | (with_reducible refine Box.alloc ?_ _) | (with_reducible refine Box.other ?_ (by first | (dsimp only; omega) | omega) _)))
  have z_a5 := x_a5.lt
  have c_a5_0 := x_a5.c 0 _ rfl
  have f_a5_0 := x_a5.f 0 _ rfl
  have c_a5_1 := x_a5.c 1 _ rfl
  have f_a5_1 := x_a5.f 1 _ rfl
  have x_b5 : Box w5 (w.heap.size + 1) [.int .u64 bh, .int .u64 bl] := (by refine Box.below ?_ hb; repeat (first | (with_reducible assumption) | (with_reducible refine Box.drew ?_) | (with_reducible refine Box.drewN ?_ _) | ((with_reducible refine Box.new ?_); simp; done) | (with_reducible apply Box.set2) | (with_reducible refine Box.alloc ?_ _) | (with_reducible refine Box.other ?_ (by first | (dsimp only; omega) | omega) _)))
  have z_b5 := x_b5.lt
  have c_b5_0 := x_b5.c 0 _ rfl
  have f_b5_0 := x_b5.f 0 _ rfl
  have c_b5_1 := x_b5.c 1 _ rfl
  have f_b5_1 := x_b5.f 1 _ rfl
  have x_c5 : Box w5 (w.heap.size + 1 + 1) [.int .u64 ch, .int .u64 cl] := (by refine Box.below ?_ hb; repeat (first | (with_reducible assumption) | (with_reducible refine Box.drew ?_) | (with_reducible refine Box.drewN ?_ _) | ((with_reducible refine Box.new ?_); simp; done) | (with_reducible apply Box.set2) | (with_reducible refine Box.alloc ?_ _) | (with_reducible refine Box.other ?_ (by first | (dsimp only; omega) | omega) _)))
  have z_c5 := x_c5.lt
  have c_c5_0 := x_c5.c 0 _ rfl
  have f_c5_0 := x_c5.f 0 _ rfl
  have c_c5_1 := x_c5.c 1 _ rfl
  have f_c5_1 := x_c5.f 1 _ rfl
  have x_p5 : Box w5 (w1.heap.size) [.int .u64 qh, .int .u64 ql] := (by refine Box.below ?_ hb; repeat (first | (with_reducible assumption) | (with_reducible refine Box.drew ?_) | (with_reducible refine Box.drewN ?_ _) | ((with_reducible refine Box.new ?_); simp; done) | (with_reducible apply Box.set2) | (with_reducible refine Box.alloc ?_ _) | (with_reducible refine Box.other ?_ (by first | (dsimp only; omega) | omega) _)))
  have z_p5 := x_p5.lt
  have c_p5_0 := x_p5.c 0 _ rfl
  have f_p5_0 := x_p5.f 0 _ rfl
  have c_p5_1 := x_p5.c 1 _ rfl
  have f_p5_1 := x_p5.f 1 _ rfl
  clear hb hB4 hs4 x_a4 z_a4 c_a4_0 c_a4_1 f_a4_0 f_a4_1 x_b4 z_b4 c_b4_0 c_b4_1 f_b4_0 f_b4_1 x_c4 z_c4 c_c4_0 c_c4_1 f_c4_0 f_c4_1 x_p4 z_p4 c_p4_0 c_p4_1 f_p4_0 f_p4_1
  clear x_p5 z_p5 c_p5_0 c_p5_1 f_p5_0 f_p5_1
  go_wp2_with fail
  refine (add_any _ _ _ _ _ h3 h4 h5 h6).mono ?_
  rintro e w6 ⟨rfl, hb⟩
  have hB6 : Below w.heap.size w w6 := below_thru (by go_grown) hb
  have hs6 : w.heap.size ≤ w6.heap.size := hB6.size
  have x_a6 : Box w6 (w.heap.size) [.int .u64 ah, .int .u64 al] := (by refine Box.below ?_ hb; repeat (first | (with_reducible assumption) | (with_reducible refine Box.drew ?_) | (with_reducible refine Box.drewN ?_ _) | ((with_reducible refine Box.new ?_); simp; done) | (with_reducible apply Box.set2) | (with_reducible refine Box.alloc ?_ _) | (with_reducible refine Box.other ?_ (by first | (dsimp only; omega) | omega) _)))
  have z_a6 := x_a6.lt
  have c_a6_0 := x_a6.c 0 _ rfl
  have f_a6_0 := x_a6.f 0 _ rfl
  have c_a6_1 := x_a6.c 1 _ rfl
  have f_a6_1 := x_a6.f 1 _ rfl
  have x_b6 : Box w6 (w.heap.size + 1) [.int .u64 bh, .int .u64 bl] := (by refine Box.below ?_ hb; repeat (first | (with_reducible assumption) | (with_reducible refine Box.drew ?_) | (with_reducible refine Box.drewN ?_ _) | ((with_reducible refine Box.new ?_); simp; done) | (with_reducible apply Box.set2) | (with_reducible refine Box.alloc ?_ _) | (with_reducible refine Box.other ?_ (by first | (dsimp only; omega) | omega) _)))
  have z_b6 := x_b6.lt
  have c_b6_0 := x_b6.c 0 _ rfl
  have f_b6_0 := x_b6.f 0 _ rfl
  have c_b6_1 := x_b6.c 1 _ rfl
  have f_b6_1 := x_b6.f 1 _ rfl
  have x_c6 : Box w6 (w.heap.size + 1 + 1) [.int .u64 ch, .int .u64 cl] := (by refine Box.below ?_ hb; repeat (first | (with_reducible assumption) | (with_reducible refine Box.drew ?_) | (with_reducible refine Box.drewN ?_ _) | ((with_reducible refine Box.new ?_); simp; done) | (with_reducible apply Box.set2) | (with_reducible refine Box.alloc ?_ _) | (with_reducible refine Box.other ?_ (by first | (dsimp only; omega) | omega) _)))
  have z_c6 := x_c6.lt
  have c_c6_0 := x_c6.c 0 _ rfl
  have f_c6_0 := x_c6.f 0 _ rfl
  have c_c6_1 := x_c6.c 1 _ rfl
  have f_c6_1 := x_c6.f 1 _ rfl
  clear hb hB5 hs5 x_a5 z_a5 c_a5_0 c_a5_1 f_a5_0 f_a5_1 x_b5 z_b5 c_b5_0 c_b5_1 f_b5_0 f_b5_1 x_c5 z_c5 c_c5_0 c_c5_1 f_c5_0 f_c5_1
  go_wp2_with fail
  refine (add_any _ _ _ _ _ h1 h2 gs (isU_lo _)).mono ?_
  rintro e w7 ⟨rfl, hb⟩
  have hB7 : Below w.heap.size w w7 := below_thru (by go_grown) hb
  have hs7 : w.heap.size ≤ w7.heap.size := hB7.size
  have x_a7 : Box w7 (w.heap.size) [.int .u64 ah, .int .u64 al] := (by refine Box.below ?_ hb; repeat (first | (with_reducible assumption) | (with_reducible refine Box.drew ?_) | (with_reducible refine Box.drewN ?_ _) | ((with_reducible refine Box.new ?_); simp; done) | (with_reducible apply Box.set2) | (with_reducible refine Box.alloc ?_ _) | (with_reducible refine Box.other ?_ (by first | (dsimp only; omega) | omega) _)))
  have z_a7 := x_a7.lt
  have c_a7_0 := x_a7.c 0 _ rfl
  have f_a7_0 := x_a7.f 0 _ rfl
  have c_a7_1 := x_a7.c 1 _ rfl
  have f_a7_1 := x_a7.f 1 _ rfl
  have x_b7 : Box w7 (w.heap.size + 1) [.int .u64 bh, .int .u64 bl] := (by refine Box.below ?_ hb; repeat (first | (with_reducible assumption) | (with_reducible refine Box.drew ?_) | (with_reducible refine Box.drewN ?_ _) | ((with_reducible refine Box.new ?_); simp; done) | (with_reducible apply Box.set2) | (with_reducible refine Box.alloc ?_ _) | (with_reducible refine Box.other ?_ (by first | (dsimp only; omega) | omega) _)))
  have z_b7 := x_b7.lt
  have c_b7_0 := x_b7.c 0 _ rfl
  have f_b7_0 := x_b7.f 0 _ rfl
  have c_b7_1 := x_b7.c 1 _ rfl
  have f_b7_1 := x_b7.f 1 _ rfl
  have x_c7 : Box w7 (w.heap.size + 1 + 1) [.int .u64 ch, .int .u64 cl] := (by refine Box.below ?_ hb; repeat (first | (with_reducible assumption) | (with_reducible refine Box.drew ?_) | (with_reducible refine Box.drewN ?_ _) | ((with_reducible refine Box.new ?_); simp; done) | (with_reducible apply Box.set2) | (with_reducible refine Box.alloc ?_ _) | (with_reducible refine Box.other ?_ (by first | (dsimp only; omega) | omega) _)))
  have z_c7 := x_c7.lt
  have c_c7_0 := x_c7.c 0 _ rfl
  have f_c7_0 := x_c7.f 0 _ rfl
  have c_c7_1 := x_c7.c 1 _ rfl
  have f_c7_1 := x_c7.f 1 _ rfl
  have x_s7 : Box w7 (w6.heap.size) [.int .u64 (wHi (addV (wN bh bl + wN ch cl))), .int .u64 (wLo (addV (wN bh bl + wN ch cl)))] := (by refine Box.below ?_ hb; repeat (first | (with_reducible assumption) | (with_reducible refine Box.drew ?_) | (with_reducible refine Box.drewN ?_ _) | ((with_reducible refine Box.new ?_); simp; done) | (with_reducible apply Box.set2) | (with_reducible refine Box.alloc ?_ _) | (with_reducible refine Box.other ?_ (by first | (dsimp only; omega) | omega) _)))
  have z_s7 := x_s7.lt
  have c_s7_0 := x_s7.c 0 _ rfl
  have f_s7_0 := x_s7.f 0 _ rfl
  have c_s7_1 := x_s7.c 1 _ rfl
  have f_s7_1 := x_s7.f 1 _ rfl
  clear hb hB6 hs6 x_a6 z_a6 c_a6_0 c_a6_1 f_a6_0 f_a6_1 x_b6 z_b6 c_b6_0 c_b6_1 f_b6_0 f_b6_1 x_c6 z_c6 c_c6_0 c_c6_1 f_c6_0 f_c6_1
  go_wp2_with fail
  refine (mul_ok _ hx hY gm' em.out).mono ?_
  rintro e w8 ⟨rfl, hb⟩
  have hB8 : Below w.heap.size w w8 := below_thru (by go_grown) hb
  have hs8 : w.heap.size ≤ w8.heap.size := hB8.size
  have x_a8 : Box w8 (w.heap.size) [.int .u64 ah, .int .u64 al] := (by refine Box.below ?_ hb; repeat (first | (with_reducible assumption) | (with_reducible refine Box.drew ?_) | (with_reducible refine Box.drewN ?_ _) | ((with_reducible refine Box.new ?_); simp; done) | (with_reducible apply Box.set2) | (with_reducible refine Box.alloc ?_ _) | (with_reducible refine Box.other ?_ (by first | (dsimp only; omega) | omega) _)))
  have z_a8 := x_a8.lt
  have c_a8_0 := x_a8.c 0 _ rfl
  have f_a8_0 := x_a8.f 0 _ rfl
  have c_a8_1 := x_a8.c 1 _ rfl
  have f_a8_1 := x_a8.f 1 _ rfl
  have x_b8 : Box w8 (w.heap.size + 1) [.int .u64 bh, .int .u64 bl] := (by refine Box.below ?_ hb; repeat (first | (with_reducible assumption) | (with_reducible refine Box.drew ?_) | (with_reducible refine Box.drewN ?_ _) | ((with_reducible refine Box.new ?_); simp; done) | (with_reducible apply Box.set2) | (with_reducible refine Box.alloc ?_ _) | (with_reducible refine Box.other ?_ (by first | (dsimp only; omega) | omega) _)))
  have z_b8 := x_b8.lt
  have c_b8_0 := x_b8.c 0 _ rfl
  have f_b8_0 := x_b8.f 0 _ rfl
  have c_b8_1 := x_b8.c 1 _ rfl
  have f_b8_1 := x_b8.f 1 _ rfl
  have x_c8 : Box w8 (w.heap.size + 1 + 1) [.int .u64 ch, .int .u64 cl] := (by refine Box.below ?_ hb; repeat (first | (with_reducible assumption) | (with_reducible refine Box.drew ?_) | (with_reducible refine Box.drewN ?_ _) | ((with_reducible refine Box.new ?_); simp; done) | (with_reducible apply Box.set2) | (with_reducible refine Box.alloc ?_ _) | (with_reducible refine Box.other ?_ (by first | (dsimp only; omega) | omega) _)))
  have z_c8 := x_c8.lt
  have c_c8_0 := x_c8.c 0 _ rfl
  have f_c8_0 := x_c8.f 0 _ rfl
  have c_c8_1 := x_c8.c 1 _ rfl
  have f_c8_1 := x_c8.f 1 _ rfl
  have x_s8 : Box w8 (w6.heap.size) [.int .u64 (wHi (addV (wN bh bl + wN ch cl))), .int .u64 (wLo (addV (wN bh bl + wN ch cl)))] := (by refine Box.below ?_ hb; repeat (first | (with_reducible assumption) | (with_reducible refine Box.drew ?_) | (with_reducible refine Box.drewN ?_ _) | ((with_reducible refine Box.new ?_); simp; done) | (with_reducible apply Box.set2) | (with_reducible refine Box.alloc ?_ _) | (with_reducible refine Box.other ?_ (by first | (dsimp only; omega) | omega) _)))
  have z_s8 := x_s8.lt
  have c_s8_0 := x_s8.c 0 _ rfl
  have f_s8_0 := x_s8.f 0 _ rfl
  have c_s8_1 := x_s8.c 1 _ rfl
  have f_s8_1 := x_s8.f 1 _ rfl
  clear hb hB7 hs7 x_a7 z_a7 c_a7_0 c_a7_1 f_a7_0 f_a7_1 x_b7 z_b7 c_b7_0 c_b7_1 f_b7_0 f_b7_1 x_c7 z_c7 c_c7_0 c_c7_1 f_c7_0 f_c7_1 x_s7 z_s7 c_s7_0 c_s7_1 f_s7_0 f_s7_1
  go_wp2_with fail
  refine (mul_ok _ hx hZ gn' en.out).mono ?_
  rintro e w9 ⟨rfl, hb⟩
  have hB9 : Below w.heap.size w w9 := below_thru (by go_grown) hb
  have hs9 : w.heap.size ≤ w9.heap.size := hB9.size
  have x_a9 : Box w9 (w.heap.size) [.int .u64 ah, .int .u64 al] := (by refine Box.below ?_ hb; repeat (first | (with_reducible assumption) | (with_reducible refine Box.drew ?_) | (with_reducible refine Box.drewN ?_ _) | ((with_reducible refine Box.new ?_); simp; done) | (with_reducible apply Box.set2) | (with_reducible refine Box.alloc ?_ _) | (with_reducible refine Box.other ?_ (by first | (dsimp only; omega) | omega) _)))
  have z_a9 := x_a9.lt
  have c_a9_0 := x_a9.c 0 _ rfl
  have f_a9_0 := x_a9.f 0 _ rfl
  have c_a9_1 := x_a9.c 1 _ rfl
  have f_a9_1 := x_a9.f 1 _ rfl
  have x_b9 : Box w9 (w.heap.size + 1) [.int .u64 bh, .int .u64 bl] := (by refine Box.below ?_ hb; repeat (first | (with_reducible assumption) | (with_reducible refine Box.drew ?_) | (with_reducible refine Box.drewN ?_ _) | ((with_reducible refine Box.new ?_); simp; done) | (with_reducible apply Box.set2) | (with_reducible refine Box.alloc ?_ _) | (with_reducible refine Box.other ?_ (by first | (dsimp only; omega) | omega) _)))
  have z_b9 := x_b9.lt
  have c_b9_0 := x_b9.c 0 _ rfl
  have f_b9_0 := x_b9.f 0 _ rfl
  have c_b9_1 := x_b9.c 1 _ rfl
  have f_b9_1 := x_b9.f 1 _ rfl
  have x_c9 : Box w9 (w.heap.size + 1 + 1) [.int .u64 ch, .int .u64 cl] := (by refine Box.below ?_ hb; repeat (first | (with_reducible assumption) | (with_reducible refine Box.drew ?_) | (with_reducible refine Box.drewN ?_ _) | ((with_reducible refine Box.new ?_); simp; done) | (with_reducible apply Box.set2) | (with_reducible refine Box.alloc ?_ _) | (with_reducible refine Box.other ?_ (by first | (dsimp only; omega) | omega) _)))
  have z_c9 := x_c9.lt
  have c_c9_0 := x_c9.c 0 _ rfl
  have f_c9_0 := x_c9.f 0 _ rfl
  have c_c9_1 := x_c9.c 1 _ rfl
  have f_c9_1 := x_c9.f 1 _ rfl
  have x_s9 : Box w9 (w6.heap.size) [.int .u64 (wHi (addV (wN bh bl + wN ch cl))), .int .u64 (wLo (addV (wN bh bl + wN ch cl)))] := (by refine Box.below ?_ hb; repeat (first | (with_reducible assumption) | (with_reducible refine Box.drew ?_) | (with_reducible refine Box.drewN ?_ _) | ((with_reducible refine Box.new ?_); simp; done) | (with_reducible apply Box.set2) | (with_reducible refine Box.alloc ?_ _) | (with_reducible refine Box.other ?_ (by first | (dsimp only; omega) | omega) _)))
  have z_s9 := x_s9.lt
  have c_s9_0 := x_s9.c 0 _ rfl
  have f_s9_0 := x_s9.f 0 _ rfl
  have c_s9_1 := x_s9.c 1 _ rfl
  have f_s9_1 := x_s9.f 1 _ rfl
  clear hb hB8 hs8 x_a8 z_a8 c_a8_0 c_a8_1 f_a8_0 f_a8_1 x_b8 z_b8 c_b8_0 c_b8_1 f_b8_0 f_b8_1 x_c8 z_c8 c_c8_0 c_c8_1 f_c8_0 f_c8_1 x_s8 z_s8 c_s8_0 c_s8_1 f_s8_0 f_s8_1
  clear x_a9 z_a9 c_a9_0 c_a9_1 f_a9_0 f_a9_1
  clear x_b9 z_b9 c_b9_0 c_b9_1 f_b9_0 f_b9_1
  clear x_c9 z_c9 c_c9_0 c_c9_1 f_c9_0 f_c9_1
  clear x_s9 z_s9 c_s9_0 c_s9_1 f_s9_0 f_s9_1
  go_wp2_with fail
  refine (add_ok _ gm gm' gn gn' go go' eo'.out).mono ?_
  rintro e w10 ⟨rfl, hb⟩
  have hB10 : Below w.heap.size w w10 := below_thru (by go_grown) hb
  have hs10 : w.heap.size ≤ w10.heap.size := hB10.size
  clear hb hB9 hs9
  go_upto_region 12 with fail
  go_cut [12] (fun q0 wx => q0 = .bool true ∧ Box wx (w10.heap.size) [.int .u64 oh, .int .u64 ol] ∧ Below w.heap.size w wx)
  case first =>
    go_region_held3 (fun w' => w'.cell? ⟨w10.heap.size, 0, none⟩ = some (.int .u64 oh) ∧ w'.cell? ⟨w10.heap.size, 1, none⟩ = some (.int .u64 ol)) (((repeat' apply And.intro) <;> (first | (go_keep; done) | go_cell)))
      (first
        | (go_at_call 16; refine (mul_ok _ hx hYZ go' eo.out).mono ?_; rintro e v1 ⟨rfl, hv1⟩; have hV1 : Below w.heap.size w v1 := below_thru (by go_grown) hv1; have hs_v1 : w.heap.size ≤ v1.heap.size := hV1.size; have x_u_v1 : Box v1 (w10.heap.size) [.int .u64 oh, .int .u64 ol] := (by refine Box.below ?_ hv1; repeat (first | (with_reducible assumption) | (with_reducible refine Box.drew ?_) | (with_reducible refine Box.drewN ?_ _) | ((with_reducible refine Box.new ?_); simp; done) | (with_reducible apply Box.set2) | (with_reducible refine Box.alloc ?_ _) | (with_reducible refine Box.other ?_ (by first | (dsimp only; omega) | omega) _))); have z_u_v1 := x_u_v1.lt; have c_u_v1_0 := x_u_v1.c 0 _ rfl; have f_u_v1_0 := x_u_v1.f 0 _ rfl; have c_u_v1_1 := x_u_v1.c 1 _ rfl; have f_u_v1_1 := x_u_v1.f 1 _ rfl)
        | (go_at_call 17; refine (alive_any _).mono ?_; rintro e v2 ⟨rfl, hv2⟩; have hV2 : Below w.heap.size w v2 := below_thru (by go_grown) hv2; have hs_v2 : w.heap.size ≤ v2.heap.size := hV2.size; have x_u_v2 : Box v2 (w10.heap.size) [.int .u64 oh, .int .u64 ol] := (by refine Box.below ?_ hv2; repeat (first | (with_reducible assumption) | (with_reducible refine Box.drew ?_) | (with_reducible refine Box.drewN ?_ _) | ((with_reducible refine Box.new ?_); simp; done) | (with_reducible apply Box.set2) | (with_reducible refine Box.alloc ?_ _) | (with_reducible refine Box.other ?_ (by first | (dsimp only; omega) | omega) _))); have z_u_v2 := x_u_v2.lt; have c_u_v2_0 := x_u_v2.c 0 _ rfl; have f_u_v2_0 := x_u_v2.f 0 _ rfl; have c_u_v2_1 := x_u_v2.c 1 _ rfl; have f_u_v2_1 := x_u_v2.f 1 _ rfl))
    all_goals
      go_wp2_with fail
      go_meet
      refine ⟨rfl, ?_, ?_⟩
      all_goals first
        | ((repeat (first | (with_reducible assumption) | (with_reducible refine Box.drew ?_) | (with_reducible refine Box.drewN ?_ _) | ((with_reducible refine Box.new ?_); simp; done) | (with_reducible apply Box.set2) | (with_reducible refine Box.alloc ?_ _) | (with_reducible refine Box.other ?_ (by first | (dsimp only; omega) | omega) _))); done)
        | (go_grown; done)
  case rest =>
    obtain ⟨rfl, x_u11, hB11⟩ := hcut
    obtain ⟨w11, rfl⟩ : ∃ u : World, u = wc := ⟨_, rfl⟩
    clear hB10 hs10
    have hs11 : w.heap.size ≤ w11.heap.size := hB11.size
    have z_u11 := x_u11.lt
    have c_u11_0 := x_u11.c 0 _ rfl; have f_u11_0 := x_u11.f 0 _ rfl
    have c_u11_1 := x_u11.c 1 _ rfl; have f_u11_1 := x_u11.f 1 _ rfl
    go_wp2
    go_returns
    refine ⟨rfl, ?_⟩
    go_grown

set_option maxRecDepth 100000 in
set_option maxHeartbeats 800000 in
theorem rules_3 (ah al bh bl ch cl x y z ph pl mh ml nh nl oh ol : Int) (w : World) (h1 : isU ah) (h2 : isU al) (h3 : isU bh) (h4 : isU bl) (h5 : isU ch) (h6 : isU cl) (hx : isU x) (hy : isU y) (hz : isU z) (hY : isU (y / 2)) (hZ : isU (z / 2)) (hYZ : isU (y / 2 + z / 2))
    (hsum : IntKind.u64.wrap (y / 2 + z / 2) = y / 2 + z / 2)
    (gp : isU pl) (ep : Hid (x * y = wN ph pl)) (gm : isU mh) (gm' : isU ml) (em : Hid (x * (y / 2) = wN mh ml)) (gn : isU nh) (gn' : isU nl) (en : Hid (x * (z / 2) = wN nh nl))
    (go : isU oh) (go' : isU ol) (eo : Hid (x * (y / 2 + z / 2) = wN oh ol)) (eo' : Hid (wN mh ml + wN nh nl = wN oh ol))
    (eq : Hid (340282366920938463463374607431768211456 ≤ wN ah al + wN bh bl)) (gs : isU (wHi (addV (wN bh bl + wN ch cl)))) :
    rulesCall ah al bh bl ch cl x y z w := by
  unfold rulesCall
  have ep' : Hid (y * x = wN ph pl) := by refine Lib.hid ?_; rw [Int.mul_comm]; exact ep.out
  have eq' := Lib.hid ((Int.add_comm (wN bh bl) (wN ah al)).trans rfl)
  have y0 : 0 ≤ y := hy.1
  have z0 : 0 ≤ z := hz.1
  have y1 : y ≤ 18446744073709551615 := hy.2
  have z1 : z ≤ 18446744073709551615 := hz.2
  go_enter Try.func7, Try.ntmps7
  go_wp2_with fail
  refine (add_no _ h1 h2 h3 h4 (Int.not_lt.2 eq.out)).mono ?_
  rintro e w1 ⟨rfl, hb⟩
  have hB1 : Below w.heap.size w w1 := below_thru (by go_grown) hb
  have hs1 : w.heap.size ≤ w1.heap.size := hB1.size
  have x_a1 : Box w1 (w.heap.size) [.int .u64 ah, .int .u64 al] := (by refine Box.below ?_ hb; repeat (first | (with_reducible assumption) | (with_reducible refine Box.drew ?_) | (with_reducible refine Box.drewN ?_ _) | ((with_reducible refine Box.new ?_); simp; done) | (with_reducible apply Box.set2) | (with_reducible refine Box.alloc ?_ _) | (with_reducible refine Box.other ?_ (by first | (dsimp only; omega) | omega) _)))
  have z_a1 := x_a1.lt
  have c_a1_0 := x_a1.c 0 _ rfl
  have f_a1_0 := x_a1.f 0 _ rfl
  have c_a1_1 := x_a1.c 1 _ rfl
  have f_a1_1 := x_a1.f 1 _ rfl
  have x_b1 : Box w1 (w.heap.size + 1) [.int .u64 bh, .int .u64 bl] := (by refine Box.below ?_ hb; repeat (first | (with_reducible assumption) | (with_reducible refine Box.drew ?_) | (with_reducible refine Box.drewN ?_ _) | ((with_reducible refine Box.new ?_); simp; done) | (with_reducible apply Box.set2) | (with_reducible refine Box.alloc ?_ _) | (with_reducible refine Box.other ?_ (by first | (dsimp only; omega) | omega) _)))
  have z_b1 := x_b1.lt
  have c_b1_0 := x_b1.c 0 _ rfl
  have f_b1_0 := x_b1.f 0 _ rfl
  have c_b1_1 := x_b1.c 1 _ rfl
  have f_b1_1 := x_b1.f 1 _ rfl
  have x_c1 : Box w1 (w.heap.size + 1 + 1) [.int .u64 ch, .int .u64 cl] := (by refine Box.below ?_ hb; repeat (first | (with_reducible assumption) | (with_reducible refine Box.drew ?_) | (with_reducible refine Box.drewN ?_ _) | ((with_reducible refine Box.new ?_); simp; done) | (with_reducible apply Box.set2) | (with_reducible refine Box.alloc ?_ _) | (with_reducible refine Box.other ?_ (by first | (dsimp only; omega) | omega) _)))
  have z_c1 := x_c1.lt
  have c_c1_0 := x_c1.c 0 _ rfl
  have f_c1_0 := x_c1.f 0 _ rfl
  have c_c1_1 := x_c1.c 1 _ rfl
  have f_c1_1 := x_c1.f 1 _ rfl
  clear hb
  go_wp2_with fail
  refine (add_no _ h3 h4 h1 h2 (by rw [eq'.out]; exact Int.not_lt.2 eq.out)).mono ?_
  rintro e w2 ⟨rfl, hb⟩
  have hB2 : Below w.heap.size w w2 := below_thru (by go_grown) hb
  have hs2 : w.heap.size ≤ w2.heap.size := hB2.size
  have x_a2 : Box w2 (w.heap.size) [.int .u64 ah, .int .u64 al] := (by refine Box.below ?_ hb; repeat (first | (with_reducible assumption) | (with_reducible refine Box.drew ?_) | (with_reducible refine Box.drewN ?_ _) | ((with_reducible refine Box.new ?_); simp; done) | (with_reducible apply Box.set2) | (with_reducible refine Box.alloc ?_ _) | (with_reducible refine Box.other ?_ (by first | (dsimp only; omega) | omega) _)))
  have z_a2 := x_a2.lt
  have c_a2_0 := x_a2.c 0 _ rfl
  have f_a2_0 := x_a2.f 0 _ rfl
  have c_a2_1 := x_a2.c 1 _ rfl
  have f_a2_1 := x_a2.f 1 _ rfl
  have x_b2 : Box w2 (w.heap.size + 1) [.int .u64 bh, .int .u64 bl] := (by refine Box.below ?_ hb; repeat (first | (with_reducible assumption) | (with_reducible refine Box.drew ?_) | (with_reducible refine Box.drewN ?_ _) | ((with_reducible refine Box.new ?_); simp; done) | (with_reducible apply Box.set2) | (with_reducible refine Box.alloc ?_ _) | (with_reducible refine Box.other ?_ (by first | (dsimp only; omega) | omega) _)))
  have z_b2 := x_b2.lt
  have c_b2_0 := x_b2.c 0 _ rfl
  have f_b2_0 := x_b2.f 0 _ rfl
  have c_b2_1 := x_b2.c 1 _ rfl
  have f_b2_1 := x_b2.f 1 _ rfl
  have x_c2 : Box w2 (w.heap.size + 1 + 1) [.int .u64 ch, .int .u64 cl] := (by refine Box.below ?_ hb; repeat (first | (with_reducible assumption) | (with_reducible refine Box.drew ?_) | (with_reducible refine Box.drewN ?_ _) | ((with_reducible refine Box.new ?_); simp; done) | (with_reducible apply Box.set2) | (with_reducible refine Box.alloc ?_ _) | (with_reducible refine Box.other ?_ (by first | (dsimp only; omega) | omega) _)))
  have z_c2 := x_c2.lt
  have c_c2_0 := x_c2.c 0 _ rfl
  have f_c2_0 := x_c2.f 0 _ rfl
  have c_c2_1 := x_c2.c 1 _ rfl
  have f_c2_1 := x_c2.f 1 _ rfl
  have x_p2 : Box w2 (w1.heap.size) [.int .u64 0, .int .u64 0] := (by refine Box.below ?_ hb; repeat (first | (with_reducible assumption) | (with_reducible refine Box.drew ?_) | (with_reducible refine Box.drewN ?_ _) | ((with_reducible refine Box.new ?_); simp; done) | (with_reducible apply Box.set2) | (with_reducible refine Box.alloc ?_ _) | (with_reducible refine Box.other ?_ (by first | (dsimp only; omega) | omega) _)))
  have z_p2 := x_p2.lt
  have c_p2_0 := x_p2.c 0 _ rfl
  have f_p2_0 := x_p2.f 0 _ rfl
  have c_p2_1 := x_p2.c 1 _ rfl
  have f_p2_1 := x_p2.f 1 _ rfl
  clear hb hB1 hs1 x_a1 z_a1 c_a1_0 c_a1_1 f_a1_0 f_a1_1 x_b1 z_b1 c_b1_0 c_b1_1 f_b1_0 f_b1_1 x_c1 z_c1 c_c1_0 c_c1_1 f_c1_0 f_c1_1
  go_wp2_with fail
  refine (mul_ok _ hx hy gp ep.out).mono ?_
  rintro e w3 ⟨rfl, hb⟩
  have hB3 : Below w.heap.size w w3 := below_thru (by go_grown) hb
  have hs3 : w.heap.size ≤ w3.heap.size := hB3.size
  have x_a3 : Box w3 (w.heap.size) [.int .u64 ah, .int .u64 al] := (by refine Box.below ?_ hb; repeat (first | (with_reducible assumption) | (with_reducible refine Box.drew ?_) | (with_reducible refine Box.drewN ?_ _) | ((with_reducible refine Box.new ?_); simp; done) | (with_reducible apply Box.set2) | (with_reducible refine Box.alloc ?_ _) | (with_reducible refine Box.other ?_ (by first | (dsimp only; omega) | omega) _)))
  have z_a3 := x_a3.lt
  have c_a3_0 := x_a3.c 0 _ rfl
  have f_a3_0 := x_a3.f 0 _ rfl
  have c_a3_1 := x_a3.c 1 _ rfl
  have f_a3_1 := x_a3.f 1 _ rfl
  have x_b3 : Box w3 (w.heap.size + 1) [.int .u64 bh, .int .u64 bl] := (by refine Box.below ?_ hb; repeat (first | (with_reducible assumption) | (with_reducible refine Box.drew ?_) | (with_reducible refine Box.drewN ?_ _) | ((with_reducible refine Box.new ?_); simp; done) | (with_reducible apply Box.set2) | (with_reducible refine Box.alloc ?_ _) | (with_reducible refine Box.other ?_ (by first | (dsimp only; omega) | omega) _)))
  have z_b3 := x_b3.lt
  have c_b3_0 := x_b3.c 0 _ rfl
  have f_b3_0 := x_b3.f 0 _ rfl
  have c_b3_1 := x_b3.c 1 _ rfl
  have f_b3_1 := x_b3.f 1 _ rfl
  have x_c3 : Box w3 (w.heap.size + 1 + 1) [.int .u64 ch, .int .u64 cl] := (by refine Box.below ?_ hb; repeat (first | (with_reducible assumption) | (with_reducible refine Box.drew ?_) | (with_reducible refine Box.drewN ?_ _) | ((with_reducible refine Box.new ?_); simp; done) | (with_reducible apply Box.set2) | (with_reducible refine Box.alloc ?_ _) | (with_reducible refine Box.other ?_ (by first | (dsimp only; omega) | omega) _)))
  have z_c3 := x_c3.lt
  have c_c3_0 := x_c3.c 0 _ rfl
  have f_c3_0 := x_c3.f 0 _ rfl
  have c_c3_1 := x_c3.c 1 _ rfl
  have f_c3_1 := x_c3.f 1 _ rfl
  have x_p3 : Box w3 (w1.heap.size) [.int .u64 0, .int .u64 0] := (by refine Box.below ?_ hb; repeat (first | (with_reducible assumption) | (with_reducible refine Box.drew ?_) | (with_reducible refine Box.drewN ?_ _) | ((with_reducible refine Box.new ?_); simp; done) | (with_reducible apply Box.set2) | (with_reducible refine Box.alloc ?_ _) | (with_reducible refine Box.other ?_ (by first | (dsimp only; omega) | omega) _)))
  have z_p3 := x_p3.lt
  have c_p3_0 := x_p3.c 0 _ rfl
  have f_p3_0 := x_p3.f 0 _ rfl
  have c_p3_1 := x_p3.c 1 _ rfl
  have f_p3_1 := x_p3.f 1 _ rfl
  have x_q3 : Box w3 (w2.heap.size) [.int .u64 0, .int .u64 0] := (by refine Box.below ?_ hb; repeat (first | (with_reducible assumption) | (with_reducible refine Box.drew ?_) | (with_reducible refine Box.drewN ?_ _) | ((with_reducible refine Box.new ?_); simp; done) | (with_reducible apply Box.set2) | (with_reducible refine Box.alloc ?_ _) | (with_reducible refine Box.other ?_ (by first | (dsimp only; omega) | omega) _)))
  have z_q3 := x_q3.lt
  have c_q3_0 := x_q3.c 0 _ rfl
  have f_q3_0 := x_q3.f 0 _ rfl
  have c_q3_1 := x_q3.c 1 _ rfl
  have f_q3_1 := x_q3.f 1 _ rfl
  clear hb hB2 hs2 x_a2 z_a2 c_a2_0 c_a2_1 f_a2_0 f_a2_1 x_b2 z_b2 c_b2_0 c_b2_1 f_b2_0 f_b2_1 x_c2 z_c2 c_c2_0 c_c2_1 f_c2_0 f_c2_1 x_p2 z_p2 c_p2_0 c_p2_1 f_p2_0 f_p2_1
  go_wp2_with fail
  refine (mul_ok _ hy hx gp ep'.out).mono ?_
  rintro e w4 ⟨rfl, hb⟩
  have hB4 : Below w.heap.size w w4 := below_thru (by go_grown) hb
  have hs4 : w.heap.size ≤ w4.heap.size := hB4.size
  have x_a4 : Box w4 (w.heap.size) [.int .u64 ah, .int .u64 al] := (by refine Box.below ?_ hb; repeat (first | (with_reducible assumption) | (with_reducible refine Box.drew ?_) | (with_reducible refine Box.drewN ?_ _) | ((with_reducible refine Box.new ?_); simp; done) | (with_reducible apply Box.set2) | (with_reducible refine Box.alloc ?_ _) | (with_reducible refine Box.other ?_ (by first | (dsimp only; omega) | omega) _)))
  have z_a4 := x_a4.lt
  have c_a4_0 := x_a4.c 0 _ rfl
  have f_a4_0 := x_a4.f 0 _ rfl
  have c_a4_1 := x_a4.c 1 _ rfl
  have f_a4_1 := x_a4.f 1 _ rfl
  have x_b4 : Box w4 (w.heap.size + 1) [.int .u64 bh, .int .u64 bl] := (by refine Box.below ?_ hb; repeat (first | (with_reducible assumption) | (with_reducible refine Box.drew ?_) | (with_reducible refine Box.drewN ?_ _) | ((with_reducible refine Box.new ?_); simp; done) | (with_reducible apply Box.set2) | (with_reducible refine Box.alloc ?_ _) | (with_reducible refine Box.other ?_ (by first | (dsimp only; omega) | omega) _)))
  have z_b4 := x_b4.lt
  have c_b4_0 := x_b4.c 0 _ rfl
  have f_b4_0 := x_b4.f 0 _ rfl
  have c_b4_1 := x_b4.c 1 _ rfl
  have f_b4_1 := x_b4.f 1 _ rfl
  have x_c4 : Box w4 (w.heap.size + 1 + 1) [.int .u64 ch, .int .u64 cl] := (by refine Box.below ?_ hb; repeat (first | (with_reducible assumption) | (with_reducible refine Box.drew ?_) | (with_reducible refine Box.drewN ?_ _) | ((with_reducible refine Box.new ?_); simp; done) | (with_reducible apply Box.set2) | (with_reducible refine Box.alloc ?_ _) | (with_reducible refine Box.other ?_ (by first | (dsimp only; omega) | omega) _)))
  have z_c4 := x_c4.lt
  have c_c4_0 := x_c4.c 0 _ rfl
  have f_c4_0 := x_c4.f 0 _ rfl
  have c_c4_1 := x_c4.c 1 _ rfl
  have f_c4_1 := x_c4.f 1 _ rfl
  have x_p4 : Box w4 (w1.heap.size) [.int .u64 0, .int .u64 0] := (by refine Box.below ?_ hb; repeat (first | (with_reducible assumption) | (with_reducible refine Box.drew ?_) | (with_reducible refine Box.drewN ?_ _) | ((with_reducible refine Box.new ?_); simp; done) | (with_reducible apply Box.set2) | (with_reducible refine Box.alloc ?_ _) | (with_reducible refine Box.other ?_ (by first | (dsimp only; omega) | omega) _)))
  have z_p4 := x_p4.lt
  have c_p4_0 := x_p4.c 0 _ rfl
  have f_p4_0 := x_p4.f 0 _ rfl
  have c_p4_1 := x_p4.c 1 _ rfl
  have f_p4_1 := x_p4.f 1 _ rfl
  have x_q4 : Box w4 (w2.heap.size) [.int .u64 0, .int .u64 0] := (by refine Box.below ?_ hb; repeat (first | (with_reducible assumption) | (with_reducible refine Box.drew ?_) | (with_reducible refine Box.drewN ?_ _) | ((with_reducible refine Box.new ?_); simp; done) | (with_reducible apply Box.set2) | (with_reducible refine Box.alloc ?_ _) | (with_reducible refine Box.other ?_ (by first | (dsimp only; omega) | omega) _)))
  have z_q4 := x_q4.lt
  have c_q4_0 := x_q4.c 0 _ rfl
  have f_q4_0 := x_q4.f 0 _ rfl
  have c_q4_1 := x_q4.c 1 _ rfl
  have f_q4_1 := x_q4.f 1 _ rfl
  clear hb hB3 hs3 x_a3 z_a3 c_a3_0 c_a3_1 f_a3_0 f_a3_1 x_b3 z_b3 c_b3_0 c_b3_1 f_b3_0 f_b3_1 x_c3 z_c3 c_c3_0 c_c3_1 f_c3_0 f_c3_1 x_p3 z_p3 c_p3_0 c_p3_1 f_p3_0 f_p3_1 x_q3 z_q3 c_q3_0 c_q3_1 f_q3_0 f_q3_1
  clear x_q4 z_q4 c_q4_0 c_q4_1 f_q4_0 f_q4_1
  go_wp2_with fail
  refine (add_any _ _ _ _ _ u0 u0 h5 h6).mono ?_
  rintro e w5 ⟨rfl, hb⟩
  have hB5 : Below w.heap.size w w5 := below_thru (by go_grown) hb
  have hs5 : w.heap.size ≤ w5.heap.size := hB5.size
  have x_a5 : Box w5 (w.heap.size) [.int .u64 ah, .int .u64 al] := (by refine Box.below ?_ hb; repeat (first | (with_reducible assumption) | (with_reducible refine Box.drew ?_) | (with_reducible refine Box.drewN ?_ _) | ((with_reducible refine Box.new ?_); simp; done) | (with_reducible apply Box.set2) | (with_reducible refine Box.alloc ?_ _) | (with_reducible refine Box.other ?_ (by first | (dsimp only; omega) | omega) _)))
  have z_a5 := x_a5.lt
  have c_a5_0 := x_a5.c 0 _ rfl
  have f_a5_0 := x_a5.f 0 _ rfl
  have c_a5_1 := x_a5.c 1 _ rfl
  have f_a5_1 := x_a5.f 1 _ rfl
  have x_b5 : Box w5 (w.heap.size + 1) [.int .u64 bh, .int .u64 bl] := (by refine Box.below ?_ hb; repeat (first | (with_reducible assumption) | (with_reducible refine Box.drew ?_) | (with_reducible refine Box.drewN ?_ _) | ((with_reducible refine Box.new ?_); simp; done) | (with_reducible apply Box.set2) | (with_reducible refine Box.alloc ?_ _) | (with_reducible refine Box.other ?_ (by first | (dsimp only; omega) | omega) _)))
  have z_b5 := x_b5.lt
  have c_b5_0 := x_b5.c 0 _ rfl
  have f_b5_0 := x_b5.f 0 _ rfl
  have c_b5_1 := x_b5.c 1 _ rfl
  have f_b5_1 := x_b5.f 1 _ rfl
  have x_c5 : Box w5 (w.heap.size + 1 + 1) [.int .u64 ch, .int .u64 cl] := (by refine Box.below ?_ hb; repeat (first | (with_reducible assumption) | (with_reducible refine Box.drew ?_) | (with_reducible refine Box.drewN ?_ _) | ((with_reducible refine Box.new ?_); simp; done) | (with_reducible apply Box.set2) | (with_reducible refine Box.alloc ?_ _) | (with_reducible refine Box.other ?_ (by first | (dsimp only; omega) | omega) _)))
  have z_c5 := x_c5.lt
  have c_c5_0 := x_c5.c 0 _ rfl
  have f_c5_0 := x_c5.f 0 _ rfl
  have c_c5_1 := x_c5.c 1 _ rfl
  have f_c5_1 := x_c5.f 1 _ rfl
  have x_p5 : Box w5 (w1.heap.size) [.int .u64 0, .int .u64 0] := (by refine Box.below ?_ hb; repeat (first | (with_reducible assumption) | (with_reducible refine Box.drew ?_) | (with_reducible refine Box.drewN ?_ _) | ((with_reducible refine Box.new ?_); simp; done) | (with_reducible apply Box.set2) | (with_reducible refine Box.alloc ?_ _) | (with_reducible refine Box.other ?_ (by first | (dsimp only; omega) | omega) _)))
  have z_p5 := x_p5.lt
  have c_p5_0 := x_p5.c 0 _ rfl
  have f_p5_0 := x_p5.f 0 _ rfl
  have c_p5_1 := x_p5.c 1 _ rfl
  have f_p5_1 := x_p5.f 1 _ rfl
  clear hb hB4 hs4 x_a4 z_a4 c_a4_0 c_a4_1 f_a4_0 f_a4_1 x_b4 z_b4 c_b4_0 c_b4_1 f_b4_0 f_b4_1 x_c4 z_c4 c_c4_0 c_c4_1 f_c4_0 f_c4_1 x_p4 z_p4 c_p4_0 c_p4_1 f_p4_0 f_p4_1
  clear x_p5 z_p5 c_p5_0 c_p5_1 f_p5_0 f_p5_1
  go_wp2_with fail
  refine (add_any _ _ _ _ _ h3 h4 h5 h6).mono ?_
  rintro e w6 ⟨rfl, hb⟩
  have hB6 : Below w.heap.size w w6 := below_thru (by go_grown) hb
  have hs6 : w.heap.size ≤ w6.heap.size := hB6.size
  have x_a6 : Box w6 (w.heap.size) [.int .u64 ah, .int .u64 al] := (by refine Box.below ?_ hb; repeat (first | (with_reducible assumption) | (with_reducible refine Box.drew ?_) | (with_reducible refine Box.drewN ?_ _) | ((with_reducible refine Box.new ?_); simp; done) | (with_reducible apply Box.set2) | (with_reducible refine Box.alloc ?_ _) | (with_reducible refine Box.other ?_ (by first | (dsimp only; omega) | omega) _)))
  have z_a6 := x_a6.lt
  have c_a6_0 := x_a6.c 0 _ rfl
  have f_a6_0 := x_a6.f 0 _ rfl
  have c_a6_1 := x_a6.c 1 _ rfl
  have f_a6_1 := x_a6.f 1 _ rfl
  have x_b6 : Box w6 (w.heap.size + 1) [.int .u64 bh, .int .u64 bl] := (by refine Box.below ?_ hb; repeat (first | (with_reducible assumption) | (with_reducible refine Box.drew ?_) | (with_reducible refine Box.drewN ?_ _) | ((with_reducible refine Box.new ?_); simp; done) | (with_reducible apply Box.set2) | (with_reducible refine Box.alloc ?_ _) | (with_reducible refine Box.other ?_ (by first | (dsimp only; omega) | omega) _)))
  have z_b6 := x_b6.lt
  have c_b6_0 := x_b6.c 0 _ rfl
  have f_b6_0 := x_b6.f 0 _ rfl
  have c_b6_1 := x_b6.c 1 _ rfl
  have f_b6_1 := x_b6.f 1 _ rfl
  have x_c6 : Box w6 (w.heap.size + 1 + 1) [.int .u64 ch, .int .u64 cl] := (by refine Box.below ?_ hb; repeat (first | (with_reducible assumption) | (with_reducible refine Box.drew ?_) | (with_reducible refine Box.drewN ?_ _) | ((with_reducible refine Box.new ?_); simp; done) | (with_reducible apply Box.set2) | (with_reducible refine Box.alloc ?_ _) | (with_reducible refine Box.other ?_ (by first | (dsimp only; omega) | omega) _)))
  have z_c6 := x_c6.lt
  have c_c6_0 := x_c6.c 0 _ rfl
  have f_c6_0 := x_c6.f 0 _ rfl
  have c_c6_1 := x_c6.c 1 _ rfl
  have f_c6_1 := x_c6.f 1 _ rfl
  clear hb hB5 hs5 x_a5 z_a5 c_a5_0 c_a5_1 f_a5_0 f_a5_1 x_b5 z_b5 c_b5_0 c_b5_1 f_b5_0 f_b5_1 x_c5 z_c5 c_c5_0 c_c5_1 f_c5_0 f_c5_1
  go_wp2_with fail
  refine (add_any _ _ _ _ _ h1 h2 gs (isU_lo _)).mono ?_
  rintro e w7 ⟨rfl, hb⟩
  have hB7 : Below w.heap.size w w7 := below_thru (by go_grown) hb
  have hs7 : w.heap.size ≤ w7.heap.size := hB7.size
  have x_a7 : Box w7 (w.heap.size) [.int .u64 ah, .int .u64 al] := (by refine Box.below ?_ hb; repeat (first | (with_reducible assumption) | (with_reducible refine Box.drew ?_) | (with_reducible refine Box.drewN ?_ _) | ((with_reducible refine Box.new ?_); simp; done) | (with_reducible apply Box.set2) | (with_reducible refine Box.alloc ?_ _) | (with_reducible refine Box.other ?_ (by first | (dsimp only; omega) | omega) _)))
  have z_a7 := x_a7.lt
  have c_a7_0 := x_a7.c 0 _ rfl
  have f_a7_0 := x_a7.f 0 _ rfl
  have c_a7_1 := x_a7.c 1 _ rfl
  have f_a7_1 := x_a7.f 1 _ rfl
  have x_b7 : Box w7 (w.heap.size + 1) [.int .u64 bh, .int .u64 bl] := (by refine Box.below ?_ hb; repeat (first | (with_reducible assumption) | (with_reducible refine Box.drew ?_) | (with_reducible refine Box.drewN ?_ _) | ((with_reducible refine Box.new ?_); simp; done) | (with_reducible apply Box.set2) | (with_reducible refine Box.alloc ?_ _) | (with_reducible refine Box.other ?_ (by first | (dsimp only; omega) | omega) _)))
  have z_b7 := x_b7.lt
  have c_b7_0 := x_b7.c 0 _ rfl
  have f_b7_0 := x_b7.f 0 _ rfl
  have c_b7_1 := x_b7.c 1 _ rfl
  have f_b7_1 := x_b7.f 1 _ rfl
  have x_c7 : Box w7 (w.heap.size + 1 + 1) [.int .u64 ch, .int .u64 cl] := (by refine Box.below ?_ hb; repeat (first | (with_reducible assumption) | (with_reducible refine Box.drew ?_) | (with_reducible refine Box.drewN ?_ _) | ((with_reducible refine Box.new ?_); simp; done) | (with_reducible apply Box.set2) | (with_reducible refine Box.alloc ?_ _) | (with_reducible refine Box.other ?_ (by first | (dsimp only; omega) | omega) _)))
  have z_c7 := x_c7.lt
  have c_c7_0 := x_c7.c 0 _ rfl
  have f_c7_0 := x_c7.f 0 _ rfl
  have c_c7_1 := x_c7.c 1 _ rfl
  have f_c7_1 := x_c7.f 1 _ rfl
  have x_s7 : Box w7 (w6.heap.size) [.int .u64 (wHi (addV (wN bh bl + wN ch cl))), .int .u64 (wLo (addV (wN bh bl + wN ch cl)))] := (by refine Box.below ?_ hb; repeat (first | (with_reducible assumption) | (with_reducible refine Box.drew ?_) | (with_reducible refine Box.drewN ?_ _) | ((with_reducible refine Box.new ?_); simp; done) | (with_reducible apply Box.set2) | (with_reducible refine Box.alloc ?_ _) | (with_reducible refine Box.other ?_ (by first | (dsimp only; omega) | omega) _)))
  have z_s7 := x_s7.lt
  have c_s7_0 := x_s7.c 0 _ rfl
  have f_s7_0 := x_s7.f 0 _ rfl
  have c_s7_1 := x_s7.c 1 _ rfl
  have f_s7_1 := x_s7.f 1 _ rfl
  clear hb hB6 hs6 x_a6 z_a6 c_a6_0 c_a6_1 f_a6_0 f_a6_1 x_b6 z_b6 c_b6_0 c_b6_1 f_b6_0 f_b6_1 x_c6 z_c6 c_c6_0 c_c6_1 f_c6_0 f_c6_1
  go_wp2_with fail
  refine (mul_ok _ hx hY gm' em.out).mono ?_
  rintro e w8 ⟨rfl, hb⟩
  have hB8 : Below w.heap.size w w8 := below_thru (by go_grown) hb
  have hs8 : w.heap.size ≤ w8.heap.size := hB8.size
  have x_a8 : Box w8 (w.heap.size) [.int .u64 ah, .int .u64 al] := (by refine Box.below ?_ hb; repeat (first | (with_reducible assumption) | (with_reducible refine Box.drew ?_) | (with_reducible refine Box.drewN ?_ _) | ((with_reducible refine Box.new ?_); simp; done) | (with_reducible apply Box.set2) | (with_reducible refine Box.alloc ?_ _) | (with_reducible refine Box.other ?_ (by first | (dsimp only; omega) | omega) _)))
  have z_a8 := x_a8.lt
  have c_a8_0 := x_a8.c 0 _ rfl
  have f_a8_0 := x_a8.f 0 _ rfl
  have c_a8_1 := x_a8.c 1 _ rfl
  have f_a8_1 := x_a8.f 1 _ rfl
  have x_b8 : Box w8 (w.heap.size + 1) [.int .u64 bh, .int .u64 bl] := (by refine Box.below ?_ hb; repeat (first | (with_reducible assumption) | (with_reducible refine Box.drew ?_) | (with_reducible refine Box.drewN ?_ _) | ((with_reducible refine Box.new ?_); simp; done) | (with_reducible apply Box.set2) | (with_reducible refine Box.alloc ?_ _) | (with_reducible refine Box.other ?_ (by first | (dsimp only; omega) | omega) _)))
  have z_b8 := x_b8.lt
  have c_b8_0 := x_b8.c 0 _ rfl
  have f_b8_0 := x_b8.f 0 _ rfl
  have c_b8_1 := x_b8.c 1 _ rfl
  have f_b8_1 := x_b8.f 1 _ rfl
  have x_c8 : Box w8 (w.heap.size + 1 + 1) [.int .u64 ch, .int .u64 cl] := (by refine Box.below ?_ hb; repeat (first | (with_reducible assumption) | (with_reducible refine Box.drew ?_) | (with_reducible refine Box.drewN ?_ _) | ((with_reducible refine Box.new ?_); simp; done) | (with_reducible apply Box.set2) | (with_reducible refine Box.alloc ?_ _) | (with_reducible refine Box.other ?_ (by first | (dsimp only; omega) | omega) _)))
  have z_c8 := x_c8.lt
  have c_c8_0 := x_c8.c 0 _ rfl
  have f_c8_0 := x_c8.f 0 _ rfl
  have c_c8_1 := x_c8.c 1 _ rfl
  have f_c8_1 := x_c8.f 1 _ rfl
  have x_s8 : Box w8 (w6.heap.size) [.int .u64 (wHi (addV (wN bh bl + wN ch cl))), .int .u64 (wLo (addV (wN bh bl + wN ch cl)))] := (by refine Box.below ?_ hb; repeat (first | (with_reducible assumption) | (with_reducible refine Box.drew ?_) | (with_reducible refine Box.drewN ?_ _) | ((with_reducible refine Box.new ?_); simp; done) | (with_reducible apply Box.set2) | (with_reducible refine Box.alloc ?_ _) | (with_reducible refine Box.other ?_ (by first | (dsimp only; omega) | omega) _)))
  have z_s8 := x_s8.lt
  have c_s8_0 := x_s8.c 0 _ rfl
  have f_s8_0 := x_s8.f 0 _ rfl
  have c_s8_1 := x_s8.c 1 _ rfl
  have f_s8_1 := x_s8.f 1 _ rfl
  clear hb hB7 hs7 x_a7 z_a7 c_a7_0 c_a7_1 f_a7_0 f_a7_1 x_b7 z_b7 c_b7_0 c_b7_1 f_b7_0 f_b7_1 x_c7 z_c7 c_c7_0 c_c7_1 f_c7_0 f_c7_1 x_s7 z_s7 c_s7_0 c_s7_1 f_s7_0 f_s7_1
  go_wp2_with fail
  refine (mul_ok _ hx hZ gn' en.out).mono ?_
  rintro e w9 ⟨rfl, hb⟩
  have hB9 : Below w.heap.size w w9 := below_thru (by go_grown) hb
  have hs9 : w.heap.size ≤ w9.heap.size := hB9.size
  have x_a9 : Box w9 (w.heap.size) [.int .u64 ah, .int .u64 al] := (by refine Box.below ?_ hb; repeat (first | (with_reducible assumption) | (with_reducible refine Box.drew ?_) | (with_reducible refine Box.drewN ?_ _) | ((with_reducible refine Box.new ?_); simp; done) | (with_reducible apply Box.set2) | (with_reducible refine Box.alloc ?_ _) | (with_reducible refine Box.other ?_ (by first | (dsimp only; omega) | omega) _)))
  have z_a9 := x_a9.lt
  have c_a9_0 := x_a9.c 0 _ rfl
  have f_a9_0 := x_a9.f 0 _ rfl
  have c_a9_1 := x_a9.c 1 _ rfl
  have f_a9_1 := x_a9.f 1 _ rfl
  have x_b9 : Box w9 (w.heap.size + 1) [.int .u64 bh, .int .u64 bl] := (by refine Box.below ?_ hb; repeat (first | (with_reducible assumption) | (with_reducible refine Box.drew ?_) | (with_reducible refine Box.drewN ?_ _) | ((with_reducible refine Box.new ?_); simp; done) | (with_reducible apply Box.set2) | (with_reducible refine Box.alloc ?_ _) | (with_reducible refine Box.other ?_ (by first | (dsimp only; omega) | omega) _)))
  have z_b9 := x_b9.lt
  have c_b9_0 := x_b9.c 0 _ rfl
  have f_b9_0 := x_b9.f 0 _ rfl
  have c_b9_1 := x_b9.c 1 _ rfl
  have f_b9_1 := x_b9.f 1 _ rfl
  have x_c9 : Box w9 (w.heap.size + 1 + 1) [.int .u64 ch, .int .u64 cl] := (by refine Box.below ?_ hb; repeat (first | (with_reducible assumption) | (with_reducible refine Box.drew ?_) | (with_reducible refine Box.drewN ?_ _) | ((with_reducible refine Box.new ?_); simp; done) | (with_reducible apply Box.set2) | (with_reducible refine Box.alloc ?_ _) | (with_reducible refine Box.other ?_ (by first | (dsimp only; omega) | omega) _)))
  have z_c9 := x_c9.lt
  have c_c9_0 := x_c9.c 0 _ rfl
  have f_c9_0 := x_c9.f 0 _ rfl
  have c_c9_1 := x_c9.c 1 _ rfl
  have f_c9_1 := x_c9.f 1 _ rfl
  have x_s9 : Box w9 (w6.heap.size) [.int .u64 (wHi (addV (wN bh bl + wN ch cl))), .int .u64 (wLo (addV (wN bh bl + wN ch cl)))] := (by refine Box.below ?_ hb; repeat (first | (with_reducible assumption) | (with_reducible refine Box.drew ?_) | (with_reducible refine Box.drewN ?_ _) | ((with_reducible refine Box.new ?_); simp; done) | (with_reducible apply Box.set2) | (with_reducible refine Box.alloc ?_ _) | (with_reducible refine Box.other ?_ (by first | (dsimp only; omega) | omega) _)))
  have z_s9 := x_s9.lt
  have c_s9_0 := x_s9.c 0 _ rfl
  have f_s9_0 := x_s9.f 0 _ rfl
  have c_s9_1 := x_s9.c 1 _ rfl
  have f_s9_1 := x_s9.f 1 _ rfl
  clear hb hB8 hs8 x_a8 z_a8 c_a8_0 c_a8_1 f_a8_0 f_a8_1 x_b8 z_b8 c_b8_0 c_b8_1 f_b8_0 f_b8_1 x_c8 z_c8 c_c8_0 c_c8_1 f_c8_0 f_c8_1 x_s8 z_s8 c_s8_0 c_s8_1 f_s8_0 f_s8_1
  clear x_a9 z_a9 c_a9_0 c_a9_1 f_a9_0 f_a9_1
  clear x_b9 z_b9 c_b9_0 c_b9_1 f_b9_0 f_b9_1
  clear x_c9 z_c9 c_c9_0 c_c9_1 f_c9_0 f_c9_1
  clear x_s9 z_s9 c_s9_0 c_s9_1 f_s9_0 f_s9_1
  go_wp2_with fail
  refine (add_ok _ gm gm' gn gn' go go' eo'.out).mono ?_
  rintro e w10 ⟨rfl, hb⟩
  have hB10 : Below w.heap.size w w10 := below_thru (by go_grown) hb
  have hs10 : w.heap.size ≤ w10.heap.size := hB10.size
  clear hb hB9 hs9
  go_upto_region 12 with fail
  go_cut [12] (fun q0 wx => q0 = .bool true ∧ Box wx (w10.heap.size) [.int .u64 oh, .int .u64 ol] ∧ Below w.heap.size w wx)
  case first =>
    go_region_held3 (fun w' => w'.cell? ⟨w10.heap.size, 0, none⟩ = some (.int .u64 oh) ∧ w'.cell? ⟨w10.heap.size, 1, none⟩ = some (.int .u64 ol)) (((repeat' apply And.intro) <;> (first | (go_keep; done) | go_cell)))
      (first
        | (go_at_call 16; refine (mul_ok _ hx hYZ go' eo.out).mono ?_; rintro e v1 ⟨rfl, hv1⟩; have hV1 : Below w.heap.size w v1 := below_thru (by go_grown) hv1; have hs_v1 : w.heap.size ≤ v1.heap.size := hV1.size; have x_u_v1 : Box v1 (w10.heap.size) [.int .u64 oh, .int .u64 ol] := (by refine Box.below ?_ hv1; repeat (first | (with_reducible assumption) | (with_reducible refine Box.drew ?_) | (with_reducible refine Box.drewN ?_ _) | ((with_reducible refine Box.new ?_); simp; done) | (with_reducible apply Box.set2) | (with_reducible refine Box.alloc ?_ _) | (with_reducible refine Box.other ?_ (by first | (dsimp only; omega) | omega) _))); have z_u_v1 := x_u_v1.lt; have c_u_v1_0 := x_u_v1.c 0 _ rfl; have f_u_v1_0 := x_u_v1.f 0 _ rfl; have c_u_v1_1 := x_u_v1.c 1 _ rfl; have f_u_v1_1 := x_u_v1.f 1 _ rfl)
        | (go_at_call 17; refine (alive_any _).mono ?_; rintro e v2 ⟨rfl, hv2⟩; have hV2 : Below w.heap.size w v2 := below_thru (by go_grown) hv2; have hs_v2 : w.heap.size ≤ v2.heap.size := hV2.size; have x_u_v2 : Box v2 (w10.heap.size) [.int .u64 oh, .int .u64 ol] := (by refine Box.below ?_ hv2; repeat (first | (with_reducible assumption) | (with_reducible refine Box.drew ?_) | (with_reducible refine Box.drewN ?_ _) | ((with_reducible refine Box.new ?_); simp; done) | (with_reducible apply Box.set2) | (with_reducible refine Box.alloc ?_ _) | (with_reducible refine Box.other ?_ (by first | (dsimp only; omega) | omega) _))); have z_u_v2 := x_u_v2.lt; have c_u_v2_0 := x_u_v2.c 0 _ rfl; have f_u_v2_0 := x_u_v2.f 0 _ rfl; have c_u_v2_1 := x_u_v2.c 1 _ rfl; have f_u_v2_1 := x_u_v2.f 1 _ rfl))
    all_goals
      go_wp2_with fail
      go_meet
      refine ⟨rfl, ?_, ?_⟩
      all_goals first
        | ((repeat (first | (with_reducible assumption) | (with_reducible refine Box.drew ?_) | (with_reducible refine Box.drewN ?_ _) | ((with_reducible refine Box.new ?_); simp; done) | (with_reducible apply Box.set2) | (with_reducible refine Box.alloc ?_ _) | (with_reducible refine Box.other ?_ (by first | (dsimp only; omega) | omega) _))); done)
        | (go_grown; done)
  case rest =>
    obtain ⟨rfl, x_u11, hB11⟩ := hcut
    obtain ⟨w11, rfl⟩ : ∃ u : World, u = wc := ⟨_, rfl⟩
    clear hB10 hs10
    have hs11 : w.heap.size ≤ w11.heap.size := hB11.size
    have z_u11 := x_u11.lt
    have c_u11_0 := x_u11.c 0 _ rfl; have f_u11_0 := x_u11.f 0 _ rfl
    have c_u11_1 := x_u11.c 1 _ rfl; have f_u11_1 := x_u11.f 1 _ rfl
    go_wp2
    go_returns
    refine ⟨rfl, ?_⟩
    go_grown

end Go.Proofs.Ytjidognjnlhlcaa
