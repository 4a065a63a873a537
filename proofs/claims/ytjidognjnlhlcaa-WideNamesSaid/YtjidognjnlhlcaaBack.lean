/-
  The contracts of package wide with their results under names, and what they say of each other; the statement WideBack, walked.
-/
import Derived.Test.YtjidognjnlhlcaaTimes
namespace Go.Proofs.Ytjidognjnlhlcaa
open Go.RowKit

theorem wParts {n h l : Int} (hl : isU l) (e : n = wN h l) : wHi n = h ∧ wLo n = l := by rw [e]; exact ⟨wHi_wN hl, wLo_wN hl⟩

theorem add_ok {ah al bh bl h l : Int} (w : World) (h1 : isU ah) (h2 : isU al) (h3 : isU bh) (h4 : isU bl) (g1 : isU h) (g2 : isU l) (e : wN ah al + wN bh bl = wN h l) :
    Calls Try.prog 9 #[.agg #[.int .u64 ah, .int .u64 al], .agg #[.int .u64 bh, .int .u64 bl]] w fun e w' =>
      e = .returned (.tuple #[.agg #[.int .u64 h, .int .u64 l], .int .i64 0]) ∧ Below w.heap.size w w' := by
  have hw := isW_of g1 g2
  unfold isW at hw
  have hp := wParts g2 (rfl : wN h l = wN h l)
  refine (add_any ah al bh bl w h1 h2 h3 h4).mono fun e' w' ⟨he, hb⟩ => ⟨?_, hb⟩
  rw [he, e, show addV (wN h l) = wN h l from if_pos hw.2, show addE (wN h l) = 0 from if_pos hw.2, hp.1, hp.2]
theorem add_no {ah al bh bl : Int} (w : World) (h1 : isU ah) (h2 : isU al) (h3 : isU bh) (h4 : isU bl) (e : ¬ wN ah al + wN bh bl < 340282366920938463463374607431768211456) :
    Calls Try.prog 9 #[.agg #[.int .u64 ah, .int .u64 al], .agg #[.int .u64 bh, .int .u64 bl]] w fun e w' =>
      e = .returned (.tuple #[.agg #[.int .u64 0, .int .u64 0], .int .i64 16]) ∧ Below w.heap.size w w' := by
  refine (add_any ah al bh bl w h1 h2 h3 h4).mono fun e' w' ⟨he, hb⟩ => ⟨?_, hb⟩
  rw [he, show addV (wN ah al + wN bh bl) = 0 from if_neg e, show addE (wN ah al + wN bh bl) = 16 from if_neg e]
  rfl
theorem sub_ok {ah al bh bl h l : Int} (w : World) (h1 : isU ah) (h2 : isU al) (h3 : isU bh) (h4 : isU bl) (g1 : isU h) (g2 : isU l) (e : wN ah al - wN bh bl = wN h l) :
    Calls Try.prog 11 #[.agg #[.int .u64 ah, .int .u64 al], .agg #[.int .u64 bh, .int .u64 bl]] w fun e w' =>
      e = .returned (.tuple #[.agg #[.int .u64 h, .int .u64 l], .int .i64 0]) ∧ Below w.heap.size w w' := by
  have hw := isW_of g1 g2
  unfold isW at hw
  have hp := wParts g2 (rfl : wN h l = wN h l)
  refine (sub_any ah al bh bl w h1 h2 h3 h4).mono fun e' w' ⟨he, hb⟩ => ⟨?_, hb⟩
  rw [he, e, show subV (wN h l) = wN h l from if_pos hw.1, show subE (wN h l) = 0 from if_pos hw.1, hp.1, hp.2]
theorem sub_no {ah al bh bl : Int} (w : World) (h1 : isU ah) (h2 : isU al) (h3 : isU bh) (h4 : isU bl) (e : ¬ 0 ≤ wN ah al - wN bh bl) :
    Calls Try.prog 11 #[.agg #[.int .u64 ah, .int .u64 al], .agg #[.int .u64 bh, .int .u64 bl]] w fun e w' =>
      e = .returned (.tuple #[.agg #[.int .u64 0, .int .u64 0], .int .i64 16]) ∧ Below w.heap.size w w' := by
  refine (sub_any ah al bh bl w h1 h2 h3 h4).mono fun e' w' ⟨he, hb⟩ => ⟨?_, hb⟩
  rw [he, show subV (wN ah al - wN bh bl) = 0 from if_neg e, show subE (wN ah al - wN bh bl) = 16 from if_neg e]
  rfl
theorem mul_ok {x y h l : Int} (w : World) (h1 : isU x) (h2 : isU y) (g2 : isU l) (e : x * y = wN h l) :
    Calls Try.prog 16 #[.int .u64 x, .int .u64 y] w fun e w' => e = .returned (.agg #[.int .u64 h, .int .u64 l]) ∧ Below w.heap.size w w' := by
  have hp := wParts g2 e
  refine (mul_any x y w h1 h2).mono fun e' w' ⟨he, hb⟩ => ⟨?_, hb⟩
  rw [he, hp.1, hp.2]
theorem div_ok {ah al d h l r : Int} (w : World) (h1 : isU ah) (h2 : isU al) (h3 : isU d) (hd : d ≠ 0) (g2 : isU l) (e : wN ah al / d = wN h l) (er : wN ah al % d = r) :
    Calls Try.prog 13 #[.agg #[.int .u64 ah, .int .u64 al], .int .u64 d] w fun e w' =>
      e = .returned (.tuple #[.agg #[.int .u64 h, .int .u64 l], .int .u64 r, .int .i64 0]) ∧ Below w.heap.size w w' := by
  have hp := wParts g2 e
  refine (div_any ah al d w h1 h2 h3).mono fun e' w' ⟨he, hb⟩ => ⟨?_, hb⟩
  rw [he, show divV (wN ah al) d = wN ah al / d from if_neg hd, show divR (wN ah al) d = wN ah al % d from if_neg hd, show divE d = 0 from if_neg hd, er, hp.1, hp.2]
theorem div_no {ah al : Int} (w : World) (h1 : isU ah) (h2 : isU al) :
    Calls Try.prog 13 #[.agg #[.int .u64 ah, .int .u64 al], .int .u64 0] w fun e w' =>
      e = .returned (.tuple #[.agg #[.int .u64 0, .int .u64 0], .int .u64 0, .int .i64 26]) ∧ Below w.heap.size w w' := div_any ah al 0 w h1 h2 u0
theorem up_ok {ah al d h l : Int} (w : World) (h1 : isU ah) (h2 : isU al) (h3 : isU d) (hd : d ≠ 0) (g2 : isU l) (e : upV (wN ah al) d = wN h l) :
    Calls Try.prog 14 #[.agg #[.int .u64 ah, .int .u64 al], .int .u64 d] w fun e w' =>
      e = .returned (.tuple #[.agg #[.int .u64 h, .int .u64 l], .int .i64 0]) ∧ Below w.heap.size w w' := by
  have hp := wParts g2 e
  refine (up_any ah al d w h1 h2 h3).mono fun e' w' ⟨he, hb⟩ => ⟨?_, hb⟩
  rw [he, show divE d = 0 from if_neg hd, hp.1, hp.2]
theorem up_no {ah al : Int} (w : World) (h1 : isU ah) (h2 : isU al) :
    Calls Try.prog 14 #[.agg #[.int .u64 ah, .int .u64 al], .int .u64 0] w fun e w' =>
      e = .returned (.tuple #[.agg #[.int .u64 0, .int .u64 0], .int .i64 26]) ∧ Below w.heap.size w w' := up_any ah al 0 w h1 h2 u0
theorem times_ok {ah al d h l : Int} (w : World) (h1 : isU ah) (h2 : isU al) (h3 : isU d) (g1 : isU h) (g2 : isU l) (e : wN ah al * d = wN h l) :
    Calls Try.prog 25 #[.agg #[.int .u64 ah, .int .u64 al], .int .u64 d] w fun e w' =>
      e = .returned (.tuple #[.agg #[.int .u64 h, .int .u64 l], .bool true]) ∧ Below w.heap.size w w' := by
  have hw := isW_of g1 g2
  have hp := wParts g2 (rfl : wN h l = wN h l)
  have h0 : 0 ≤ ah * d := by unfold isU at h1 h3; exact Int.mul_nonneg h1.1 h3.1
  have h5 : 0 ≤ al * d := by unfold isU at h2 h3; exact Int.mul_nonneg h2.1 h3.1
  have e1 : wN ah al * d = ah * d * 18446744073709551616 + al * d := by
    unfold wN; rw [Int.add_mul, Int.mul_assoc, Int.mul_comm 18446744073709551616 d, ← Int.mul_assoc]
  unfold isW at hw
  have hh : wHi (ah * d) = 0 := by unfold wHi; omega
  have e2 : wN (wLo (ah * d)) 0 + wN (wHi (al * d)) (wLo (al * d)) = wN h l := by
    rw [wN_parts, ← e, e1]
    unfold wHi at hh
    unfold wN wLo
    omega
  refine (times_yes ah al d w h1 h2 h3 hh).mono fun e' w' ⟨he, hb⟩ => ⟨?_, hb⟩
  rw [he, e2, show addV (wN h l) = wN h l from if_pos hw.2, show addE (wN h l) = 0 from if_pos hw.2, hp.1, hp.2]
  rfl

def backCall (ah al d : Int) (w : World) : Prop :=
  Calls Try.prog 6 #[.agg #[.int .u64 ah, .int .u64 al], .int .u64 d] w fun e w' => e = .returned (.bool true) ∧ Below w.heap.size w w'

set_option maxHeartbeats 800000 in
theorem back_zero (ah al : Int) (w : World) (h1 : isU ah) (h2 : isU al) : backCall ah al 0 w := by
  unfold backCall
  go_enter Try.func6, Try.ntmps6
  go_wp2_with fail
  refine (div_no _ h1 h2).mono ?_
  rintro e w1 ⟨rfl, hb⟩
  have hB1 : Below w.heap.size w w1 := below_thru (by go_grown) hb
  have hs1 : w.heap.size ≤ w1.heap.size := hB1.size
  have x_a1 : Box w1 (w.heap.size) [.int .u64 ah, .int .u64 al] := (by refine Box.below ?_ hb; repeat (first | (with_reducible assumption) | (with_reducible refine Box.drew ?_) | (with_reducible refine Box.drewN ?_ _) | ((with_reducible refine Box.new ?_); simp; done) | (with_reducible apply Box.set2) | (with_reducible refine Box.alloc ?_ _) | (with_reducible refine Box.other ?_ (by first | (dsimp only; omega) | omega) _)))
  have z_a1 := x_a1.lt
  have c_a1_0 := x_a1.c 0 _ rfl
  have f_a1_0 := x_a1.f 0 _ rfl
  have c_a1_1 := x_a1.c 1 _ rfl
  have f_a1_1 := x_a1.f 1 _ rfl
  clear hb
  go_wp2_with fail
  refine (up_no _ h1 h2).mono ?_
  rintro e w2 ⟨rfl, hb⟩
  have hB2 : Below w.heap.size w w2 := below_thru (by go_grown) hb
  have hs2 : w.heap.size ≤ w2.heap.size := hB2.size
  have x_a2 : Box w2 (w.heap.size) [.int .u64 ah, .int .u64 al] := (by refine Box.below ?_ hb; repeat (first | (with_reducible assumption) | (with_reducible refine Box.drew ?_) | (with_reducible refine Box.drewN ?_ _) | ((with_reducible refine Box.new ?_); simp; done) | (with_reducible apply Box.set2) | (with_reducible refine Box.alloc ?_ _) | (with_reducible refine Box.other ?_ (by first | (dsimp only; omega) | omega) _)))
  have z_a2 := x_a2.lt
  have c_a2_0 := x_a2.c 0 _ rfl
  have f_a2_0 := x_a2.f 0 _ rfl
  have c_a2_1 := x_a2.c 1 _ rfl
  have f_a2_1 := x_a2.f 1 _ rfl
  have x_q2 : Box w2 (w1.heap.size) [.int .u64 0, .int .u64 0] := (by refine Box.below ?_ hb; repeat (first | (with_reducible assumption) | (with_reducible refine Box.drew ?_) | (with_reducible refine Box.drewN ?_ _) | ((with_reducible refine Box.new ?_); simp; done) | (with_reducible apply Box.set2) | (with_reducible refine Box.alloc ?_ _) | (with_reducible refine Box.other ?_ (by first | (dsimp only; omega) | omega) _)))
  have z_q2 := x_q2.lt
  have c_q2_0 := x_q2.c 0 _ rfl
  have f_q2_0 := x_q2.f 0 _ rfl
  have c_q2_1 := x_q2.c 1 _ rfl
  have f_q2_1 := x_q2.f 1 _ rfl
  clear hb hB1 hs1 x_a1 z_a1 c_a1_0 c_a1_1 f_a1_0 f_a1_1
  go_wp2_with fail
  refine (alive_any _).mono ?_
  rintro e w3 ⟨rfl, hb⟩
  have hB3 : Below w.heap.size w w3 := below_thru (by go_grown) hb
  have hs3 : w.heap.size ≤ w3.heap.size := hB3.size
  have x_a3 : Box w3 (w.heap.size) [.int .u64 ah, .int .u64 al] := (by refine Box.below ?_ hb; repeat (first | (with_reducible assumption) | (with_reducible refine Box.drew ?_) | (with_reducible refine Box.drewN ?_ _) | ((with_reducible refine Box.new ?_); simp; done) | (with_reducible apply Box.set2) | (with_reducible refine Box.alloc ?_ _) | (with_reducible refine Box.other ?_ (by first | (dsimp only; omega) | omega) _)))
  have z_a3 := x_a3.lt
  have c_a3_0 := x_a3.c 0 _ rfl
  have f_a3_0 := x_a3.f 0 _ rfl
  have c_a3_1 := x_a3.c 1 _ rfl
  have f_a3_1 := x_a3.f 1 _ rfl
  have x_q3 : Box w3 (w1.heap.size) [.int .u64 0, .int .u64 0] := (by refine Box.below ?_ hb; repeat (first | (with_reducible assumption) | (with_reducible refine Box.drew ?_) | (with_reducible refine Box.drewN ?_ _) | ((with_reducible refine Box.new ?_); simp; done) | (with_reducible apply Box.set2) | (with_reducible refine Box.alloc ?_ _) | (with_reducible refine Box.other ?_ (by first | (dsimp only; omega) | omega) _)))
  have z_q3 := x_q3.lt
  have c_q3_0 := x_q3.c 0 _ rfl
  have f_q3_0 := x_q3.f 0 _ rfl
  have c_q3_1 := x_q3.c 1 _ rfl
  have f_q3_1 := x_q3.f 1 _ rfl
  have x_u3 : Box w3 (w2.heap.size) [.int .u64 0, .int .u64 0] := (by refine Box.below ?_ hb; repeat (first | (with_reducible assumption) | (with_reducible refine Box.drew ?_) | (with_reducible refine Box.drewN ?_ _) | ((with_reducible refine Box.new ?_); simp; done) | (with_reducible apply Box.set2) | (with_reducible refine Box.alloc ?_ _) | (with_reducible refine Box.other ?_ (by first | (dsimp only; omega) | omega) _)))
  have z_u3 := x_u3.lt
  have c_u3_0 := x_u3.c 0 _ rfl
  have f_u3_0 := x_u3.f 0 _ rfl
  have c_u3_1 := x_u3.c 1 _ rfl
  have f_u3_1 := x_u3.f 1 _ rfl
  clear hb hB2 hs2 x_a2 z_a2 c_a2_0 c_a2_1 f_a2_0 f_a2_1 x_q2 z_q2 c_q2_0 c_q2_1 f_q2_0 f_q2_1
  go_wp2
  go_returns
  refine ⟨rfl, ?_⟩
  go_grown

set_option maxRecDepth 100000 in
set_option maxHeartbeats 3200000 in
theorem back_even (ah al d qh ql ph pl : Int) (w : World) (h1 : isU ah) (h2 : isU al) (h3 : isU d) (hd : d ≠ 0) (g1 : isU qh) (g2 : isU ql) (g3 : isU ph) (g4 : isU pl)
    (eq : Hid (wN ah al / d = wN qh ql)) (er : Hid (wN ah al % d = 0)) (ep : Hid (wN qh ql * d = wN ph pl)) (es : Hid (wN ph pl + wN 0 0 = wN ah al)) (hr : isU 0)
    (eu : Hid (upV (wN ah al) d = wN qh ql)) : backCall ah al d w := by
  have hd0 : (d == 0) = false := beq_eq_false_iff_ne.2 hd
  have hd1 : decide (0 ≥ d) = false := by unfold isU at h3; simp; omega
  unfold backCall
  go_enter Try.func6, Try.ntmps6
  go_wp2_with fail
  refine (div_ok _ h1 h2 h3 hd g2 eq.out er.out).mono ?_
  rintro e w1 ⟨rfl, hb⟩
  have hB1 : Below w.heap.size w w1 := below_thru (by go_grown) hb
  have hs1 : w.heap.size ≤ w1.heap.size := hB1.size
  have x_a1 : Box w1 (w.heap.size) [.int .u64 ah, .int .u64 al] := (by refine Box.below ?_ hb; repeat (first | (with_reducible assumption) | (with_reducible refine Box.drew ?_) | (with_reducible refine Box.drewN ?_ _) | ((with_reducible refine Box.new ?_); simp; done) | (with_reducible apply Box.set2) | (with_reducible refine Box.alloc ?_ _) | (with_reducible refine Box.other ?_ (by first | (dsimp only; omega) | omega) _)))
  have z_a1 := x_a1.lt
  have c_a1_0 := x_a1.c 0 _ rfl
  have f_a1_0 := x_a1.f 0 _ rfl
  have c_a1_1 := x_a1.c 1 _ rfl
  have f_a1_1 := x_a1.f 1 _ rfl
  clear hb
  go_wp2_with fail
  refine (up_ok _ h1 h2 h3 hd g2 eu.out).mono ?_
  rintro e w2 ⟨rfl, hb⟩
  have hB2 : Below w.heap.size w w2 := below_thru (by go_grown) hb
  have hs2 : w.heap.size ≤ w2.heap.size := hB2.size
  have x_a2 : Box w2 (w.heap.size) [.int .u64 ah, .int .u64 al] := (by refine Box.below ?_ hb; repeat (first | (with_reducible assumption) | (with_reducible refine Box.drew ?_) | (with_reducible refine Box.drewN ?_ _) | ((with_reducible refine Box.new ?_); simp; done) | (with_reducible apply Box.set2) | (with_reducible refine Box.alloc ?_ _) | (with_reducible refine Box.other ?_ (by first | (dsimp only; omega) | omega) _)))
  have z_a2 := x_a2.lt
  have c_a2_0 := x_a2.c 0 _ rfl
  have f_a2_0 := x_a2.f 0 _ rfl
  have c_a2_1 := x_a2.c 1 _ rfl
  have f_a2_1 := x_a2.f 1 _ rfl
  have x_q2 : Box w2 (w1.heap.size) [.int .u64 qh, .int .u64 ql] := (by refine Box.below ?_ hb; repeat (first | (with_reducible assumption) | (with_reducible refine Box.drew ?_) | (with_reducible refine Box.drewN ?_ _) | ((with_reducible refine Box.new ?_); simp; done) | (with_reducible apply Box.set2) | (with_reducible refine Box.alloc ?_ _) | (with_reducible refine Box.other ?_ (by first | (dsimp only; omega) | omega) _)))
  have z_q2 := x_q2.lt
  have c_q2_0 := x_q2.c 0 _ rfl
  have f_q2_0 := x_q2.f 0 _ rfl
  have c_q2_1 := x_q2.c 1 _ rfl
  have f_q2_1 := x_q2.f 1 _ rfl
  clear hb hB1 hs1 x_a1 z_a1 c_a1_0 c_a1_1 f_a1_0 f_a1_1
  go_wp2_with fail
  refine (times_ok _ g1 g2 h3 g3 g4 ep.out).mono ?_
  rintro e w3 ⟨rfl, hb⟩
  have hB3 : Below w.heap.size w w3 := below_thru (by go_grown) hb
  have hs3 : w.heap.size ≤ w3.heap.size := hB3.size
  have x_a3 : Box w3 (w.heap.size) [.int .u64 ah, .int .u64 al] := (by refine Box.below ?_ hb; repeat (first | (with_reducible assumption) | (with_reducible refine Box.drew ?_) | (with_reducible refine Box.drewN ?_ _) | ((with_reducible refine Box.new ?_); simp; done) | (with_reducible apply Box.set2) | (with_reducible refine Box.alloc ?_ _) | (with_reducible refine Box.other ?_ (by first | (dsimp only; omega) | omega) _)))
  have z_a3 := x_a3.lt
  have c_a3_0 := x_a3.c 0 _ rfl
  have f_a3_0 := x_a3.f 0 _ rfl
  have c_a3_1 := x_a3.c 1 _ rfl
  have f_a3_1 := x_a3.f 1 _ rfl
  have x_q3 : Box w3 (w1.heap.size) [.int .u64 qh, .int .u64 ql] := (by refine Box.below ?_ hb; repeat (first | (with_reducible assumption) | (with_reducible refine Box.drew ?_) | (with_reducible refine Box.drewN ?_ _) | ((with_reducible refine Box.new ?_); simp; done) | (with_reducible apply Box.set2) | (with_reducible refine Box.alloc ?_ _) | (with_reducible refine Box.other ?_ (by first | (dsimp only; omega) | omega) _)))
  have z_q3 := x_q3.lt
  have c_q3_0 := x_q3.c 0 _ rfl
  have f_q3_0 := x_q3.f 0 _ rfl
  have c_q3_1 := x_q3.c 1 _ rfl
  have f_q3_1 := x_q3.f 1 _ rfl
  have x_u3 : Box w3 (w2.heap.size) [.int .u64 qh, .int .u64 ql] := (by refine Box.below ?_ hb; repeat (first | (with_reducible assumption) | (with_reducible refine Box.drew ?_) | (with_reducible refine Box.drewN ?_ _) | ((with_reducible refine Box.new ?_); simp; done) | (with_reducible apply Box.set2) | (with_reducible refine Box.alloc ?_ _) | (with_reducible refine Box.other ?_ (by first | (dsimp only; omega) | omega) _)))
  have z_u3 := x_u3.lt
  have c_u3_0 := x_u3.c 0 _ rfl
  have f_u3_0 := x_u3.f 0 _ rfl
  have c_u3_1 := x_u3.c 1 _ rfl
  have f_u3_1 := x_u3.f 1 _ rfl
  clear hb hB2 hs2 x_a2 z_a2 c_a2_0 c_a2_1 f_a2_0 f_a2_1 x_q2 z_q2 c_q2_0 c_q2_1 f_q2_0 f_q2_1
  go_upto_region 6 with fail
  go_cut [12, 13] (fun p q0 wx => ∃ b : Nat, p = .pointer (some ⟨b, 0, none⟩) ∧ q0 = .int .i64 0 ∧ Box wx b [.int .u64 ah, .int .u64 al] ∧ Box wx (w.heap.size) [.int .u64 ah, .int .u64 al] ∧ Box wx (w1.heap.size) [.int .u64 qh, .int .u64 ql] ∧ Box wx (w2.heap.size) [.int .u64 qh, .int .u64 ql] ∧ Box wx (w3.heap.size) [.int .u64 ph, .int .u64 pl] ∧ Below w.heap.size w wx)
  case first =>
    go_region_held3 (fun w' => w'.cell? ⟨w3.heap.size, 0, none⟩ = some (.int .u64 ph) ∧ w'.cell? ⟨w3.heap.size, 1, none⟩ = some (.int .u64 pl)) (((repeat' apply And.intro) <;> (first | (go_keep; done) | go_cell)))
      (first
        | (go_at_call 10; refine (of_any _ _).mono ?_; rintro e v1 ⟨rfl, hv1⟩; have hV1 : Below w.heap.size w v1 := below_thru (by go_grown) hv1; have hs_v1 : w.heap.size ≤ v1.heap.size := hV1.size; have x_a_v1 : Box v1 (w.heap.size) [.int .u64 ah, .int .u64 al] := (by refine Box.below ?_ hv1; repeat (first | (with_reducible assumption) | (with_reducible refine Box.drew ?_) | (with_reducible refine Box.drewN ?_ _) | ((with_reducible refine Box.new ?_); simp; done) | (with_reducible apply Box.set2) | (with_reducible refine Box.alloc ?_ _) | (with_reducible refine Box.other ?_ (by first | (dsimp only; omega) | omega) _))); have z_a_v1 := x_a_v1.lt; have c_a_v1_0 := x_a_v1.c 0 _ rfl; have f_a_v1_0 := x_a_v1.f 0 _ rfl; have c_a_v1_1 := x_a_v1.c 1 _ rfl; have f_a_v1_1 := x_a_v1.f 1 _ rfl; have x_q_v1 : Box v1 (w1.heap.size) [.int .u64 qh, .int .u64 ql] := (by refine Box.below ?_ hv1; repeat (first | (with_reducible assumption) | (with_reducible refine Box.drew ?_) | (with_reducible refine Box.drewN ?_ _) | ((with_reducible refine Box.new ?_); simp; done) | (with_reducible apply Box.set2) | (with_reducible refine Box.alloc ?_ _) | (with_reducible refine Box.other ?_ (by first | (dsimp only; omega) | omega) _))); have z_q_v1 := x_q_v1.lt; have c_q_v1_0 := x_q_v1.c 0 _ rfl; have f_q_v1_0 := x_q_v1.f 0 _ rfl; have c_q_v1_1 := x_q_v1.c 1 _ rfl; have f_q_v1_1 := x_q_v1.f 1 _ rfl; have x_u_v1 : Box v1 (w2.heap.size) [.int .u64 qh, .int .u64 ql] := (by refine Box.below ?_ hv1; repeat (first | (with_reducible assumption) | (with_reducible refine Box.drew ?_) | (with_reducible refine Box.drewN ?_ _) | ((with_reducible refine Box.new ?_); simp; done) | (with_reducible apply Box.set2) | (with_reducible refine Box.alloc ?_ _) | (with_reducible refine Box.other ?_ (by first | (dsimp only; omega) | omega) _))); have z_u_v1 := x_u_v1.lt; have c_u_v1_0 := x_u_v1.c 0 _ rfl; have f_u_v1_0 := x_u_v1.f 0 _ rfl; have c_u_v1_1 := x_u_v1.c 1 _ rfl; have f_u_v1_1 := x_u_v1.f 1 _ rfl; have x_p_v1 : Box v1 (w3.heap.size) [.int .u64 ph, .int .u64 pl] := (by refine Box.below ?_ hv1; repeat (first | (with_reducible assumption) | (with_reducible refine Box.drew ?_) | (with_reducible refine Box.drewN ?_ _) | ((with_reducible refine Box.new ?_); simp; done) | (with_reducible apply Box.set2) | (with_reducible refine Box.alloc ?_ _) | (with_reducible refine Box.other ?_ (by first | (dsimp only; omega) | omega) _))); have z_p_v1 := x_p_v1.lt; have c_p_v1_0 := x_p_v1.c 0 _ rfl; have f_p_v1_0 := x_p_v1.f 0 _ rfl; have c_p_v1_1 := x_p_v1.c 1 _ rfl; have f_p_v1_1 := x_p_v1.f 1 _ rfl; (first | (with_reducible have y := Box.below (Box.drew (Box.new rfl)) hv1) | (with_reducible have y := Box.below (Box.new rfl) hv1) | (with_reducible have y := Box.below y hv1) | (have y := trivial)); (try simp only [World.size_alloc] at y); try (have yz := Box.lt y; have y0 := Box.c y 0 _ rfl; have yf0 := Box.f y 0 _ rfl; have y1 := Box.c y 1 _ rfl; have yf1 := Box.f y 1 _ rfl))
        | (go_at_call 9; refine (add_ok _ g3 g4 u0 hr h1 h2 es.out).mono ?_; rintro e v2 ⟨rfl, hv2⟩; have hV2 : Below w.heap.size w v2 := below_thru (by go_grown) hv2; have hs_v2 : w.heap.size ≤ v2.heap.size := hV2.size; have x_a_v2 : Box v2 (w.heap.size) [.int .u64 ah, .int .u64 al] := (by refine Box.below ?_ hv2; repeat (first | (with_reducible assumption) | (with_reducible refine Box.drew ?_) | (with_reducible refine Box.drewN ?_ _) | ((with_reducible refine Box.new ?_); simp; done) | (with_reducible apply Box.set2) | (with_reducible refine Box.alloc ?_ _) | (with_reducible refine Box.other ?_ (by first | (dsimp only; omega) | omega) _))); have z_a_v2 := x_a_v2.lt; have c_a_v2_0 := x_a_v2.c 0 _ rfl; have f_a_v2_0 := x_a_v2.f 0 _ rfl; have c_a_v2_1 := x_a_v2.c 1 _ rfl; have f_a_v2_1 := x_a_v2.f 1 _ rfl; have x_q_v2 : Box v2 (w1.heap.size) [.int .u64 qh, .int .u64 ql] := (by refine Box.below ?_ hv2; repeat (first | (with_reducible assumption) | (with_reducible refine Box.drew ?_) | (with_reducible refine Box.drewN ?_ _) | ((with_reducible refine Box.new ?_); simp; done) | (with_reducible apply Box.set2) | (with_reducible refine Box.alloc ?_ _) | (with_reducible refine Box.other ?_ (by first | (dsimp only; omega) | omega) _))); have z_q_v2 := x_q_v2.lt; have c_q_v2_0 := x_q_v2.c 0 _ rfl; have f_q_v2_0 := x_q_v2.f 0 _ rfl; have c_q_v2_1 := x_q_v2.c 1 _ rfl; have f_q_v2_1 := x_q_v2.f 1 _ rfl; have x_u_v2 : Box v2 (w2.heap.size) [.int .u64 qh, .int .u64 ql] := (by refine Box.below ?_ hv2; repeat (first | (with_reducible assumption) | (with_reducible refine Box.drew ?_) | (with_reducible refine Box.drewN ?_ _) | ((with_reducible refine Box.new ?_); simp; done) | (with_reducible apply Box.set2) | (with_reducible refine Box.alloc ?_ _) | (with_reducible refine Box.other ?_ (by first | (dsimp only; omega) | omega) _))); have z_u_v2 := x_u_v2.lt; have c_u_v2_0 := x_u_v2.c 0 _ rfl; have f_u_v2_0 := x_u_v2.f 0 _ rfl; have c_u_v2_1 := x_u_v2.c 1 _ rfl; have f_u_v2_1 := x_u_v2.f 1 _ rfl; have x_p_v2 : Box v2 (w3.heap.size) [.int .u64 ph, .int .u64 pl] := (by refine Box.below ?_ hv2; repeat (first | (with_reducible assumption) | (with_reducible refine Box.drew ?_) | (with_reducible refine Box.drewN ?_ _) | ((with_reducible refine Box.new ?_); simp; done) | (with_reducible apply Box.set2) | (with_reducible refine Box.alloc ?_ _) | (with_reducible refine Box.other ?_ (by first | (dsimp only; omega) | omega) _))); have z_p_v2 := x_p_v2.lt; have c_p_v2_0 := x_p_v2.c 0 _ rfl; have f_p_v2_0 := x_p_v2.f 0 _ rfl; have c_p_v2_1 := x_p_v2.c 1 _ rfl; have f_p_v2_1 := x_p_v2.f 1 _ rfl; (first | (with_reducible have y := Box.below (Box.drew (Box.new rfl)) hv2) | (with_reducible have y := Box.below (Box.new rfl) hv2) | (with_reducible have y := Box.below y hv2) | (have y := trivial)); (try simp only [World.size_alloc] at y); try (have yz := Box.lt y; have y0 := Box.c y 0 _ rfl; have yf0 := Box.f y 0 _ rfl; have y1 := Box.c y 1 _ rfl; have yf1 := Box.f y 1 _ rfl)))
    all_goals
      go_wp2_with fail
      go_meet
      refine ⟨_, rfl, rfl, ?_, ?_, ?_, ?_, ?_, ?_⟩
      all_goals first
        | ((repeat (first | (with_reducible assumption) | (with_reducible refine Box.drew ?_) | (with_reducible refine Box.drewN ?_ _) | ((with_reducible refine Box.new ?_); simp; done) | (with_reducible apply Box.set2) | (with_reducible refine Box.alloc ?_ _) | (with_reducible refine Box.other ?_ (by first | (dsimp only; omega) | omega) _))); done)
        | (go_grown; done)
  case rest =>
    obtain ⟨b4, rfl, rfl, x_s4, x_a4, x_q4, x_u4, x_p4, hB4⟩ := hcut
    obtain ⟨w4, rfl⟩ : ∃ u : World, u = wc := ⟨_, rfl⟩
    clear hB3 hs3 x_a3 z_a3 c_a3_0 c_a3_1 f_a3_0 f_a3_1 x_q3 z_q3 c_q3_0 c_q3_1 f_q3_0 f_q3_1 x_u3 z_u3 c_u3_0 c_u3_1 f_u3_0 f_u3_1
    have hs4 : w.heap.size ≤ w4.heap.size := hB4.size
    have z_a4 := x_a4.lt
    have c_a4_0 := x_a4.c 0 _ rfl; have f_a4_0 := x_a4.f 0 _ rfl
    have c_a4_1 := x_a4.c 1 _ rfl; have f_a4_1 := x_a4.f 1 _ rfl
    have z_q4 := x_q4.lt
    have c_q4_0 := x_q4.c 0 _ rfl; have f_q4_0 := x_q4.f 0 _ rfl
    have c_q4_1 := x_q4.c 1 _ rfl; have f_q4_1 := x_q4.f 1 _ rfl
    have z_u4 := x_u4.lt
    have c_u4_0 := x_u4.c 0 _ rfl; have f_u4_0 := x_u4.f 0 _ rfl
    have c_u4_1 := x_u4.c 1 _ rfl; have f_u4_1 := x_u4.f 1 _ rfl
    have z_p4 := x_p4.lt
    have c_p4_0 := x_p4.c 0 _ rfl; have f_p4_0 := x_p4.f 0 _ rfl
    have c_p4_1 := x_p4.c 1 _ rfl; have f_p4_1 := x_p4.f 1 _ rfl
    have z_s4 := x_s4.lt
    have c_s4_0 := x_s4.c 0 _ rfl; have f_s4_0 := x_s4.f 0 _ rfl
    have c_s4_1 := x_s4.c 1 _ rfl; have f_s4_1 := x_s4.f 1 _ rfl
    go_wp2_with fail
    refine (alive_any _).mono ?_
    rintro e w5 ⟨rfl, hb⟩
    have hB5 : Below w.heap.size w w5 := below_thru (by go_grown) hb
    have hs5 : w.heap.size ≤ w5.heap.size := hB5.size
    have x_a5 : Box w5 (w.heap.size) [.int .u64 ah, .int .u64 al] := (by refine Box.below ?_ hb; repeat (first | (with_reducible assumption) | (with_reducible refine Box.drew ?_) | (with_reducible refine Box.drewN ?_ _) | ((with_reducible refine Box.new ?_); simp; done) | (with_reducible apply Box.set2) | (with_reducible refine Box.alloc ?_ _) | (with_reducible refine Box.other ?_ (by first | (dsimp only; omega) | omega) _)))
    have z_a5 := x_a5.lt
    have c_a5_0 := x_a5.c 0 _ rfl
    have f_a5_0 := x_a5.f 0 _ rfl
    have c_a5_1 := x_a5.c 1 _ rfl
    have f_a5_1 := x_a5.f 1 _ rfl
    have x_q5 : Box w5 (w1.heap.size) [.int .u64 qh, .int .u64 ql] := (by refine Box.below ?_ hb; repeat (first | (with_reducible assumption) | (with_reducible refine Box.drew ?_) | (with_reducible refine Box.drewN ?_ _) | ((with_reducible refine Box.new ?_); simp; done) | (with_reducible apply Box.set2) | (with_reducible refine Box.alloc ?_ _) | (with_reducible refine Box.other ?_ (by first | (dsimp only; omega) | omega) _)))
    have z_q5 := x_q5.lt
    have c_q5_0 := x_q5.c 0 _ rfl
    have f_q5_0 := x_q5.f 0 _ rfl
    have c_q5_1 := x_q5.c 1 _ rfl
    have f_q5_1 := x_q5.f 1 _ rfl
    have x_u5 : Box w5 (w2.heap.size) [.int .u64 qh, .int .u64 ql] := (by refine Box.below ?_ hb; repeat (first | (with_reducible assumption) | (with_reducible refine Box.drew ?_) | (with_reducible refine Box.drewN ?_ _) | ((with_reducible refine Box.new ?_); simp; done) | (with_reducible apply Box.set2) | (with_reducible refine Box.alloc ?_ _) | (with_reducible refine Box.other ?_ (by first | (dsimp only; omega) | omega) _)))
    have z_u5 := x_u5.lt
    have c_u5_0 := x_u5.c 0 _ rfl
    have f_u5_0 := x_u5.f 0 _ rfl
    have c_u5_1 := x_u5.c 1 _ rfl
    have f_u5_1 := x_u5.f 1 _ rfl
    have x_p5 : Box w5 (w3.heap.size) [.int .u64 ph, .int .u64 pl] := (by refine Box.below ?_ hb; repeat (first | (with_reducible assumption) | (with_reducible refine Box.drew ?_) | (with_reducible refine Box.drewN ?_ _) | ((with_reducible refine Box.new ?_); simp; done) | (with_reducible apply Box.set2) | (with_reducible refine Box.alloc ?_ _) | (with_reducible refine Box.other ?_ (by first | (dsimp only; omega) | omega) _)))
    have z_p5 := x_p5.lt
    have c_p5_0 := x_p5.c 0 _ rfl
    have f_p5_0 := x_p5.f 0 _ rfl
    have c_p5_1 := x_p5.c 1 _ rfl
    have f_p5_1 := x_p5.f 1 _ rfl
    have x_s5 : Box w5 (b4) [.int .u64 ah, .int .u64 al] := (by refine Box.below ?_ hb; repeat (first | (with_reducible assumption) | (with_reducible refine Box.drew ?_) | (with_reducible refine Box.drewN ?_ _) | ((with_reducible refine Box.new ?_); simp; done) | (with_reducible apply Box.set2) | (with_reducible refine Box.alloc ?_ _) | (with_reducible refine Box.other ?_ (by first | (dsimp only; omega) | omega) _)))
    have z_s5 := x_s5.lt
    have c_s5_0 := x_s5.c 0 _ rfl
    have f_s5_0 := x_s5.f 0 _ rfl
    have c_s5_1 := x_s5.c 1 _ rfl
    have f_s5_1 := x_s5.f 1 _ rfl
    clear hb hB4 hs4 x_a4 z_a4 c_a4_0 c_a4_1 f_a4_0 f_a4_1 x_q4 z_q4 c_q4_0 c_q4_1 f_q4_0 f_q4_1 x_u4 z_u4 c_u4_0 c_u4_1 f_u4_0 f_u4_1 x_p4 z_p4 c_p4_0 c_p4_1 f_p4_0 f_p4_1 x_s4 z_s4 c_s4_0 c_s4_1 f_s4_0 f_s4_1
    go_wp2
    go_returns
    refine ⟨rfl, ?_⟩
    go_grown

set_option maxRecDepth 100000 in
set_option maxHeartbeats 3200000 in
theorem back_odd (ah al d qh ql ph pl r uh ul : Int) (w : World) (h1 : isU ah) (h2 : isU al) (h3 : isU d) (hd : d ≠ 0) (g1 : isU qh) (g2 : isU ql) (g3 : isU ph) (g4 : isU pl)
    (eq : Hid (wN ah al / d = wN qh ql)) (er : Hid (wN ah al % d = r)) (ep : Hid (wN qh ql * d = wN ph pl)) (es : Hid (wN ph pl + wN 0 r = wN ah al)) (hr : isU r)
    (g5 : isU uh) (g6 : isU ul) (eu : Hid (upV (wN ah al) d = wN uh ul)) (ew : Hid (wN qh ql + wN 0 1 = wN uh ul)) (hr0 : r ≠ 0) (hrd : r < d) : backCall ah al d w := by
  have hd0 : (d == 0) = false := beq_eq_false_iff_ne.2 hd
  have hr1 : (r == 0) = false := beq_eq_false_iff_ne.2 hr0
  have hd1 : decide (r ≥ d) = false := by simp; omega
  unfold backCall
  go_enter Try.func6, Try.ntmps6
  go_wp2_with fail
  refine (div_ok _ h1 h2 h3 hd g2 eq.out er.out).mono ?_
  rintro e w1 ⟨rfl, hb⟩
  have hB1 : Below w.heap.size w w1 := below_thru (by go_grown) hb
  have hs1 : w.heap.size ≤ w1.heap.size := hB1.size
  have x_a1 : Box w1 (w.heap.size) [.int .u64 ah, .int .u64 al] := (by refine Box.below ?_ hb; repeat (first | (with_reducible assumption) | (with_reducible refine Box.drew ?_) | (with_reducible refine Box.drewN ?_ _) | ((with_reducible refine Box.new ?_); simp; done) | (with_reducible apply Box.set2) | (with_reducible refine Box.alloc ?_ _) | (with_reducible refine Box.other ?_ (by first | (dsimp only; omega) | omega) _)))
  have z_a1 := x_a1.lt
  have c_a1_0 := x_a1.c 0 _ rfl
  have f_a1_0 := x_a1.f 0 _ rfl
  have c_a1_1 := x_a1.c 1 _ rfl
  have f_a1_1 := x_a1.f 1 _ rfl
  clear hb
  go_wp2_with fail
  refine (up_ok _ h1 h2 h3 hd g6 eu.out).mono ?_
  rintro e w2 ⟨rfl, hb⟩
  have hB2 : Below w.heap.size w w2 := below_thru (by go_grown) hb
  have hs2 : w.heap.size ≤ w2.heap.size := hB2.size
  have x_a2 : Box w2 (w.heap.size) [.int .u64 ah, .int .u64 al] := (by refine Box.below ?_ hb; repeat (first | (with_reducible assumption) | (with_reducible refine Box.drew ?_) | (with_reducible refine Box.drewN ?_ _) | ((with_reducible refine Box.new ?_); simp; done) | (with_reducible apply Box.set2) | (with_reducible refine Box.alloc ?_ _) | (with_reducible refine Box.other ?_ (by first | (dsimp only; omega) | omega) _)))
  have z_a2 := x_a2.lt
  have c_a2_0 := x_a2.c 0 _ rfl
  have f_a2_0 := x_a2.f 0 _ rfl
  have c_a2_1 := x_a2.c 1 _ rfl
  have f_a2_1 := x_a2.f 1 _ rfl
  have x_q2 : Box w2 (w1.heap.size) [.int .u64 qh, .int .u64 ql] := (by refine Box.below ?_ hb; repeat (first | (with_reducible assumption) | (with_reducible refine Box.drew ?_) | (with_reducible refine Box.drewN ?_ _) | ((with_reducible refine Box.new ?_); simp; done) | (with_reducible apply Box.set2) | (with_reducible refine Box.alloc ?_ _) | (with_reducible refine Box.other ?_ (by first | (dsimp only; omega) | omega) _)))
  have z_q2 := x_q2.lt
  have c_q2_0 := x_q2.c 0 _ rfl
  have f_q2_0 := x_q2.f 0 _ rfl
  have c_q2_1 := x_q2.c 1 _ rfl
  have f_q2_1 := x_q2.f 1 _ rfl
  clear hb hB1 hs1 x_a1 z_a1 c_a1_0 c_a1_1 f_a1_0 f_a1_1
  go_wp2_with fail
  refine (times_ok _ g1 g2 h3 g3 g4 ep.out).mono ?_
  rintro e w3 ⟨rfl, hb⟩
  have hB3 : Below w.heap.size w w3 := below_thru (by go_grown) hb
  have hs3 : w.heap.size ≤ w3.heap.size := hB3.size
  have x_a3 : Box w3 (w.heap.size) [.int .u64 ah, .int .u64 al] := (by refine Box.below ?_ hb; repeat (first | (with_reducible assumption) | (with_reducible refine Box.drew ?_) | (with_reducible refine Box.drewN ?_ _) | ((with_reducible refine Box.new ?_); simp; done) | (with_reducible apply Box.set2) | (with_reducible refine Box.alloc ?_ _) | (with_reducible refine Box.other ?_ (by first | (dsimp only; omega) | omega) _)))
  have z_a3 := x_a3.lt
  have c_a3_0 := x_a3.c 0 _ rfl
  have f_a3_0 := x_a3.f 0 _ rfl
  have c_a3_1 := x_a3.c 1 _ rfl
  have f_a3_1 := x_a3.f 1 _ rfl
  have x_q3 : Box w3 (w1.heap.size) [.int .u64 qh, .int .u64 ql] := (by refine Box.below ?_ hb; repeat (first | (with_reducible assumption) | (with_reducible refine Box.drew ?_) | (with_reducible refine Box.drewN ?_ _) | ((with_reducible refine Box.new ?_); simp; done) | (with_reducible apply Box.set2) | (with_reducible refine Box.alloc ?_ _) | (with_reducible refine Box.other ?_ (by first | (dsimp only; omega) | omega) _)))
  have z_q3 := x_q3.lt
  have c_q3_0 := x_q3.c 0 _ rfl
  have f_q3_0 := x_q3.f 0 _ rfl
  have c_q3_1 := x_q3.c 1 _ rfl
  have f_q3_1 := x_q3.f 1 _ rfl
  have x_u3 : Box w3 (w2.heap.size) [.int .u64 uh, .int .u64 ul] := (by refine Box.below ?_ hb; repeat (first | (with_reducible assumption) | (with_reducible refine Box.drew ?_) | (with_reducible refine Box.drewN ?_ _) | ((with_reducible refine Box.new ?_); simp; done) | (with_reducible apply Box.set2) | (with_reducible refine Box.alloc ?_ _) | (with_reducible refine Box.other ?_ (by first | (dsimp only; omega) | omega) _)))
  have z_u3 := x_u3.lt
  have c_u3_0 := x_u3.c 0 _ rfl
  have f_u3_0 := x_u3.f 0 _ rfl
  have c_u3_1 := x_u3.c 1 _ rfl
  have f_u3_1 := x_u3.f 1 _ rfl
  clear hb hB2 hs2 x_a2 z_a2 c_a2_0 c_a2_1 f_a2_0 f_a2_1 x_q2 z_q2 c_q2_0 c_q2_1 f_q2_0 f_q2_1
  go_upto_region 6 with fail
  go_cut [12, 13] (fun p q0 wx => ∃ b : Nat, p = .pointer (some ⟨b, 0, none⟩) ∧ q0 = .int .i64 0 ∧ Box wx b [.int .u64 ah, .int .u64 al] ∧ Box wx (w.heap.size) [.int .u64 ah, .int .u64 al] ∧ Box wx (w1.heap.size) [.int .u64 qh, .int .u64 ql] ∧ Box wx (w2.heap.size) [.int .u64 uh, .int .u64 ul] ∧ Box wx (w3.heap.size) [.int .u64 ph, .int .u64 pl] ∧ Below w.heap.size w wx)
  case first =>
    go_region_held3 (fun w' => w'.cell? ⟨w3.heap.size, 0, none⟩ = some (.int .u64 ph) ∧ w'.cell? ⟨w3.heap.size, 1, none⟩ = some (.int .u64 pl)) (((repeat' apply And.intro) <;> (first | (go_keep; done) | go_cell)))
      (first
        | (go_at_call 10; refine (of_any _ _).mono ?_; rintro e v1 ⟨rfl, hv1⟩; have hV1 : Below w.heap.size w v1 := below_thru (by go_grown) hv1; have hs_v1 : w.heap.size ≤ v1.heap.size := hV1.size; have x_a_v1 : Box v1 (w.heap.size) [.int .u64 ah, .int .u64 al] := (by refine Box.below ?_ hv1; repeat (first | (with_reducible assumption) | (with_reducible refine Box.drew ?_) | (with_reducible refine Box.drewN ?_ _) | ((with_reducible refine Box.new ?_); simp; done) | (with_reducible apply Box.set2) | (with_reducible refine Box.alloc ?_ _) | (with_reducible refine Box.other ?_ (by first | (dsimp only; omega) | omega) _))); have z_a_v1 := x_a_v1.lt; have c_a_v1_0 := x_a_v1.c 0 _ rfl; have f_a_v1_0 := x_a_v1.f 0 _ rfl; have c_a_v1_1 := x_a_v1.c 1 _ rfl; have f_a_v1_1 := x_a_v1.f 1 _ rfl; have x_q_v1 : Box v1 (w1.heap.size) [.int .u64 qh, .int .u64 ql] := (by refine Box.below ?_ hv1; repeat (first | (with_reducible assumption) | (with_reducible refine Box.drew ?_) | (with_reducible refine Box.drewN ?_ _) | ((with_reducible refine Box.new ?_); simp; done) | (with_reducible apply Box.set2) | (with_reducible refine Box.alloc ?_ _) | (with_reducible refine Box.other ?_ (by first | (dsimp only; omega) | omega) _))); have z_q_v1 := x_q_v1.lt; have c_q_v1_0 := x_q_v1.c 0 _ rfl; have f_q_v1_0 := x_q_v1.f 0 _ rfl; have c_q_v1_1 := x_q_v1.c 1 _ rfl; have f_q_v1_1 := x_q_v1.f 1 _ rfl; have x_u_v1 : Box v1 (w2.heap.size) [.int .u64 uh, .int .u64 ul] := (by refine Box.below ?_ hv1; repeat (first | (with_reducible assumption) | (with_reducible refine Box.drew ?_) | (with_reducible refine Box.drewN ?_ _) | ((with_reducible refine Box.new ?_); simp; done) | (with_reducible apply Box.set2) | (with_reducible refine Box.alloc ?_ _) | (with_reducible refine Box.other ?_ (by first | (dsimp only; omega) | omega) _))); have z_u_v1 := x_u_v1.lt; have c_u_v1_0 := x_u_v1.c 0 _ rfl; have f_u_v1_0 := x_u_v1.f 0 _ rfl; have c_u_v1_1 := x_u_v1.c 1 _ rfl; have f_u_v1_1 := x_u_v1.f 1 _ rfl; have x_p_v1 : Box v1 (w3.heap.size) [.int .u64 ph, .int .u64 pl] := (by refine Box.below ?_ hv1; repeat (first | (with_reducible assumption) | (with_reducible refine Box.drew ?_) | (with_reducible refine Box.drewN ?_ _) | ((with_reducible refine Box.new ?_); simp; done) | (with_reducible apply Box.set2) | (with_reducible refine Box.alloc ?_ _) | (with_reducible refine Box.other ?_ (by first | (dsimp only; omega) | omega) _))); have z_p_v1 := x_p_v1.lt; have c_p_v1_0 := x_p_v1.c 0 _ rfl; have f_p_v1_0 := x_p_v1.f 0 _ rfl; have c_p_v1_1 := x_p_v1.c 1 _ rfl; have f_p_v1_1 := x_p_v1.f 1 _ rfl; (first | (with_reducible have y := Box.below (Box.drew (Box.new rfl)) hv1) | (with_reducible have y := Box.below (Box.new rfl) hv1) | (with_reducible have y := Box.below y hv1) | (have y := trivial)); (try simp only [World.size_alloc] at y); try (have yz := Box.lt y; have y0 := Box.c y 0 _ rfl; have yf0 := Box.f y 0 _ rfl; have y1 := Box.c y 1 _ rfl; have yf1 := Box.f y 1 _ rfl))
        | (go_at_call 9; refine (add_ok _ g3 g4 u0 hr h1 h2 es.out).mono ?_; rintro e v2 ⟨rfl, hv2⟩; have hV2 : Below w.heap.size w v2 := below_thru (by go_grown) hv2; have hs_v2 : w.heap.size ≤ v2.heap.size := hV2.size; have x_a_v2 : Box v2 (w.heap.size) [.int .u64 ah, .int .u64 al] := (by refine Box.below ?_ hv2; repeat (first | (with_reducible assumption) | (with_reducible refine Box.drew ?_) | (with_reducible refine Box.drewN ?_ _) | ((with_reducible refine Box.new ?_); simp; done) | (with_reducible apply Box.set2) | (with_reducible refine Box.alloc ?_ _) | (with_reducible refine Box.other ?_ (by first | (dsimp only; omega) | omega) _))); have z_a_v2 := x_a_v2.lt; have c_a_v2_0 := x_a_v2.c 0 _ rfl; have f_a_v2_0 := x_a_v2.f 0 _ rfl; have c_a_v2_1 := x_a_v2.c 1 _ rfl; have f_a_v2_1 := x_a_v2.f 1 _ rfl; have x_q_v2 : Box v2 (w1.heap.size) [.int .u64 qh, .int .u64 ql] := (by refine Box.below ?_ hv2; repeat (first | (with_reducible assumption) | (with_reducible refine Box.drew ?_) | (with_reducible refine Box.drewN ?_ _) | ((with_reducible refine Box.new ?_); simp; done) | (with_reducible apply Box.set2) | (with_reducible refine Box.alloc ?_ _) | (with_reducible refine Box.other ?_ (by first | (dsimp only; omega) | omega) _))); have z_q_v2 := x_q_v2.lt; have c_q_v2_0 := x_q_v2.c 0 _ rfl; have f_q_v2_0 := x_q_v2.f 0 _ rfl; have c_q_v2_1 := x_q_v2.c 1 _ rfl; have f_q_v2_1 := x_q_v2.f 1 _ rfl; have x_u_v2 : Box v2 (w2.heap.size) [.int .u64 uh, .int .u64 ul] := (by refine Box.below ?_ hv2; repeat (first | (with_reducible assumption) | (with_reducible refine Box.drew ?_) | (with_reducible refine Box.drewN ?_ _) | ((with_reducible refine Box.new ?_); simp; done) | (with_reducible apply Box.set2) | (with_reducible refine Box.alloc ?_ _) | (with_reducible refine Box.other ?_ (by first | (dsimp only; omega) | omega) _))); have z_u_v2 := x_u_v2.lt; have c_u_v2_0 := x_u_v2.c 0 _ rfl; have f_u_v2_0 := x_u_v2.f 0 _ rfl; have c_u_v2_1 := x_u_v2.c 1 _ rfl; have f_u_v2_1 := x_u_v2.f 1 _ rfl; have x_p_v2 : Box v2 (w3.heap.size) [.int .u64 ph, .int .u64 pl] := (by refine Box.below ?_ hv2; repeat (first | (with_reducible assumption) | (with_reducible refine Box.drew ?_) | (with_reducible refine Box.drewN ?_ _) | ((with_reducible refine Box.new ?_); simp; done) | (with_reducible apply Box.set2) | (with_reducible refine Box.alloc ?_ _) | (with_reducible refine Box.other ?_ (by first | (dsimp only; omega) | omega) _))); have z_p_v2 := x_p_v2.lt; have c_p_v2_0 := x_p_v2.c 0 _ rfl; have f_p_v2_0 := x_p_v2.f 0 _ rfl; have c_p_v2_1 := x_p_v2.c 1 _ rfl; have f_p_v2_1 := x_p_v2.f 1 _ rfl; (first | (with_reducible have y := Box.below (Box.drew (Box.new rfl)) hv2) | (with_reducible have y := Box.below (Box.new rfl) hv2) | (with_reducible have y := Box.below y hv2) | (have y := trivial)); (try simp only [World.size_alloc] at y); try (have yz := Box.lt y; have y0 := Box.c y 0 _ rfl; have yf0 := Box.f y 0 _ rfl; have y1 := Box.c y 1 _ rfl; have yf1 := Box.f y 1 _ rfl)))
    all_goals
      go_wp2_with fail
      go_meet
      refine ⟨_, rfl, rfl, ?_, ?_, ?_, ?_, ?_, ?_⟩
      all_goals first
        | ((repeat (first | (with_reducible assumption) | (with_reducible refine Box.drew ?_) | (with_reducible refine Box.drewN ?_ _) | ((with_reducible refine Box.new ?_); simp; done) | (with_reducible apply Box.set2) | (with_reducible refine Box.alloc ?_ _) | (with_reducible refine Box.other ?_ (by first | (dsimp only; omega) | omega) _))); done)
        | (go_grown; done)
  case rest =>
    obtain ⟨b4, rfl, rfl, x_s4, x_a4, x_q4, x_u4, x_p4, hB4⟩ := hcut
    obtain ⟨w4, rfl⟩ : ∃ u : World, u = wc := ⟨_, rfl⟩
    clear hB3 hs3 x_a3 z_a3 c_a3_0 c_a3_1 f_a3_0 f_a3_1 x_q3 z_q3 c_q3_0 c_q3_1 f_q3_0 f_q3_1 x_u3 z_u3 c_u3_0 c_u3_1 f_u3_0 f_u3_1
    have hs4 : w.heap.size ≤ w4.heap.size := hB4.size
    have z_a4 := x_a4.lt
    have c_a4_0 := x_a4.c 0 _ rfl; have f_a4_0 := x_a4.f 0 _ rfl
    have c_a4_1 := x_a4.c 1 _ rfl; have f_a4_1 := x_a4.f 1 _ rfl
    have z_q4 := x_q4.lt
    have c_q4_0 := x_q4.c 0 _ rfl; have f_q4_0 := x_q4.f 0 _ rfl
    have c_q4_1 := x_q4.c 1 _ rfl; have f_q4_1 := x_q4.f 1 _ rfl
    have z_u4 := x_u4.lt
    have c_u4_0 := x_u4.c 0 _ rfl; have f_u4_0 := x_u4.f 0 _ rfl
    have c_u4_1 := x_u4.c 1 _ rfl; have f_u4_1 := x_u4.f 1 _ rfl
    have z_p4 := x_p4.lt
    have c_p4_0 := x_p4.c 0 _ rfl; have f_p4_0 := x_p4.f 0 _ rfl
    have c_p4_1 := x_p4.c 1 _ rfl; have f_p4_1 := x_p4.f 1 _ rfl
    have z_s4 := x_s4.lt
    have c_s4_0 := x_s4.c 0 _ rfl; have f_s4_0 := x_s4.f 0 _ rfl
    have c_s4_1 := x_s4.c 1 _ rfl; have f_s4_1 := x_s4.f 1 _ rfl
    go_upto_region 11 with fail
    go_cut [14, 15] (fun p q0 wx => ∃ b : Nat, p = .pointer (some ⟨b, 0, none⟩) ∧ q0 = .int .i64 0 ∧ Box wx b [.int .u64 uh, .int .u64 ul] ∧ Box wx (w.heap.size) [.int .u64 ah, .int .u64 al] ∧ Box wx (w1.heap.size) [.int .u64 qh, .int .u64 ql] ∧ Box wx (w2.heap.size) [.int .u64 uh, .int .u64 ul] ∧ Box wx (w3.heap.size) [.int .u64 ph, .int .u64 pl] ∧ Box wx (b4) [.int .u64 ah, .int .u64 al] ∧ Below w.heap.size w wx)
    case first =>
      go_region_held3 (fun w' => w'.cell? ⟨w1.heap.size, 0, none⟩ = some (.int .u64 qh) ∧ w'.cell? ⟨w1.heap.size, 1, none⟩ = some (.int .u64 ql)) (((repeat' apply And.intro) <;> (first | (go_keep; done) | go_cell)))
        (first
          | (go_at_call 10; refine (of_any _ _).mono ?_; rintro e v1 ⟨rfl, hv1⟩; have hV1 : Below w.heap.size w v1 := below_thru (by go_grown) hv1; have hs_v1 : w.heap.size ≤ v1.heap.size := hV1.size; have x_a_v1 : Box v1 (w.heap.size) [.int .u64 ah, .int .u64 al] := (by refine Box.below ?_ hv1; repeat (first | (with_reducible assumption) | (with_reducible refine Box.drew ?_) | (with_reducible refine Box.drewN ?_ _) | ((with_reducible refine Box.new ?_); simp; done) | (with_reducible apply Box.set2) | (with_reducible refine Box.alloc ?_ _) | (with_reducible refine Box.other ?_ (by first | (dsimp only; omega) | omega) _))); have z_a_v1 := x_a_v1.lt; have c_a_v1_0 := x_a_v1.c 0 _ rfl; have f_a_v1_0 := x_a_v1.f 0 _ rfl; have c_a_v1_1 := x_a_v1.c 1 _ rfl; have f_a_v1_1 := x_a_v1.f 1 _ rfl; have x_q_v1 : Box v1 (w1.heap.size) [.int .u64 qh, .int .u64 ql] := (by refine Box.below ?_ hv1; repeat (first | (with_reducible assumption) | (with_reducible refine Box.drew ?_) | (with_reducible refine Box.drewN ?_ _) | ((with_reducible refine Box.new ?_); simp; done) | (with_reducible apply Box.set2) | (with_reducible refine Box.alloc ?_ _) | (with_reducible refine Box.other ?_ (by first | (dsimp only; omega) | omega) _))); have z_q_v1 := x_q_v1.lt; have c_q_v1_0 := x_q_v1.c 0 _ rfl; have f_q_v1_0 := x_q_v1.f 0 _ rfl; have c_q_v1_1 := x_q_v1.c 1 _ rfl; have f_q_v1_1 := x_q_v1.f 1 _ rfl; have x_u_v1 : Box v1 (w2.heap.size) [.int .u64 uh, .int .u64 ul] := (by refine Box.below ?_ hv1; repeat (first | (with_reducible assumption) | (with_reducible refine Box.drew ?_) | (with_reducible refine Box.drewN ?_ _) | ((with_reducible refine Box.new ?_); simp; done) | (with_reducible apply Box.set2) | (with_reducible refine Box.alloc ?_ _) | (with_reducible refine Box.other ?_ (by first | (dsimp only; omega) | omega) _))); have z_u_v1 := x_u_v1.lt; have c_u_v1_0 := x_u_v1.c 0 _ rfl; have f_u_v1_0 := x_u_v1.f 0 _ rfl; have c_u_v1_1 := x_u_v1.c 1 _ rfl; have f_u_v1_1 := x_u_v1.f 1 _ rfl; have x_p_v1 : Box v1 (w3.heap.size) [.int .u64 ph, .int .u64 pl] := (by refine Box.below ?_ hv1; repeat (first | (with_reducible assumption) | (with_reducible refine Box.drew ?_) | (with_reducible refine Box.drewN ?_ _) | ((with_reducible refine Box.new ?_); simp; done) | (with_reducible apply Box.set2) | (with_reducible refine Box.alloc ?_ _) | (with_reducible refine Box.other ?_ (by first | (dsimp only; omega) | omega) _))); have z_p_v1 := x_p_v1.lt; have c_p_v1_0 := x_p_v1.c 0 _ rfl; have f_p_v1_0 := x_p_v1.f 0 _ rfl; have c_p_v1_1 := x_p_v1.c 1 _ rfl; have f_p_v1_1 := x_p_v1.f 1 _ rfl; have x_s_v1 : Box v1 (b4) [.int .u64 ah, .int .u64 al] := (by refine Box.below ?_ hv1; repeat (first | (with_reducible assumption) | (with_reducible refine Box.drew ?_) | (with_reducible refine Box.drewN ?_ _) | ((with_reducible refine Box.new ?_); simp; done) | (with_reducible apply Box.set2) | (with_reducible refine Box.alloc ?_ _) | (with_reducible refine Box.other ?_ (by first | (dsimp only; omega) | omega) _))); have z_s_v1 := x_s_v1.lt; have c_s_v1_0 := x_s_v1.c 0 _ rfl; have f_s_v1_0 := x_s_v1.f 0 _ rfl; have c_s_v1_1 := x_s_v1.c 1 _ rfl; have f_s_v1_1 := x_s_v1.f 1 _ rfl; (first | (with_reducible have y := Box.below (Box.drew (Box.new rfl)) hv1) | (with_reducible have y := Box.below (Box.new rfl) hv1) | (with_reducible have y := Box.below y hv1) | (have y := trivial)); (try simp only [World.size_alloc] at y); try (have yz := Box.lt y; have y0 := Box.c y 0 _ rfl; have yf0 := Box.f y 0 _ rfl; have y1 := Box.c y 1 _ rfl; have yf1 := Box.f y 1 _ rfl))
          | (go_at_call 9; refine (add_ok _ g1 g2 u0 u1 g5 g6 ew.out).mono ?_; rintro e v2 ⟨rfl, hv2⟩; have hV2 : Below w.heap.size w v2 := below_thru (by go_grown) hv2; have hs_v2 : w.heap.size ≤ v2.heap.size := hV2.size; have x_a_v2 : Box v2 (w.heap.size) [.int .u64 ah, .int .u64 al] := (by refine Box.below ?_ hv2; repeat (first | (with_reducible assumption) | (with_reducible refine Box.drew ?_) | (with_reducible refine Box.drewN ?_ _) | ((with_reducible refine Box.new ?_); simp; done) | (with_reducible apply Box.set2) | (with_reducible refine Box.alloc ?_ _) | (with_reducible refine Box.other ?_ (by first | (dsimp only; omega) | omega) _))); have z_a_v2 := x_a_v2.lt; have c_a_v2_0 := x_a_v2.c 0 _ rfl; have f_a_v2_0 := x_a_v2.f 0 _ rfl; have c_a_v2_1 := x_a_v2.c 1 _ rfl; have f_a_v2_1 := x_a_v2.f 1 _ rfl; have x_q_v2 : Box v2 (w1.heap.size) [.int .u64 qh, .int .u64 ql] := (by refine Box.below ?_ hv2; repeat (first | (with_reducible assumption) | (with_reducible refine Box.drew ?_) | (with_reducible refine Box.drewN ?_ _) | ((with_reducible refine Box.new ?_); simp; done) | (with_reducible apply Box.set2) | (with_reducible refine Box.alloc ?_ _) | (with_reducible refine Box.other ?_ (by first | (dsimp only; omega) | omega) _))); have z_q_v2 := x_q_v2.lt; have c_q_v2_0 := x_q_v2.c 0 _ rfl; have f_q_v2_0 := x_q_v2.f 0 _ rfl; have c_q_v2_1 := x_q_v2.c 1 _ rfl; have f_q_v2_1 := x_q_v2.f 1 _ rfl; have x_u_v2 : Box v2 (w2.heap.size) [.int .u64 uh, .int .u64 ul] := (by refine Box.below ?_ hv2; repeat (first | (with_reducible assumption) | (with_reducible refine Box.drew ?_) | (with_reducible refine Box.drewN ?_ _) | ((with_reducible refine Box.new ?_); simp; done) | (with_reducible apply Box.set2) | (with_reducible refine Box.alloc ?_ _) | (with_reducible refine Box.other ?_ (by first | (dsimp only; omega) | omega) _))); have z_u_v2 := x_u_v2.lt; have c_u_v2_0 := x_u_v2.c 0 _ rfl; have f_u_v2_0 := x_u_v2.f 0 _ rfl; have c_u_v2_1 := x_u_v2.c 1 _ rfl; have f_u_v2_1 := x_u_v2.f 1 _ rfl; have x_p_v2 : Box v2 (w3.heap.size) [.int .u64 ph, .int .u64 pl] := (by refine Box.below ?_ hv2; repeat (first | (with_reducible assumption) | (with_reducible refine Box.drew ?_) | (with_reducible refine Box.drewN ?_ _) | ((with_reducible refine Box.new ?_); simp; done) | (with_reducible apply Box.set2) | (with_reducible refine Box.alloc ?_ _) | (with_reducible refine Box.other ?_ (by first | (dsimp only; omega) | omega) _))); have z_p_v2 := x_p_v2.lt; have c_p_v2_0 := x_p_v2.c 0 _ rfl; have f_p_v2_0 := x_p_v2.f 0 _ rfl; have c_p_v2_1 := x_p_v2.c 1 _ rfl; have f_p_v2_1 := x_p_v2.f 1 _ rfl; have x_s_v2 : Box v2 (b4) [.int .u64 ah, .int .u64 al] := (by refine Box.below ?_ hv2; repeat (first | (with_reducible assumption) | (with_reducible refine Box.drew ?_) | (with_reducible refine Box.drewN ?_ _) | ((with_reducible refine Box.new ?_); simp; done) | (with_reducible apply Box.set2) | (with_reducible refine Box.alloc ?_ _) | (with_reducible refine Box.other ?_ (by first | (dsimp only; omega) | omega) _))); have z_s_v2 := x_s_v2.lt; have c_s_v2_0 := x_s_v2.c 0 _ rfl; have f_s_v2_0 := x_s_v2.f 0 _ rfl; have c_s_v2_1 := x_s_v2.c 1 _ rfl; have f_s_v2_1 := x_s_v2.f 1 _ rfl; (first | (with_reducible have y := Box.below (Box.drew (Box.new rfl)) hv2) | (with_reducible have y := Box.below (Box.new rfl) hv2) | (with_reducible have y := Box.below y hv2) | (have y := trivial)); (try simp only [World.size_alloc] at y); try (have yz := Box.lt y; have y0 := Box.c y 0 _ rfl; have yf0 := Box.f y 0 _ rfl; have y1 := Box.c y 1 _ rfl; have yf1 := Box.f y 1 _ rfl)))
      all_goals
        go_wp2_with fail
        go_meet
        refine ⟨_, rfl, rfl, ?_, ?_, ?_, ?_, ?_, ?_, ?_⟩
        all_goals first
          | ((repeat (first | (with_reducible assumption) | (with_reducible refine Box.drew ?_) | (with_reducible refine Box.drewN ?_ _) | ((with_reducible refine Box.new ?_); simp; done) | (with_reducible apply Box.set2) | (with_reducible refine Box.alloc ?_ _) | (with_reducible refine Box.other ?_ (by first | (dsimp only; omega) | omega) _))); done)
          | (go_grown; done)
    case rest =>
      obtain ⟨b5, rfl, rfl, x_m5, x_a5, x_q5, x_u5, x_p5, x_s5, hB5⟩ := hcut
      obtain ⟨w5, rfl⟩ : ∃ u : World, u = wc := ⟨_, rfl⟩
      clear hB4 hs4 x_a4 z_a4 c_a4_0 c_a4_1 f_a4_0 f_a4_1 x_q4 z_q4 c_q4_0 c_q4_1 f_q4_0 f_q4_1 x_u4 z_u4 c_u4_0 c_u4_1 f_u4_0 f_u4_1 x_p4 z_p4 c_p4_0 c_p4_1 f_p4_0 f_p4_1 x_s4 z_s4 c_s4_0 c_s4_1 f_s4_0 f_s4_1
      have hs5 : w.heap.size ≤ w5.heap.size := hB5.size
      have z_a5 := x_a5.lt
      have c_a5_0 := x_a5.c 0 _ rfl; have f_a5_0 := x_a5.f 0 _ rfl
      have c_a5_1 := x_a5.c 1 _ rfl; have f_a5_1 := x_a5.f 1 _ rfl
      have z_q5 := x_q5.lt
      have c_q5_0 := x_q5.c 0 _ rfl; have f_q5_0 := x_q5.f 0 _ rfl
      have c_q5_1 := x_q5.c 1 _ rfl; have f_q5_1 := x_q5.f 1 _ rfl
      have z_u5 := x_u5.lt
      have c_u5_0 := x_u5.c 0 _ rfl; have f_u5_0 := x_u5.f 0 _ rfl
      have c_u5_1 := x_u5.c 1 _ rfl; have f_u5_1 := x_u5.f 1 _ rfl
      have z_p5 := x_p5.lt
      have c_p5_0 := x_p5.c 0 _ rfl; have f_p5_0 := x_p5.f 0 _ rfl
      have c_p5_1 := x_p5.c 1 _ rfl; have f_p5_1 := x_p5.f 1 _ rfl
      have z_s5 := x_s5.lt
      have c_s5_0 := x_s5.c 0 _ rfl; have f_s5_0 := x_s5.f 0 _ rfl
      have c_s5_1 := x_s5.c 1 _ rfl; have f_s5_1 := x_s5.f 1 _ rfl
      have z_m5 := x_m5.lt
      have c_m5_0 := x_m5.c 0 _ rfl; have f_m5_0 := x_m5.f 0 _ rfl
      have c_m5_1 := x_m5.c 1 _ rfl; have f_m5_1 := x_m5.f 1 _ rfl
      go_wp2_with fail
      refine (alive_any _).mono ?_
      rintro e w6 ⟨rfl, hb⟩
      have hB6 : Below w.heap.size w w6 := below_thru (by go_grown) hb
      have hs6 : w.heap.size ≤ w6.heap.size := hB6.size
      have x_a6 : Box w6 (w.heap.size) [.int .u64 ah, .int .u64 al] := (by refine Box.below ?_ hb; repeat (first | (with_reducible assumption) | (with_reducible refine Box.drew ?_) | (with_reducible refine Box.drewN ?_ _) | ((with_reducible refine Box.new ?_); simp; done) | (with_reducible apply Box.set2) | (with_reducible refine Box.alloc ?_ _) | (with_reducible refine Box.other ?_ (by first | (dsimp only; omega) | omega) _)))
      have z_a6 := x_a6.lt
      have c_a6_0 := x_a6.c 0 _ rfl
      have f_a6_0 := x_a6.f 0 _ rfl
      have c_a6_1 := x_a6.c 1 _ rfl
      have f_a6_1 := x_a6.f 1 _ rfl
      have x_q6 : Box w6 (w1.heap.size) [.int .u64 qh, .int .u64 ql] := (by refine Box.below ?_ hb; repeat (first | (with_reducible assumption) | (with_reducible refine Box.drew ?_) | (with_reducible refine Box.drewN ?_ _) | ((with_reducible refine Box.new ?_); simp; done) | (with_reducible apply Box.set2) | (with_reducible refine Box.alloc ?_ _) | (with_reducible refine Box.other ?_ (by first | (dsimp only; omega) | omega) _)))
      have z_q6 := x_q6.lt
      have c_q6_0 := x_q6.c 0 _ rfl
      have f_q6_0 := x_q6.f 0 _ rfl
      have c_q6_1 := x_q6.c 1 _ rfl
      have f_q6_1 := x_q6.f 1 _ rfl
      have x_u6 : Box w6 (w2.heap.size) [.int .u64 uh, .int .u64 ul] := (by refine Box.below ?_ hb; repeat (first | (with_reducible assumption) | (with_reducible refine Box.drew ?_) | (with_reducible refine Box.drewN ?_ _) | ((with_reducible refine Box.new ?_); simp; done) | (with_reducible apply Box.set2) | (with_reducible refine Box.alloc ?_ _) | (with_reducible refine Box.other ?_ (by first | (dsimp only; omega) | omega) _)))
      have z_u6 := x_u6.lt
      have c_u6_0 := x_u6.c 0 _ rfl
      have f_u6_0 := x_u6.f 0 _ rfl
      have c_u6_1 := x_u6.c 1 _ rfl
      have f_u6_1 := x_u6.f 1 _ rfl
      have x_p6 : Box w6 (w3.heap.size) [.int .u64 ph, .int .u64 pl] := (by refine Box.below ?_ hb; repeat (first | (with_reducible assumption) | (with_reducible refine Box.drew ?_) | (with_reducible refine Box.drewN ?_ _) | ((with_reducible refine Box.new ?_); simp; done) | (with_reducible apply Box.set2) | (with_reducible refine Box.alloc ?_ _) | (with_reducible refine Box.other ?_ (by first | (dsimp only; omega) | omega) _)))
      have z_p6 := x_p6.lt
      have c_p6_0 := x_p6.c 0 _ rfl
      have f_p6_0 := x_p6.f 0 _ rfl
      have c_p6_1 := x_p6.c 1 _ rfl
      have f_p6_1 := x_p6.f 1 _ rfl
      have x_s6 : Box w6 (b4) [.int .u64 ah, .int .u64 al] := (by refine Box.below ?_ hb; repeat (first | (with_reducible assumption) | (with_reducible refine Box.drew ?_) | (with_reducible refine Box.drewN ?_ _) | ((with_reducible refine Box.new ?_); simp; done) | (with_reducible apply Box.set2) | (with_reducible refine Box.alloc ?_ _) | (with_reducible refine Box.other ?_ (by first | (dsimp only; omega) | omega) _)))
      have z_s6 := x_s6.lt
      have c_s6_0 := x_s6.c 0 _ rfl
      have f_s6_0 := x_s6.f 0 _ rfl
      have c_s6_1 := x_s6.c 1 _ rfl
      have f_s6_1 := x_s6.f 1 _ rfl
      have x_m6 : Box w6 (b5) [.int .u64 uh, .int .u64 ul] := (by refine Box.below ?_ hb; repeat (first | (with_reducible assumption) | (with_reducible refine Box.drew ?_) | (with_reducible refine Box.drewN ?_ _) | ((with_reducible refine Box.new ?_); simp; done) | (with_reducible apply Box.set2) | (with_reducible refine Box.alloc ?_ _) | (with_reducible refine Box.other ?_ (by first | (dsimp only; omega) | omega) _)))
      have z_m6 := x_m6.lt
      have c_m6_0 := x_m6.c 0 _ rfl
      have f_m6_0 := x_m6.f 0 _ rfl
      have c_m6_1 := x_m6.c 1 _ rfl
      have f_m6_1 := x_m6.f 1 _ rfl
      clear hb hB5 hs5 x_a5 z_a5 c_a5_0 c_a5_1 f_a5_0 f_a5_1 x_q5 z_q5 c_q5_0 c_q5_1 f_q5_0 f_q5_1 x_u5 z_u5 c_u5_0 c_u5_1 f_u5_0 f_u5_1 x_p5 z_p5 c_p5_0 c_p5_1 f_p5_0 f_p5_1 x_s5 z_s5 c_s5_0 c_s5_1 f_s5_0 f_s5_1 x_m5 z_m5 c_m5_0 c_m5_1 f_m5_0 f_m5_1
      go_wp2
      go_returns
      refine ⟨rfl, ?_⟩
      go_grown

end Go.Proofs.Ytjidognjnlhlcaa
