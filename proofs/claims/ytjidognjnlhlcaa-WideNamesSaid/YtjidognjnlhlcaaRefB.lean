/-
  The reference of layer 1, walked: differences and products.
-/
import Derived.Test.YtjidognjnlhlcaaRef
namespace Go.Proofs.Ytjidognjnlhlcaa
open Go.RowKit

set_option maxHeartbeats 800000 in
theorem rsub_no {ah al bh bl : Int} (w : World) (h2 : isU al) (h4 : isU bl) (d : decide (cmpI (wN ah al) (wN bh bl) < 0) = true) :
    Calls Try.prog 19 #[.agg #[.int .u64 ah, .int .u64 al], .agg #[.int .u64 bh, .int .u64 bl]] w fun e w' =>
      e = .returned (.tuple #[.agg #[.int .u64 0, .int .u64 0], .int .i64 16]) ∧ Below w.heap.size w w' := by
  go_enter Try.func19, Try.ntmps19
  go_wp2_with fail
  refine (rcmp_any _ _ _ _ _ h2 h4).mono ?_
  rintro e w1 ⟨rfl, hb⟩
  have hB1 : Below w.heap.size w w1 := below_thru (by go_grown) hb
  have hs1 : w.heap.size ≤ w1.heap.size := hB1.size
  have x_a1 : Box w1 (w.heap.size) [.int .u64 ah, .int .u64 al] := (by refine Box.below ?_ hb; repeat (first | (with_reducible assumption) | (with_reducible refine Box.drew ?_) | (with_reducible refine Box.drewN ?_ _) | ((with_reducible refine Box.new ?_); simp; done) | (with_reducible apply Box.set2) | (with_reducible refine Box.alloc ?_ _) | (with_reducible refine Box.other ?_ (by first | (dsimp only; omega) | omega) _)))
  have z_a1 := x_a1.lt
  have c_a1_0 := x_a1.c 0 _ rfl
  have f_a1_0 := x_a1.f 0 _ rfl
  have c_a1_1 := x_a1.c 1 _ rfl
  have f_a1_1 := x_a1.f 1 _ rfl
  have x_b1 : Box w1 (w.heap.size + 1) [.int .u64 bh, .int .u64 bl] := (by refine Box.below ?_ hb; repeat (first | (with_reducible assumption) | (with_reducible refine Box.drew ?_) | (with_reducible refine Box.drewN ?_ _) | ((with_reducible refine Box.new ?_); simp; done) | (with_reducible apply Box.set2) | (with_reducible refine Box.alloc ?_ _) | (with_reducible refine Box.other ?_ (by first | (dsimp only; omega) | omega) _)))
  have z_b1 := x_b1.lt
  have c_b1_0 := x_b1.c 0 _ rfl
  have f_b1_0 := x_b1.f 0 _ rfl
  have c_b1_1 := x_b1.c 1 _ rfl
  have f_b1_1 := x_b1.f 1 _ rfl
  have x_r1 : Box w1 (w.heap.size + 1 + 1) [.int .u64 0, .int .u64 0] := (by refine Box.below ?_ hb; repeat (first | (with_reducible assumption) | (with_reducible refine Box.drew ?_) | (with_reducible refine Box.drewN ?_ _) | ((with_reducible refine Box.new ?_); simp; done) | (with_reducible apply Box.set2) | (with_reducible refine Box.alloc ?_ _) | (with_reducible refine Box.other ?_ (by first | (dsimp only; omega) | omega) _)))
  have z_r1 := x_r1.lt
  have c_r1_0 := x_r1.c 0 _ rfl
  have f_r1_0 := x_r1.f 0 _ rfl
  have c_r1_1 := x_r1.c 1 _ rfl
  have f_r1_1 := x_r1.f 1 _ rfl
  clear hb
  clear x_a1 z_a1 c_a1_0 c_a1_1 f_a1_0 f_a1_1
  clear x_b1 z_b1 c_b1_0 c_b1_1 f_b1_0 f_b1_1
  go_wp2
  refine bodyPost_ret (v := .tuple #[.agg #[.int .u64 0, .int .u64 0], .int .i64 16]) (by simp [results, Try.results19, go_sem, z_r1, c_r1_0, c_r1_1]) rfl ⟨rfl, ?_⟩
  go_grown

set_option maxHeartbeats 800000 in
theorem rsub_ok {ah al bh bl h l : Int} (w : World) (h1 : isU ah) (h2 : isU al) (h3 : isU bh) (h4 : isU bl) (g1 : isU h) (g2 : isU l) (e : Hid (wN ah al - wN bh bl = wN h l)) (d : decide (cmpI (wN ah al) (wN bh bl) < 0) = false) :
    Calls Try.prog 19 #[.agg #[.int .u64 ah, .int .u64 al], .agg #[.int .u64 bh, .int .u64 bl]] w fun e w' =>
      e = .returned (.tuple #[.agg #[.int .u64 h, .int .u64 l], .int .i64 0]) ∧ Below w.heap.size w w' := by
  go_enter Try.func19, Try.ntmps19
  go_wp2_with fail
  refine (rcmp_any _ _ _ _ _ h2 h4).mono ?_
  rintro e w1 ⟨rfl, hb⟩
  have hB1 : Below w.heap.size w w1 := below_thru (by go_grown) hb
  have hs1 : w.heap.size ≤ w1.heap.size := hB1.size
  have x_a1 : Box w1 (w.heap.size) [.int .u64 ah, .int .u64 al] := (by refine Box.below ?_ hb; repeat (first | (with_reducible assumption) | (with_reducible refine Box.drew ?_) | (with_reducible refine Box.drewN ?_ _) | ((with_reducible refine Box.new ?_); simp; done) | (with_reducible apply Box.set2) | (with_reducible refine Box.alloc ?_ _) | (with_reducible refine Box.other ?_ (by first | (dsimp only; omega) | omega) _)))
  have z_a1 := x_a1.lt
  have c_a1_0 := x_a1.c 0 _ rfl
  have f_a1_0 := x_a1.f 0 _ rfl
  have c_a1_1 := x_a1.c 1 _ rfl
  have f_a1_1 := x_a1.f 1 _ rfl
  have x_b1 : Box w1 (w.heap.size + 1) [.int .u64 bh, .int .u64 bl] := (by refine Box.below ?_ hb; repeat (first | (with_reducible assumption) | (with_reducible refine Box.drew ?_) | (with_reducible refine Box.drewN ?_ _) | ((with_reducible refine Box.new ?_); simp; done) | (with_reducible apply Box.set2) | (with_reducible refine Box.alloc ?_ _) | (with_reducible refine Box.other ?_ (by first | (dsimp only; omega) | omega) _)))
  have z_b1 := x_b1.lt
  have c_b1_0 := x_b1.c 0 _ rfl
  have f_b1_0 := x_b1.f 0 _ rfl
  have c_b1_1 := x_b1.c 1 _ rfl
  have f_b1_1 := x_b1.f 1 _ rfl
  have x_r1 : Box w1 (w.heap.size + 1 + 1) [.int .u64 0, .int .u64 0] := (by refine Box.below ?_ hb; repeat (first | (with_reducible assumption) | (with_reducible refine Box.drew ?_) | (with_reducible refine Box.drewN ?_ _) | ((with_reducible refine Box.new ?_); simp; done) | (with_reducible apply Box.set2) | (with_reducible refine Box.alloc ?_ _) | (with_reducible refine Box.other ?_ (by first | (dsimp only; omega) | omega) _)))
  have z_r1 := x_r1.lt
  have c_r1_0 := x_r1.c 0 _ rfl
  have f_r1_0 := x_r1.f 0 _ rfl
  have c_r1_1 := x_r1.c 1 _ rfl
  have f_r1_1 := x_r1.f 1 _ rfl
  clear hb
  go_wp2_with fail
  refine (rless_ok _ h1 h2 h3 h4 g1 g2 e.out).mono ?_
  rintro e w2 ⟨rfl, hb⟩
  have hB2 : Below w.heap.size w w2 := below_thru (by go_grown) hb
  have hs2 : w.heap.size ≤ w2.heap.size := hB2.size
  have x_a2 : Box w2 (w.heap.size) [.int .u64 ah, .int .u64 al] := (by refine Box.below ?_ hb; repeat (first | (with_reducible assumption) | (with_reducible refine Box.drew ?_) | (with_reducible refine Box.drewN ?_ _) | ((with_reducible refine Box.new ?_); simp; done) | (with_reducible apply Box.set2) | (with_reducible refine Box.alloc ?_ _) | (with_reducible refine Box.other ?_ (by first | (dsimp only; omega) | omega) _)))
  have z_a2 := x_a2.lt
  have c_a2_0 := x_a2.c 0 _ rfl
  have f_a2_0 := x_a2.f 0 _ rfl
  have c_a2_1 := x_a2.c 1 _ rfl
  have f_a2_1 := x_a2.f 1 _ rfl
  have x_b2 : Box w2 (w.heap.size + 1) [.int .u64 bh, .int .u64 bl] := (by refine Box.below ?_ hb; repeat (first | (with_reducible assumption) | (with_reducible refine Box.drew ?_) | (with_reducible refine Box.drewN ?_ _) | ((with_reducible refine Box.new ?_); simp; done) | (with_reducible apply Box.set2) | (with_reducible refine Box.alloc ?_ _) | (with_reducible refine Box.other ?_ (by first | (dsimp only; omega) | omega) _)))
  have z_b2 := x_b2.lt
  have c_b2_0 := x_b2.c 0 _ rfl
  have f_b2_0 := x_b2.f 0 _ rfl
  have c_b2_1 := x_b2.c 1 _ rfl
  have f_b2_1 := x_b2.f 1 _ rfl
  have x_r2 : Box w2 (w.heap.size + 1 + 1) [.int .u64 0, .int .u64 0] := (by refine Box.below ?_ hb; repeat (first | (with_reducible assumption) | (with_reducible refine Box.drew ?_) | (with_reducible refine Box.drewN ?_ _) | ((with_reducible refine Box.new ?_); simp; done) | (with_reducible apply Box.set2) | (with_reducible refine Box.alloc ?_ _) | (with_reducible refine Box.other ?_ (by first | (dsimp only; omega) | omega) _)))
  have z_r2 := x_r2.lt
  have c_r2_0 := x_r2.c 0 _ rfl
  have f_r2_0 := x_r2.f 0 _ rfl
  have c_r2_1 := x_r2.c 1 _ rfl
  have f_r2_1 := x_r2.f 1 _ rfl
  clear hb hB1 hs1 x_a1 z_a1 c_a1_0 c_a1_1 f_a1_0 f_a1_1 x_b1 z_b1 c_b1_0 c_b1_1 f_b1_0 f_b1_1 x_r1 z_r1 c_r1_0 c_r1_1 f_r1_0 f_r1_1
  clear x_a2 z_a2 c_a2_0 c_a2_1 f_a2_0 f_a2_1
  clear x_b2 z_b2 c_b2_0 c_b2_1 f_b2_0 f_b2_1
  go_wp2
  refine bodyPost_ret (v := .tuple #[.agg #[.int .u64 h, .int .u64 l], .int .i64 0]) (by simp [results, Try.results19, go_sem, z_r2, c_r2_0, c_r2_1]) rfl ⟨rfl, ?_⟩
  go_grown

theorem half_mul {a b : Int} (ha : 0 ≤ a) (ha' : a ≤ 4294967295) (hb : 0 ≤ b) (hb' : b ≤ 4294967295) : 0 ≤ a * b ∧ a * b ≤ 18446744065119617025 :=
  ⟨Int.mul_nonneg ha hb, Int.mul_le_mul ha' hb' hb (by omega)⟩

set_option maxRecDepth 100000 in
set_option maxHeartbeats 1600000 in
theorem rmul_ok {x y h l : Int} (w : World) (h1 : isU x) (h2 : isU y) (g1 : isU h) (g2 : isU l) (e : x * y = wN h l) :
    Calls Try.prog 24 #[.int .u64 x, .int .u64 y] w fun e w' => e = .returned (.agg #[.int .u64 h, .int .u64 l]) ∧ Below w.heap.size w w' := by
  unfold isU at *
  unfold wN at e
  obtain ⟨a, ha⟩ : ∃ a, x / 4294967296 = a := ⟨_, rfl⟩
  obtain ⟨b, hb⟩ : ∃ b, x % 4294967296 = b := ⟨_, rfl⟩
  obtain ⟨c, hc⟩ : ∃ c, y / 4294967296 = c := ⟨_, rfl⟩
  obtain ⟨d, hd⟩ : ∃ d, y % 4294967296 = d := ⟨_, rfl⟩
  have hx : x = a * 4294967296 + b := by omega
  have hy : y = c * 4294967296 + d := by omega
  have m1 := half_mul (a := b) (b := d) (by omega) (by omega) (by omega) (by omega)
  have m2 := half_mul (a := a) (b := d) (by omega) (by omega) (by omega) (by omega)
  have m3 := half_mul (a := b) (b := c) (by omega) (by omega) (by omega) (by omega)
  have m4 := half_mul (a := a) (b := c) (by omega) (by omega) (by omega) (by omega)
  have tot : x * y = a * c * 18446744073709551616 + a * d * 4294967296 + b * c * 4294967296 + b * d := by
    rw [hx, hy, Int.add_mul, Int.mul_add, Int.mul_add]
    have e1 : a * 4294967296 * (c * 4294967296) = a * c * 18446744073709551616 := by
      rw [Int.mul_assoc, ← Int.mul_assoc 4294967296 c, Int.mul_comm 4294967296 c, Int.mul_assoc c, ← Int.mul_assoc]; rfl
    have e2 : a * 4294967296 * d = a * d * 4294967296 := by rw [Int.mul_assoc, Int.mul_comm 4294967296 d, ← Int.mul_assoc]
    have e3 : b * (c * 4294967296) = b * c * 4294967296 := by rw [← Int.mul_assoc]
    omega
  rw [tot] at e
  have E := Lib.hid e
  have X := Lib.hid hx
  clear e tot hx hy
  go_enter Try.func24, Try.ntmps24
  go_wp2
  go_returns
  refine ⟨ret_wide (by have := E.out; omega) (by have := E.out; omega), ?_⟩
  go_grown

end Go.Proofs.Ytjidognjnlhlcaa
