/-
  'times' of the statements' package, walked: a wide number times a small one, from the products of its parts.
-/
import Derived.Test.YtjidognjnlhlcaaAlive
namespace Go.Proofs.Ytjidognjnlhlcaa
open Go.RowKit

theorem isU_hi_mul {x y : Int} (h1 : isU x) (h2 : isU y) : isU (wHi (x * y)) := by
  unfold isU at *
  have h : x * y ≤ 18446744073709551615 * 18446744073709551615 := Int.mul_le_mul h1.2 h2.2 h2.1 (by omega)
  have h0 : 0 ≤ x * y := Int.mul_nonneg h1.1 h2.1
  unfold wHi
  omega

set_option maxHeartbeats 1600000 in
theorem times_yes (ah al d : Int) (w : World) (h1 : isU ah) (h2 : isU al) (h3 : isU d) (hh : wHi (ah * d) = 0) :
    Calls Try.prog 25 #[.agg #[.int .u64 ah, .int .u64 al], .int .u64 d] w fun e w' =>
      e = .returned (.tuple #[.agg #[.int .u64 (wHi (addV (wN (wLo (ah * d)) 0 + wN (wHi (al * d)) (wLo (al * d))))), .int .u64 (wLo (addV (wN (wLo (ah * d)) 0 + wN (wHi (al * d)) (wLo (al * d)))))], .bool (addE (wN (wLo (ah * d)) 0 + wN (wHi (al * d)) (wLo (al * d))) == 0)]) ∧ Below w.heap.size w w' := by
  have ul := isU_lo (ah * d)
  have um1 := isU_hi_mul h2 h3
  have um2 := isU_lo (al * d)
  go_enter Try.func25, Try.ntmps25
  go_wp2_with fail
  refine (mul_any _ _ _ h1 h3).mono ?_
  rintro e w1 ⟨rfl, hb⟩
  have hB1 : Below w.heap.size w w1 := below_thru (by go_grown) hb
  have hs1 : w.heap.size ≤ w1.heap.size := hB1.size
  have x_a1 : Box w1 (w.heap.size) [.int .u64 ah, .int .u64 al] := (by refine Box.below ?_ hb; repeat (first | (with_reducible assumption) | (with_reducible refine Box.drew ?_) | (with_reducible refine Box.drewN ?_ _) | ((with_reducible refine Box.new ?_); simp; done) | (with_reducible apply Box.set2) | (with_reducible refine Box.alloc ?_ _) | (with_reducible refine Box.other ?_ (by first | (dsimp only; omega) | omega) _)))
  have z_a1 := x_a1.lt
  have c_a1_0 := x_a1.c 0 _ rfl
  have f_a1_0 := x_a1.f 0 _ rfl
  have c_a1_1 := x_a1.c 1 _ rfl
  have f_a1_1 := x_a1.f 1 _ rfl
  have x_r1 : Box w1 (w.heap.size + 1) [.int .u64 0, .int .u64 0] := (by refine Box.below ?_ hb; repeat (first | (with_reducible assumption) | (with_reducible refine Box.drew ?_) | (with_reducible refine Box.drewN ?_ _) | ((with_reducible refine Box.new ?_); simp; done) | (with_reducible apply Box.set2) | (with_reducible refine Box.alloc ?_ _) | (with_reducible refine Box.other ?_ (by first | (dsimp only; omega) | omega) _)))
  have z_r1 := x_r1.lt
  have c_r1_0 := x_r1.c 0 _ rfl
  have f_r1_0 := x_r1.f 0 _ rfl
  have c_r1_1 := x_r1.c 1 _ rfl
  have f_r1_1 := x_r1.f 1 _ rfl
  clear hb
  simp only [hh]
  go_upto_region 4 with fail
  go_cut [7, 8] (fun p q0 wx => ∃ b : Nat, p = .pointer (some ⟨b, 0, none⟩) ∧ q0 = .int .i64 (addE (wN (wLo (ah * d)) 0 + wN (wHi (al * d)) (wLo (al * d)))) ∧ Box wx b [.int .u64 (wHi (addV (wN (wLo (ah * d)) 0 + wN (wHi (al * d)) (wLo (al * d))))), .int .u64 (wLo (addV (wN (wLo (ah * d)) 0 + wN (wHi (al * d)) (wLo (al * d)))))] ∧ Box wx (w.heap.size) [.int .u64 ah, .int .u64 al] ∧ Box wx (w.heap.size + 1) [.int .u64 0, .int .u64 0] ∧ Box wx (w1.heap.size) [.int .u64 0, .int .u64 (wLo (ah * d))] ∧ Below w.heap.size w wx)
  case first =>
    go_region_held3 (fun w' => w'.cell? ⟨w1.heap.size, 1, none⟩ = some (.int .u64 (wLo (ah * d))) ∧ w'.cell? ⟨w.heap.size, 1, none⟩ = some (.int .u64 al)) (((repeat' apply And.intro) <;> (first | (go_keep; done) | go_cell)))
      (first
        | (go_at_call 16; refine (mul_any _ _ _ h2 h3).mono ?_; rintro e v1 ⟨rfl, hv1⟩; have hV1 : Below w.heap.size w v1 := below_thru (by go_grown) hv1; have hs_v1 : w.heap.size ≤ v1.heap.size := hV1.size; have x_a_v1 : Box v1 (w.heap.size) [.int .u64 ah, .int .u64 al] := (by refine Box.below ?_ hv1; repeat (first | (with_reducible assumption) | (with_reducible refine Box.drew ?_) | (with_reducible refine Box.drewN ?_ _) | ((with_reducible refine Box.new ?_); simp; done) | (with_reducible apply Box.set2) | (with_reducible refine Box.alloc ?_ _) | (with_reducible refine Box.other ?_ (by first | (dsimp only; omega) | omega) _))); have z_a_v1 := x_a_v1.lt; have c_a_v1_0 := x_a_v1.c 0 _ rfl; have f_a_v1_0 := x_a_v1.f 0 _ rfl; have c_a_v1_1 := x_a_v1.c 1 _ rfl; have f_a_v1_1 := x_a_v1.f 1 _ rfl; have x_r_v1 : Box v1 (w.heap.size + 1) [.int .u64 0, .int .u64 0] := (by refine Box.below ?_ hv1; repeat (first | (with_reducible assumption) | (with_reducible refine Box.drew ?_) | (with_reducible refine Box.drewN ?_ _) | ((with_reducible refine Box.new ?_); simp; done) | (with_reducible apply Box.set2) | (with_reducible refine Box.alloc ?_ _) | (with_reducible refine Box.other ?_ (by first | (dsimp only; omega) | omega) _))); have z_r_v1 := x_r_v1.lt; have c_r_v1_0 := x_r_v1.c 0 _ rfl; have f_r_v1_0 := x_r_v1.f 0 _ rfl; have c_r_v1_1 := x_r_v1.c 1 _ rfl; have f_r_v1_1 := x_r_v1.f 1 _ rfl; have x_h_v1 : Box v1 (w1.heap.size) [.int .u64 0, .int .u64 (wLo (ah * d))] := (by refine Box.below ?_ hv1; repeat (first | (with_reducible assumption) | (with_reducible refine Box.drew ?_) | (with_reducible refine Box.drewN ?_ _) | ((with_reducible refine Box.new ?_); simp; done) | (with_reducible apply Box.set2) | (with_reducible refine Box.alloc ?_ _) | (with_reducible refine Box.other ?_ (by first | (dsimp only; omega) | omega) _))); have z_h_v1 := x_h_v1.lt; have c_h_v1_0 := x_h_v1.c 0 _ rfl; have f_h_v1_0 := x_h_v1.f 0 _ rfl; have c_h_v1_1 := x_h_v1.c 1 _ rfl; have f_h_v1_1 := x_h_v1.f 1 _ rfl; (first | (with_reducible have y := Box.below (Box.drew (Box.new rfl)) hv1) | (with_reducible have y := Box.below (Box.new rfl) hv1) | (with_reducible have y := Box.below y hv1) | (have y := trivial)); (try simp only [World.size_alloc] at y); try (have yz := Box.lt y; have y0 := Box.c y 0 _ rfl; have yf0 := Box.f y 0 _ rfl; have y1 := Box.c y 1 _ rfl; have yf1 := Box.f y 1 _ rfl))
        | (go_at_call 9; refine (add_any _ _ _ _ _ ul u0 um1 um2).mono ?_; rintro e v2 ⟨rfl, hv2⟩; have hV2 : Below w.heap.size w v2 := below_thru (by go_grown) hv2; have hs_v2 : w.heap.size ≤ v2.heap.size := hV2.size; have x_a_v2 : Box v2 (w.heap.size) [.int .u64 ah, .int .u64 al] := (by refine Box.below ?_ hv2; repeat (first | (with_reducible assumption) | (with_reducible refine Box.drew ?_) | (with_reducible refine Box.drewN ?_ _) | ((with_reducible refine Box.new ?_); simp; done) | (with_reducible apply Box.set2) | (with_reducible refine Box.alloc ?_ _) | (with_reducible refine Box.other ?_ (by first | (dsimp only; omega) | omega) _))); have z_a_v2 := x_a_v2.lt; have c_a_v2_0 := x_a_v2.c 0 _ rfl; have f_a_v2_0 := x_a_v2.f 0 _ rfl; have c_a_v2_1 := x_a_v2.c 1 _ rfl; have f_a_v2_1 := x_a_v2.f 1 _ rfl; have x_r_v2 : Box v2 (w.heap.size + 1) [.int .u64 0, .int .u64 0] := (by refine Box.below ?_ hv2; repeat (first | (with_reducible assumption) | (with_reducible refine Box.drew ?_) | (with_reducible refine Box.drewN ?_ _) | ((with_reducible refine Box.new ?_); simp; done) | (with_reducible apply Box.set2) | (with_reducible refine Box.alloc ?_ _) | (with_reducible refine Box.other ?_ (by first | (dsimp only; omega) | omega) _))); have z_r_v2 := x_r_v2.lt; have c_r_v2_0 := x_r_v2.c 0 _ rfl; have f_r_v2_0 := x_r_v2.f 0 _ rfl; have c_r_v2_1 := x_r_v2.c 1 _ rfl; have f_r_v2_1 := x_r_v2.f 1 _ rfl; have x_h_v2 : Box v2 (w1.heap.size) [.int .u64 0, .int .u64 (wLo (ah * d))] := (by refine Box.below ?_ hv2; repeat (first | (with_reducible assumption) | (with_reducible refine Box.drew ?_) | (with_reducible refine Box.drewN ?_ _) | ((with_reducible refine Box.new ?_); simp; done) | (with_reducible apply Box.set2) | (with_reducible refine Box.alloc ?_ _) | (with_reducible refine Box.other ?_ (by first | (dsimp only; omega) | omega) _))); have z_h_v2 := x_h_v2.lt; have c_h_v2_0 := x_h_v2.c 0 _ rfl; have f_h_v2_0 := x_h_v2.f 0 _ rfl; have c_h_v2_1 := x_h_v2.c 1 _ rfl; have f_h_v2_1 := x_h_v2.f 1 _ rfl; (first | (with_reducible have y := Box.below (Box.drew (Box.new rfl)) hv2) | (with_reducible have y := Box.below (Box.new rfl) hv2) | (with_reducible have y := Box.below y hv2) | (have y := trivial)); (try simp only [World.size_alloc] at y); try (have yz := Box.lt y; have y0 := Box.c y 0 _ rfl; have yf0 := Box.f y 0 _ rfl; have y1 := Box.c y 1 _ rfl; have yf1 := Box.f y 1 _ rfl)))
    all_goals
      go_wp2_with fail
      go_meet
      refine ⟨_, rfl, rfl, ?_, ?_, ?_, ?_, ?_⟩
      all_goals first
        | ((repeat (first | (with_reducible assumption) | (with_reducible refine Box.drew ?_) | (with_reducible refine Box.drewN ?_ _) | ((with_reducible refine Box.new ?_); simp; done) | (with_reducible apply Box.set2) | (with_reducible refine Box.alloc ?_ _) | (with_reducible refine Box.other ?_ (by first | (dsimp only; omega) | omega) _))); done)
        | (go_grown; done)
  case rest =>
    obtain ⟨b2, rfl, rfl, x_o2, x_a2, x_r2, x_h2, hB2⟩ := hcut
    obtain ⟨w2, rfl⟩ : ∃ u : World, u = wc := ⟨_, rfl⟩
    clear hB1 hs1 x_a1 z_a1 c_a1_0 c_a1_1 f_a1_0 f_a1_1 x_r1 z_r1 c_r1_0 c_r1_1 f_r1_0 f_r1_1
    have hs2 : w.heap.size ≤ w2.heap.size := hB2.size
    have z_a2 := x_a2.lt
    have c_a2_0 := x_a2.c 0 _ rfl; have f_a2_0 := x_a2.f 0 _ rfl
    have c_a2_1 := x_a2.c 1 _ rfl; have f_a2_1 := x_a2.f 1 _ rfl
    have z_r2 := x_r2.lt
    have c_r2_0 := x_r2.c 0 _ rfl; have f_r2_0 := x_r2.f 0 _ rfl
    have c_r2_1 := x_r2.c 1 _ rfl; have f_r2_1 := x_r2.f 1 _ rfl
    have z_h2 := x_h2.lt
    have c_h2_0 := x_h2.c 0 _ rfl; have f_h2_0 := x_h2.f 0 _ rfl
    have c_h2_1 := x_h2.c 1 _ rfl; have f_h2_1 := x_h2.f 1 _ rfl
    have z_o2 := x_o2.lt
    have c_o2_0 := x_o2.c 0 _ rfl; have f_o2_0 := x_o2.f 0 _ rfl
    have c_o2_1 := x_o2.c 1 _ rfl; have f_o2_1 := x_o2.f 1 _ rfl
    go_wp2
    refine bodyPost_ret (v := .tuple #[.agg #[.int .u64 (wHi (addV (wN (wLo (ah * d)) 0 + wN (wHi (al * d)) (wLo (al * d))))), .int .u64 (wLo (addV (wN (wLo (ah * d)) 0 + wN (wHi (al * d)) (wLo (al * d)))))], .bool (addE (wN (wLo (ah * d)) 0 + wN (wHi (al * d)) (wLo (al * d))) == 0)]) (by simp [results, Try.results25, go_sem, z_a2, c_a2_0, c_a2_1, z_r2, c_r2_0, c_r2_1, z_h2, c_h2_0, c_h2_1, z_o2, c_o2_0, c_o2_1]) rfl ⟨rfl, ?_⟩
    go_grown

end Go.Proofs.Ytjidognjnlhlcaa
