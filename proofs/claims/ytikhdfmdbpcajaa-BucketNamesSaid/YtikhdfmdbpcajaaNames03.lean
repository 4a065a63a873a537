/-
  BucketNames, walked over the contracts of package bucket: it returns true.
-/
import Derived.Test.YtikhdfmdbpcajaaLaw03
namespace Go.Proofs.Ytikhdfmdbpcajaa
open Go.RowKit

theorem isU_nil : isU 0 := u0
theorem names_lims {w : World} {t : TypeId} (k : Nat) (hk : k < 8) : ∃ lb lr lp : Int, Hid (limE lb lr lp = 8) ∧
    (w.alloc (.cells #[.int .i64 0, .int .i64 0, .int .i64 0, .int .i64 1, .int .i64 0, .int .i64 0, .int .i64 0, .int .i64 0, .int .i64 1, .int .i64 1000000001, .int .i64 0, .int .i64 1, .int .i64 1, .int .i64 (-1), .int .i64 1, .int .i64 1, .int .i64 1000000001, .int .i64 1, .int .i64 1, .int .i64 0, .int .i64 1000000001, .int .i64 1, .int .i64 9223372036854775807, .int .i64 1] t)).cell? ⟨w.heap.size, k * 3, none⟩ = some (.int .i64 lb) ∧
    (w.alloc (.cells #[.int .i64 0, .int .i64 0, .int .i64 0, .int .i64 1, .int .i64 0, .int .i64 0, .int .i64 0, .int .i64 0, .int .i64 1, .int .i64 1000000001, .int .i64 0, .int .i64 1, .int .i64 1, .int .i64 (-1), .int .i64 1, .int .i64 1, .int .i64 1000000001, .int .i64 1, .int .i64 1, .int .i64 0, .int .i64 1000000001, .int .i64 1, .int .i64 9223372036854775807, .int .i64 1] t)).cell? ⟨w.heap.size, k * 3 + 1, none⟩ = some (.int .i64 lr) ∧
    (w.alloc (.cells #[.int .i64 0, .int .i64 0, .int .i64 0, .int .i64 1, .int .i64 0, .int .i64 0, .int .i64 0, .int .i64 0, .int .i64 1, .int .i64 1000000001, .int .i64 0, .int .i64 1, .int .i64 1, .int .i64 (-1), .int .i64 1, .int .i64 1, .int .i64 1000000001, .int .i64 1, .int .i64 1, .int .i64 0, .int .i64 1000000001, .int .i64 1, .int .i64 9223372036854775807, .int .i64 1] t)).cell? ⟨w.heap.size, k * 3 + 2, none⟩ = some (.int .i64 lp) := by
  have hB : Box (w.alloc (.cells #[.int .i64 0, .int .i64 0, .int .i64 0, .int .i64 1, .int .i64 0, .int .i64 0, .int .i64 0, .int .i64 0, .int .i64 1, .int .i64 1000000001, .int .i64 0, .int .i64 1, .int .i64 1, .int .i64 (-1), .int .i64 1, .int .i64 1, .int .i64 1000000001, .int .i64 1, .int .i64 1, .int .i64 0, .int .i64 1000000001, .int .i64 1, .int .i64 9223372036854775807, .int .i64 1] t)) w.heap.size [.int .i64 0, .int .i64 0, .int .i64 0, .int .i64 1, .int .i64 0, .int .i64 0, .int .i64 0, .int .i64 0, .int .i64 1, .int .i64 1000000001, .int .i64 0, .int .i64 1, .int .i64 1, .int .i64 (-1), .int .i64 1, .int .i64 1, .int .i64 1000000001, .int .i64 1, .int .i64 1, .int .i64 0, .int .i64 1000000001, .int .i64 1, .int .i64 9223372036854775807, .int .i64 1] := Box.new rfl
  obtain rfl | rfl | rfl | rfl | rfl | rfl | rfl | rfl : k = 0 ∨ k = 1 ∨ k = 2 ∨ k = 3 ∨ k = 4 ∨ k = 5 ∨ k = 6 ∨ k = 7 := by omega
  all_goals exact ⟨_, _, _, Lib.hid (by decide), hB.c _ _ rfl, hB.c _ _ rfl, hB.c _ _ rfl⟩
theorem names_bads {w : World} {t : TypeId} (k : Nat) (hk : k < 5) : ∃ l q : Int, Hid (bucE 5 2 3 l q = 8) ∧
    (w.alloc (.cells #[.int .i64 5, .int .i64 2, .int .i64 3, .int .i64 (-1), .int .i64 0, .int .u64 0, .int .i64 5, .int .i64 2, .int .i64 3, .int .i64 6, .int .i64 0, .int .u64 0, .int .i64 5, .int .i64 2, .int .i64 3, .int .i64 0, .int .i64 (-1), .int .u64 0, .int .i64 5, .int .i64 2, .int .i64 3, .int .i64 0, .int .i64 3, .int .u64 0, .int .i64 5, .int .i64 2, .int .i64 3, .int .i64 5, .int .i64 1, .int .u64 0] t)).cell? ⟨w.heap.size, k * 6, none⟩ = some (.int .i64 5) ∧ (w.alloc (.cells #[.int .i64 5, .int .i64 2, .int .i64 3, .int .i64 (-1), .int .i64 0, .int .u64 0, .int .i64 5, .int .i64 2, .int .i64 3, .int .i64 6, .int .i64 0, .int .u64 0, .int .i64 5, .int .i64 2, .int .i64 3, .int .i64 0, .int .i64 (-1), .int .u64 0, .int .i64 5, .int .i64 2, .int .i64 3, .int .i64 0, .int .i64 3, .int .u64 0, .int .i64 5, .int .i64 2, .int .i64 3, .int .i64 5, .int .i64 1, .int .u64 0] t)).cell? ⟨w.heap.size, k * 6 + 1, none⟩ = some (.int .i64 2) ∧
    (w.alloc (.cells #[.int .i64 5, .int .i64 2, .int .i64 3, .int .i64 (-1), .int .i64 0, .int .u64 0, .int .i64 5, .int .i64 2, .int .i64 3, .int .i64 6, .int .i64 0, .int .u64 0, .int .i64 5, .int .i64 2, .int .i64 3, .int .i64 0, .int .i64 (-1), .int .u64 0, .int .i64 5, .int .i64 2, .int .i64 3, .int .i64 0, .int .i64 3, .int .u64 0, .int .i64 5, .int .i64 2, .int .i64 3, .int .i64 5, .int .i64 1, .int .u64 0] t)).cell? ⟨w.heap.size, k * 6 + 2, none⟩ = some (.int .i64 3) ∧ (w.alloc (.cells #[.int .i64 5, .int .i64 2, .int .i64 3, .int .i64 (-1), .int .i64 0, .int .u64 0, .int .i64 5, .int .i64 2, .int .i64 3, .int .i64 6, .int .i64 0, .int .u64 0, .int .i64 5, .int .i64 2, .int .i64 3, .int .i64 0, .int .i64 (-1), .int .u64 0, .int .i64 5, .int .i64 2, .int .i64 3, .int .i64 0, .int .i64 3, .int .u64 0, .int .i64 5, .int .i64 2, .int .i64 3, .int .i64 5, .int .i64 1, .int .u64 0] t)).cell? ⟨w.heap.size, k * 6 + 3, none⟩ = some (.int .i64 l) ∧
    (w.alloc (.cells #[.int .i64 5, .int .i64 2, .int .i64 3, .int .i64 (-1), .int .i64 0, .int .u64 0, .int .i64 5, .int .i64 2, .int .i64 3, .int .i64 6, .int .i64 0, .int .u64 0, .int .i64 5, .int .i64 2, .int .i64 3, .int .i64 0, .int .i64 (-1), .int .u64 0, .int .i64 5, .int .i64 2, .int .i64 3, .int .i64 0, .int .i64 3, .int .u64 0, .int .i64 5, .int .i64 2, .int .i64 3, .int .i64 5, .int .i64 1, .int .u64 0] t)).cell? ⟨w.heap.size, k * 6 + 4, none⟩ = some (.int .i64 q) ∧ (w.alloc (.cells #[.int .i64 5, .int .i64 2, .int .i64 3, .int .i64 (-1), .int .i64 0, .int .u64 0, .int .i64 5, .int .i64 2, .int .i64 3, .int .i64 6, .int .i64 0, .int .u64 0, .int .i64 5, .int .i64 2, .int .i64 3, .int .i64 0, .int .i64 (-1), .int .u64 0, .int .i64 5, .int .i64 2, .int .i64 3, .int .i64 0, .int .i64 3, .int .u64 0, .int .i64 5, .int .i64 2, .int .i64 3, .int .i64 5, .int .i64 1, .int .u64 0] t)).cell? ⟨w.heap.size, k * 6 + 5, none⟩ = some (.int .u64 0) := by
  have hB : Box (w.alloc (.cells #[.int .i64 5, .int .i64 2, .int .i64 3, .int .i64 (-1), .int .i64 0, .int .u64 0, .int .i64 5, .int .i64 2, .int .i64 3, .int .i64 6, .int .i64 0, .int .u64 0, .int .i64 5, .int .i64 2, .int .i64 3, .int .i64 0, .int .i64 (-1), .int .u64 0, .int .i64 5, .int .i64 2, .int .i64 3, .int .i64 0, .int .i64 3, .int .u64 0, .int .i64 5, .int .i64 2, .int .i64 3, .int .i64 5, .int .i64 1, .int .u64 0] t)) w.heap.size [.int .i64 5, .int .i64 2, .int .i64 3, .int .i64 (-1), .int .i64 0, .int .u64 0, .int .i64 5, .int .i64 2, .int .i64 3, .int .i64 6, .int .i64 0, .int .u64 0, .int .i64 5, .int .i64 2, .int .i64 3, .int .i64 0, .int .i64 (-1), .int .u64 0, .int .i64 5, .int .i64 2, .int .i64 3, .int .i64 0, .int .i64 3, .int .u64 0, .int .i64 5, .int .i64 2, .int .i64 3, .int .i64 5, .int .i64 1, .int .u64 0] := Box.new rfl
  obtain rfl | rfl | rfl | rfl | rfl : k = 0 ∨ k = 1 ∨ k = 2 ∨ k = 3 ∨ k = 4 := by omega
  all_goals exact ⟨_, _, Lib.hid (by decide), hB.c _ _ rfl, hB.c _ _ rfl, hB.c _ _ rfl, hB.c _ _ rfl, hB.c _ _ rfl, hB.c _ _ rfl⟩
theorem bucE_lim {b r p : Int} (h : limE b r p = 8) : bucE b r p 0 0 = 8 := if_neg (fun q => by omega)

set_option maxRecDepth 100000 in
set_option maxHeartbeats 12800000 in
theorem names03_any (w : World) :
    Calls Try.prog 3 #[] w fun e w' => e = .returned (.bool true) ∧ Below w.heap.size w w' := by
  have hg : Buc 10 3 2 1 0 0 := Buc.of (by decide) isU_nil
  have HG := Lib.hid hg
  have HK := Lib.hid hg.ok
  clear hg
  go_enter Try.func3, Try.ntmps3
  go_upto_region 2 with fail
  have hL := fun k hk => names_lims (w := w) (t := 23) k hk
  have hBW : Below w.heap.size w (w.alloc (.cells #[.int .i64 0, .int .i64 0, .int .i64 0, .int .i64 1, .int .i64 0, .int .i64 0, .int .i64 0, .int .i64 0, .int .i64 1, .int .i64 1000000001, .int .i64 0, .int .i64 1, .int .i64 1, .int .i64 (-1), .int .i64 1, .int .i64 1, .int .i64 1000000001, .int .i64 1, .int .i64 1, .int .i64 0, .int .i64 1000000001, .int .i64 1, .int .i64 9223372036854775807, .int .i64 1] 23)) := (Below.refl _ _).alloc (Nat.le_refl _) _
  obtain ⟨W1, hW⟩ : ∃ W, w.alloc (.cells #[.int .i64 0, .int .i64 0, .int .i64 0, .int .i64 1, .int .i64 0, .int .i64 0, .int .i64 0, .int .i64 0, .int .i64 1, .int .i64 1000000001, .int .i64 0, .int .i64 1, .int .i64 1, .int .i64 (-1), .int .i64 1, .int .i64 1, .int .i64 1000000001, .int .i64 1, .int .i64 1, .int .i64 0, .int .i64 1000000001, .int .i64 1, .int .i64 9223372036854775807, .int .i64 1] 23) = W := ⟨_, rfl⟩
  rw [hW] at hBW ⊢
  simp only [hW] at hL
  clear hW
  go_wp2_with fail
  go_loopw [2] (fun s2 wr => ∃ k : Nat, s2 = .int .i64 k ∧ k ≤ 8 ∧ Below W1.heap.size W1 wr) (fun s2 _ => 8 - (intOf s2).toNat)
  case atStart => exact ⟨0, rfl, by omega, Below.refl _ _⟩
  case round =>
    obtain ⟨k, rfl, hk, hB50⟩ := hrel
    have hs50 := hB50.size
    by_cases hlt : k < 8
    case pos =>
      have hlt' : (k : Int) < 8 := by omega
      obtain ⟨lb, lr, lp, HL, T0, T1, T2⟩ := hL k hlt
      have HC := Lib.hid (bucE_lim HL.out)
      have zt := lt_of_cell T0
      clear hL
      have c_p50 := cell_below hB50 T0
      have c_q50 := cell_below hB50 T1
      have c_r50 := cell_below hB50 T2
      go_wp2_with fail
      refine (full_no HL _).mono ?_
      rintro e w51 ⟨rfl, hb⟩
      have hB51 : Below W1.heap.size W1 w51 := below_thru (by go_grown) hb
      have hs51 : W1.heap.size ≤ w51.heap.size := hB51.size
      have c_p51 := cell_below hB51 T0
      have c_q51 := cell_below hB51 T1
      have c_r51 := cell_below hB51 T2
      have t51 := hb.size
      try simp at t51
      clear hb hB50 hs50 c_p50 c_q50 c_r50
      go_upto_region 6 with fail
      have x_e52 : Box (w51.alloc (.cells #[.int .i64 0, .int .i64 0, .int .i64 0, .int .i64 0, .int .i64 0, .int .u64 0] 27)) w51.heap.size [.int .i64 0, .int .i64 0, .int .i64 0, .int .i64 0, .int .i64 0, .int .u64 0] := Box.new rfl
      have hB52 := hB51.alloc hs51 (.cells #[.int .i64 0, .int .i64 0, .int .i64 0, .int .i64 0, .int .i64 0, .int .u64 0] 27)
      have hs52 := hB52.size
      obtain ⟨w52, h9⟩ : ∃ W, w51.alloc (.cells #[.int .i64 0, .int .i64 0, .int .i64 0, .int .i64 0, .int .i64 0, .int .u64 0] 27) = W := ⟨_, rfl⟩
      rw [h9] at x_e52 hB52 hs52 ⊢
      clear hB51 hs51 h9
      have z_e52 := x_e52.lt
      have c_e52_0 := x_e52.c 0 _ rfl; have f_e52_0 := x_e52.f 0 _ rfl
      have c_e52_1 := x_e52.c 1 _ rfl; have f_e52_1 := x_e52.f 1 _ rfl
      have c_e52_2 := x_e52.c 2 _ rfl; have f_e52_2 := x_e52.f 2 _ rfl
      have c_e52_3 := x_e52.c 3 _ rfl; have f_e52_3 := x_e52.f 3 _ rfl
      have c_e52_4 := x_e52.c 4 _ rfl; have f_e52_4 := x_e52.f 4 _ rfl
      have c_e52_5 := x_e52.c 5 _ rfl; have f_e52_5 := x_e52.f 5 _ rfl
      have c_p52 := cell_below hB52 T0
      have c_q52 := cell_below hB52 T1
      have c_r52 := cell_below hB52 T2
      clear x_e52 z_e52 c_e52_0 c_e52_1 c_e52_2 c_e52_3 c_e52_4 c_e52_5 f_e52_0 f_e52_1 f_e52_2 f_e52_3 f_e52_4 f_e52_5
      go_upto_region 6 with fail
      go_cut [5, 6] (fun p q0 wx => ∃ b : Nat, p = .pointer (some ⟨b, 0, none⟩) ∧ q0 = .int .i64 8 ∧ Box wx b [.int .i64 0, .int .i64 0, .int .i64 0, .int .i64 0, .int .i64 0, .int .u64 0] ∧ Below W1.heap.size W1 wx)
      case first =>
        as_aux_lemma =>
          go_region_held3 (fun w' => w'.cell? ⟨w.heap.size, k * 3, none⟩ = some (.int .i64 lb) ∧ w'.cell? ⟨w.heap.size, k * 3 + 1, none⟩ = some (.int .i64 lr) ∧ w'.cell? ⟨w.heap.size, k * 3 + 2, none⟩ = some (.int .i64 lp)) (((repeat' apply And.intro) <;> (first | (go_keep; done) | go_cell)))
            (first
              | (go_at_call 12; refine (given_any _).mono ?_; rintro e v1 ⟨rfl, hv1⟩; have hV1 : Below W1.heap.size W1 v1 := below_thru (by go_grown) hv1; have hs_v1 : W1.heap.size ≤ v1.heap.size := hV1.size; have c_p_v1 := cell_below hV1 T0; have c_q_v1 := cell_below hV1 T1; have c_r_v1 := cell_below hV1 T2; (first | (with_reducible have y := Box.below (Box.drew (Box.new rfl)) hv1) | (with_reducible have y := Box.below (Box.new rfl) hv1) | (with_reducible have y := Box.below y hv1) | (have y := trivial)); (try simp only [World.size_alloc] at y); try (have yz := Box.lt y; have y0 := Box.c y 0 _ rfl; have yf0 := Box.f y 0 _ rfl; have y1 := Box.c y 1 _ rfl; have yf1 := Box.f y 1 _ rfl; have y2 := Box.c y 2 _ rfl; have yf2 := Box.f y 2 _ rfl; have y3 := Box.c y 3 _ rfl; have yf3 := Box.f y 3 _ rfl; have y4 := Box.c y 4 _ rfl; have yf4 := Box.f y 4 _ rfl; have y5 := Box.c y 5 _ rfl; have yf5 := Box.f y 5 _ rfl))
              | (go_at_call 11; refine (change_lim HG.out isU_nil HL _).mono ?_; rintro e v2 ⟨rfl, hv2⟩; have hV2 : Below W1.heap.size W1 v2 := below_thru (by go_grown) hv2; have hs_v2 : W1.heap.size ≤ v2.heap.size := hV2.size; have c_p_v2 := cell_below hV2 T0; have c_q_v2 := cell_below hV2 T1; have c_r_v2 := cell_below hV2 T2; (first | (with_reducible have y := Box.below (Box.drew (Box.new rfl)) hv2) | (with_reducible have y := Box.below (Box.new rfl) hv2) | (with_reducible have y := Box.below y hv2) | (have y := trivial)); (try simp only [World.size_alloc] at y); try (have yz := Box.lt y; have y0 := Box.c y 0 _ rfl; have yf0 := Box.f y 0 _ rfl; have y1 := Box.c y 1 _ rfl; have yf1 := Box.f y 1 _ rfl; have y2 := Box.c y 2 _ rfl; have yf2 := Box.f y 2 _ rfl; have y3 := Box.c y 3 _ rfl; have yf3 := Box.f y 3 _ rfl; have y4 := Box.c y 4 _ rfl; have yf4 := Box.f y 4 _ rfl; have y5 := Box.c y 5 _ rfl; have yf5 := Box.f y 5 _ rfl)))
          all_goals
            go_wp2_with fail
            go_meet
            refine ⟨_, rfl, rfl, ?_, ?_⟩
            all_goals first
              | ((repeat (first | (with_reducible apply put6) | (with_reducible refine other6 ?_ (by first | (dsimp only; omega) | omega) _ _ _ _ _ _) | (with_reducible assumption) | (with_reducible refine Box.drew ?_) | (with_reducible refine Box.drewN ?_ _) | ((with_reducible refine Box.new ?_); simp; done) | (with_reducible apply Box.set2) | (with_reducible refine Box.alloc ?_ _) | (with_reducible refine Box.other ?_ (by first | (dsimp only; omega) | omega) _))); done)
              | (go_grown; done)
      case rest =>
        as_aux_lemma =>
          obtain ⟨b53, rfl, rfl, x_f53, hB53⟩ := hcut
          obtain ⟨w53, rfl⟩ : ∃ u : World, u = wc := ⟨_, rfl⟩
          clear hB52 hs52 c_p52 c_q52 c_r52
          have c_p53 := cell_below hB53 T0
          have c_q53 := cell_below hB53 T1
          have c_r53 := cell_below hB53 T2
          have hs53 : W1.heap.size ≤ w53.heap.size := hB53.size
          have z_f53 := x_f53.lt
          have c_f53_0 := x_f53.c 0 _ rfl; have f_f53_0 := x_f53.f 0 _ rfl
          have c_f53_1 := x_f53.c 1 _ rfl; have f_f53_1 := x_f53.f 1 _ rfl
          have c_f53_2 := x_f53.c 2 _ rfl; have f_f53_2 := x_f53.f 2 _ rfl
          have c_f53_3 := x_f53.c 3 _ rfl; have f_f53_3 := x_f53.f 3 _ rfl
          have c_f53_4 := x_f53.c 4 _ rfl; have f_f53_4 := x_f53.f 4 _ rfl
          have c_f53_5 := x_f53.c 5 _ rfl; have f_f53_5 := x_f53.f 5 _ rfl
          clear x_f53 z_f53 c_f53_0 c_f53_1 c_f53_2 c_f53_3 c_f53_4 c_f53_5 f_f53_0 f_f53_1 f_f53_2 f_f53_3 f_f53_4 f_f53_5
          go_wp2_with fail
          refine (limit_is HL _).mono ?_
          rintro e w54 ⟨rfl, hb⟩
          have hB54 : Below W1.heap.size W1 w54 := below_thru (by go_grown) hb
          have hs54 : W1.heap.size ≤ w54.heap.size := hB54.size
          have c_p54 := cell_below hB54 T0
          have c_q54 := cell_below hB54 T1
          have c_r54 := cell_below hB54 T2
          have t54 := hb.size
          try simp at t54
          clear hb hB53 hs53 c_p53 c_q53 c_r53
          go_wp2_with fail
          refine (check_is HC _).mono ?_
          rintro e w55 ⟨rfl, hb⟩
          have hB55 : Below W1.heap.size W1 w55 := below_thru (by go_grown) hb
          have hs55 : W1.heap.size ≤ w55.heap.size := hB55.size
          have c_p55 := cell_below hB55 T0
          have c_q55 := cell_below hB55 T1
          have c_r55 := cell_below hB55 T2
          have t55 := hb.size
          try simp at t55
          clear hb hB54 hs54 c_p54 c_q54 c_r54
          go_wp2_with fail
          go_roundw
          case rel => exact ⟨k + 1, by go_num, by omega, hB55⟩
          case measure => simp [intOf]; omega
    case neg =>
      clear hL
      go_upto_region 10 with fail
      obtain ⟨wq, rfl⟩ : ∃ u : World, u = wr := ⟨_, rfl⟩
      have hBl := hB50.alloc hs50 (.cells #[.int .i64 5, .int .i64 2, .int .i64 3] 23)
      have hl := Box.new (w := wq) (l := [.int .i64 5, .int .i64 2, .int .i64 3]) (t := 23) rfl
      obtain ⟨w60, hW⟩ : ∃ W, wq.alloc (.cells #[.int .i64 5, .int .i64 2, .int .i64 3] 23) = W := ⟨_, rfl⟩
      have hl : Box w60 wq.heap.size [.int .i64 5, .int .i64 2, .int .i64 3] := by rw [← hW]; exact hl
      rw [hW] at hBl ⊢
      have hbl := below_thru hBW hBl
      clear hW hBl hB50 hs50 hBW
      have x_l60 := hl
      have z_l60 := hl.lt
      have c_l60_0 := hl.c 0 _ rfl
      have c_l60_1 := hl.c 1 _ rfl
      have c_l60_2 := hl.c 2 _ rfl
      go_upto_region 11 with fail
      have hb := fun k hk => names_bads (w := w60) (t := 27) k hk
      have hBW := hbl.alloc hbl.size (.cells #[.int .i64 5, .int .i64 2, .int .i64 3, .int .i64 (-1), .int .i64 0, .int .u64 0, .int .i64 5, .int .i64 2, .int .i64 3, .int .i64 6, .int .i64 0, .int .u64 0, .int .i64 5, .int .i64 2, .int .i64 3, .int .i64 0, .int .i64 (-1), .int .u64 0, .int .i64 5, .int .i64 2, .int .i64 3, .int .i64 0, .int .i64 3, .int .u64 0, .int .i64 5, .int .i64 2, .int .i64 3, .int .i64 5, .int .i64 1, .int .u64 0] 27)
      have hl2 := Box.alloc hl (.cells #[.int .i64 5, .int .i64 2, .int .i64 3, .int .i64 (-1), .int .i64 0, .int .u64 0, .int .i64 5, .int .i64 2, .int .i64 3, .int .i64 6, .int .i64 0, .int .u64 0, .int .i64 5, .int .i64 2, .int .i64 3, .int .i64 0, .int .i64 (-1), .int .u64 0, .int .i64 5, .int .i64 2, .int .i64 3, .int .i64 0, .int .i64 3, .int .u64 0, .int .i64 5, .int .i64 2, .int .i64 3, .int .i64 5, .int .i64 1, .int .u64 0] 27)
      obtain ⟨W2, hW⟩ : ∃ W, w60.alloc (.cells #[.int .i64 5, .int .i64 2, .int .i64 3, .int .i64 (-1), .int .i64 0, .int .u64 0, .int .i64 5, .int .i64 2, .int .i64 3, .int .i64 6, .int .i64 0, .int .u64 0, .int .i64 5, .int .i64 2, .int .i64 3, .int .i64 0, .int .i64 (-1), .int .u64 0, .int .i64 5, .int .i64 2, .int .i64 3, .int .i64 0, .int .i64 3, .int .u64 0, .int .i64 5, .int .i64 2, .int .i64 3, .int .i64 5, .int .i64 1, .int .u64 0] 27) = W := ⟨_, rfl⟩
      rw [hW] at hBW hl2 ⊢
      simp only [hW] at hb
      have l0 := hl2.c 0 _ rfl
      have l1 := hl2.c 1 _ rfl
      have l2 := hl2.c 2 _ rfl
      clear hW hl hl2 hbl x_l60 z_l60 c_l60_0 c_l60_1 c_l60_2
      go_wp2_with fail
      go_loopw [9] (fun s9 wr => ∃ k : Nat, s9 = .int .i64 k ∧ k ≤ 5 ∧ Below W2.heap.size W2 wr) (fun s9 _ => 5 - (intOf s9).toNat)
      case atStart => exact ⟨0, rfl, by omega, Below.refl _ _⟩
      case round =>
        obtain ⟨k, rfl, hk, hB50⟩ := hrel
        have hs50 := hB50.size
        by_cases hlt : k < 5
        case pos =>
          have hlt' : (k : Int) < 5 := by omega
          obtain ⟨l, q, HL, T0, T1, T2, T3, T4, T5⟩ := hb k hlt
          have zt := lt_of_cell T0
          clear hb
          have c_a50 := cell_below hB50 T0
          have c_b50 := cell_below hB50 T1
          have c_c50 := cell_below hB50 T2
          have c_d50 := cell_below hB50 T3
          have c_e50 := cell_below hB50 T4
          have c_f50 := cell_below hB50 T5
          go_wp2_with fail
          refine (refill_bad HL _).mono ?_
          rintro e w51 ⟨rfl, hb⟩
          have hB51 : Below W2.heap.size W2 w51 := below_thru (by go_grown) hb
          have hs51 : W2.heap.size ≤ w51.heap.size := hB51.size
          have c_a51 := cell_below hB51 T0
          have c_b51 := cell_below hB51 T1
          have c_c51 := cell_below hB51 T2
          have c_d51 := cell_below hB51 T3
          have c_e51 := cell_below hB51 T4
          have c_f51 := cell_below hB51 T5
          have t51 := hb.size
          try simp at t51
          clear hb hB50 hs50 c_a50 c_b50 c_c50 c_d50 c_e50 c_f50
          go_upto_region 15 with fail
          have x_x52 : Box (w51.alloc (.cells #[.int .i64 0, .int .i64 0, .int .i64 0, .int .i64 0, .int .i64 0, .int .u64 0] 27)) w51.heap.size [.int .i64 0, .int .i64 0, .int .i64 0, .int .i64 0, .int .i64 0, .int .u64 0] := Box.new rfl
          have hB52 := hB51.alloc hs51 (.cells #[.int .i64 0, .int .i64 0, .int .i64 0, .int .i64 0, .int .i64 0, .int .u64 0] 27)
          have hs52 := hB52.size
          obtain ⟨w52, h9⟩ : ∃ W, w51.alloc (.cells #[.int .i64 0, .int .i64 0, .int .i64 0, .int .i64 0, .int .i64 0, .int .u64 0] 27) = W := ⟨_, rfl⟩
          rw [h9] at x_x52 hB52 hs52 ⊢
          clear hB51 hs51 h9
          have z_x52 := x_x52.lt
          have c_x52_0 := x_x52.c 0 _ rfl; have f_x52_0 := x_x52.f 0 _ rfl
          have c_x52_1 := x_x52.c 1 _ rfl; have f_x52_1 := x_x52.f 1 _ rfl
          have c_x52_2 := x_x52.c 2 _ rfl; have f_x52_2 := x_x52.f 2 _ rfl
          have c_x52_3 := x_x52.c 3 _ rfl; have f_x52_3 := x_x52.f 3 _ rfl
          have c_x52_4 := x_x52.c 4 _ rfl; have f_x52_4 := x_x52.f 4 _ rfl
          have c_x52_5 := x_x52.c 5 _ rfl; have f_x52_5 := x_x52.f 5 _ rfl
          have c_a52 := cell_below hB52 T0
          have c_b52 := cell_below hB52 T1
          have c_c52 := cell_below hB52 T2
          have c_d52 := cell_below hB52 T3
          have c_e52 := cell_below hB52 T4
          have c_f52 := cell_below hB52 T5
          clear x_x52 z_x52 c_x52_0 c_x52_1 c_x52_2 c_x52_3 c_x52_4 c_x52_5 f_x52_0 f_x52_1 f_x52_2 f_x52_3 f_x52_4 f_x52_5
          go_wp2_with fail
          refine (charge_bad HL _).mono ?_
          rintro e w53 ⟨rfl, hb⟩
          have hB53 : Below W2.heap.size W2 w53 := below_thru (by go_grown) hb
          have hs53 : W2.heap.size ≤ w53.heap.size := hB53.size
          have c_a53 := cell_below hB53 T0
          have c_b53 := cell_below hB53 T1
          have c_c53 := cell_below hB53 T2
          have c_d53 := cell_below hB53 T3
          have c_e53 := cell_below hB53 T4
          have c_f53 := cell_below hB53 T5
          have t53 := hb.size
          try simp at t53
          clear hb hB52 hs52 c_a52 c_b52 c_c52 c_d52 c_e52 c_f52
          go_upto_region 16 with fail
          have x_y54 : Box (w53.alloc (.cells #[.int .i64 0, .int .i64 0, .int .i64 0, .int .i64 0, .int .i64 0, .int .u64 0] 27)) w53.heap.size [.int .i64 0, .int .i64 0, .int .i64 0, .int .i64 0, .int .i64 0, .int .u64 0] := Box.new rfl
          have hB54 := hB53.alloc hs53 (.cells #[.int .i64 0, .int .i64 0, .int .i64 0, .int .i64 0, .int .i64 0, .int .u64 0] 27)
          have hs54 := hB54.size
          obtain ⟨w54, h9⟩ : ∃ W, w53.alloc (.cells #[.int .i64 0, .int .i64 0, .int .i64 0, .int .i64 0, .int .i64 0, .int .u64 0] 27) = W := ⟨_, rfl⟩
          rw [h9] at x_y54 hB54 hs54 ⊢
          clear hB53 hs53 h9
          have z_y54 := x_y54.lt
          have c_y54_0 := x_y54.c 0 _ rfl; have f_y54_0 := x_y54.f 0 _ rfl
          have c_y54_1 := x_y54.c 1 _ rfl; have f_y54_1 := x_y54.f 1 _ rfl
          have c_y54_2 := x_y54.c 2 _ rfl; have f_y54_2 := x_y54.f 2 _ rfl
          have c_y54_3 := x_y54.c 3 _ rfl; have f_y54_3 := x_y54.f 3 _ rfl
          have c_y54_4 := x_y54.c 4 _ rfl; have f_y54_4 := x_y54.f 4 _ rfl
          have c_y54_5 := x_y54.c 5 _ rfl; have f_y54_5 := x_y54.f 5 _ rfl
          have c_a54 := cell_below hB54 T0
          have c_b54 := cell_below hB54 T1
          have c_c54 := cell_below hB54 T2
          have c_d54 := cell_below hB54 T3
          have c_e54 := cell_below hB54 T4
          have c_f54 := cell_below hB54 T5
          clear x_y54 z_y54 c_y54_0 c_y54_1 c_y54_2 c_y54_3 c_y54_4 c_y54_5 f_y54_0 f_y54_1 f_y54_2 f_y54_3 f_y54_4 f_y54_5
          go_wp2_with fail
          refine (wait_bad HL _).mono ?_
          rintro e w55 ⟨rfl, hb⟩
          have hB55 : Below W2.heap.size W2 w55 := below_thru (by go_grown) hb
          have hs55 : W2.heap.size ≤ w55.heap.size := hB55.size
          have c_a55 := cell_below hB55 T0
          have c_b55 := cell_below hB55 T1
          have c_c55 := cell_below hB55 T2
          have c_d55 := cell_below hB55 T3
          have c_e55 := cell_below hB55 T4
          have c_f55 := cell_below hB55 T5
          have t55 := hb.size
          try simp at t55
          clear hb hB54 hs54 c_a54 c_b54 c_c54 c_d54 c_e54 c_f54
          go_wp2_with fail
          refine (check_is HL _).mono ?_
          rintro e w56 ⟨rfl, hb⟩
          have hB56 : Below W2.heap.size W2 w56 := below_thru (by go_grown) hb
          have hs56 : W2.heap.size ≤ w56.heap.size := hB56.size
          have c_a56 := cell_below hB56 T0
          have c_b56 := cell_below hB56 T1
          have c_c56 := cell_below hB56 T2
          have c_d56 := cell_below hB56 T3
          have c_e56 := cell_below hB56 T4
          have c_f56 := cell_below hB56 T5
          have t56 := hb.size
          try simp at t56
          clear hb hB55 hs55 c_a55 c_b55 c_c55 c_d55 c_e55 c_f55
          go_wp2_with fail
          go_roundw
          case rel => exact ⟨k + 1, by go_num, by omega, hB56⟩
          case measure => simp [intOf]; omega
        case neg =>
          clear hb
          have b_n : Buc 1000000000 0 1000000000 0 0 0 := Buc.of (by decide) (by unfold isU; omega)
          have B_n := Lib.hid b_n
          have b_s : Buc 1000000000 1 1000000000 0 0 0 := Buc.of (by decide) (by unfold isU; omega)
          have B_s := Lib.hid b_s
          have b_u : Buc 1000000000 1000000000 1 0 0 0 := Buc.of (by decide) (by unfold isU; omega)
          have B_u := Lib.hid b_u
          have b_d : Buc 3 1 2 0 0 18446744073709551612 := Buc.of (by decide) (by unfold isU; omega)
          have B_d := Lib.hid b_d
          have f0 := Lib.hid (show filL 1000000000 0 1000000000 0 0 0 18446744073709551615 = 0 by decide +kernel)
          have g0 := Lib.hid (show filP 1000000000 0 1000000000 0 0 0 18446744073709551615 = 0 by decide +kernel)
          have i0 : isU 18446744073709551615 := by unfold isU; omega
          have f1 := Lib.hid (show filL 1000000000 1 1000000000 0 0 0 18446744073709551615 = 1000000000 by decide +kernel)
          have g1 := Lib.hid (show filP 1000000000 1 1000000000 0 0 0 18446744073709551615 = 0 by decide +kernel)
          have i1 : isU 18446744073709551615 := by unfold isU; omega
          have f2 := Lib.hid (show filL 1000000000 1 1000000000 0 0 0 999999999 = 0 by decide +kernel)
          have g2 := Lib.hid (show filP 1000000000 1 1000000000 0 0 0 999999999 = 999999999 by decide +kernel)
          have i2 : isU 999999999 := by unfold isU; omega
          have f3 := Lib.hid (show filL 1000000000 1000000000 1 0 0 0 1 = 1000000000 by decide +kernel)
          have g3 := Lib.hid (show filP 1000000000 1000000000 1 0 0 0 1 = 0 by decide +kernel)
          have i3 : isU 1 := by unfold isU; omega
          have f4 := Lib.hid (show filL 1000000000 1000000000 1 0 0 0 18446744073709551615 = 1000000000 by decide +kernel)
          have g4 := Lib.hid (show filP 1000000000 1000000000 1 0 0 0 18446744073709551615 = 0 by decide +kernel)
          have i4 : isU 18446744073709551615 := by unfold isU; omega
          have f5 := Lib.hid (show filL 3 1 2 0 0 18446744073709551612 18446744073709551615 = 1 by decide +kernel)
          have g5 := Lib.hid (show filP 3 1 2 0 0 18446744073709551612 18446744073709551615 = 1 by decide +kernel)
          have i5 : isU 18446744073709551615 := by unfold isU; omega
          have n0 := Lib.hid (show IsWait 1000000000 0 1000000000 0 0 0 1 18446744073709551615 from isWait_never b_n (.inr (by decide +kernel)))
          have n1 := Lib.hid (show IsWait 1000000000 0 1000000000 0 0 0 0 0 from isWait_zero b_n (by omega))
          have n2 := Lib.hid (show IsWait 1000000000 1 1000000000 0 0 0 1000000000 1000000000000000000 from isWait_some b_s (by omega) (by omega) (by omega) (by decide +kernel) (fun _ => by decide +kernel))
          have n3 := Lib.hid (show IsWait 1000000000 1000000000 1 0 0 0 1000000000 1 from isWait_some b_u (by omega) (by omega) (by omega) (by decide +kernel) (fun _ => by decide +kernel))
          have n4 := Lib.hid (show IsWait 3 1 2 0 0 18446744073709551612 1 2 from isWait_some b_d (by omega) (by omega) (by omega) (by decide +kernel) (fun _ => by decide +kernel))
          have n5 := Lib.hid (show IsWait 3 1 2 0 0 18446744073709551612 2 18446744073709551615 from isWait_never b_d (.inr (by decide +kernel)))
          have n6 := Lib.hid (show IsWait 3 1 2 0 0 18446744073709551612 9223372036854775807 18446744073709551615 from isWait_never b_d (.inl (by omega)))
          have hl5 := Lib.hid (show bucE 5 2 3 0 0 = 0 by decide)
          clear b_n b_s b_u b_d
          have zl := lt_of_cell l0
          have c_l050 := cell_below hB50 l0
          have c_l150 := cell_below hB50 l1
          have c_l250 := cell_below hB50 l2
          go_wp2_with fail
          refine (given_any _).mono ?_
          rintro e w51 ⟨rfl, hb⟩
          have hB51 : Below W2.heap.size W2 w51 := below_thru (by go_grown) hb
          have hs51 : W2.heap.size ≤ w51.heap.size := hB51.size
          have c_l051 := cell_below hB51 l0
          have c_l151 := cell_below hB51 l1
          have c_l251 := cell_below hB51 l2
          have t51 := hb.size
          try simp at t51
          clear hb hB50 hs50 c_l050 c_l150 c_l250
          go_wp2_with fail
          refine (charge_arg HK (by omega) _).mono ?_
          rintro e w52 ⟨rfl, hb⟩
          have hB52 : Below W2.heap.size W2 w52 := below_thru (by go_grown) hb
          have hs52 : W2.heap.size ≤ w52.heap.size := hB52.size
          have c_l052 := cell_below hB52 l0
          have c_l152 := cell_below hB52 l1
          have c_l252 := cell_below hB52 l2
          have t52 := hb.size
          try simp at t52
          clear hb hB51 hs51 c_l051 c_l151 c_l251
          go_upto_region 20 with fail
          have x_x53 : Box (w52.alloc (.cells #[.int .i64 0, .int .i64 0, .int .i64 0, .int .i64 0, .int .i64 0, .int .u64 0] 27)) w52.heap.size [.int .i64 0, .int .i64 0, .int .i64 0, .int .i64 0, .int .i64 0, .int .u64 0] := Box.new rfl
          have hB53 := hB52.alloc hs52 (.cells #[.int .i64 0, .int .i64 0, .int .i64 0, .int .i64 0, .int .i64 0, .int .u64 0] 27)
          have hs53 := hB53.size
          obtain ⟨w53, h9⟩ : ∃ W, w52.alloc (.cells #[.int .i64 0, .int .i64 0, .int .i64 0, .int .i64 0, .int .i64 0, .int .u64 0] 27) = W := ⟨_, rfl⟩
          rw [h9] at x_x53 hB53 hs53 ⊢
          clear hB52 hs52 h9
          have z_x53 := x_x53.lt
          have c_x53_0 := x_x53.c 0 _ rfl; have f_x53_0 := x_x53.f 0 _ rfl
          have c_x53_1 := x_x53.c 1 _ rfl; have f_x53_1 := x_x53.f 1 _ rfl
          have c_x53_2 := x_x53.c 2 _ rfl; have f_x53_2 := x_x53.f 2 _ rfl
          have c_x53_3 := x_x53.c 3 _ rfl; have f_x53_3 := x_x53.f 3 _ rfl
          have c_x53_4 := x_x53.c 4 _ rfl; have f_x53_4 := x_x53.f 4 _ rfl
          have c_x53_5 := x_x53.c 5 _ rfl; have f_x53_5 := x_x53.f 5 _ rfl
          have c_l053 := cell_below hB53 l0
          have c_l153 := cell_below hB53 l1
          have c_l253 := cell_below hB53 l2
          clear x_x53 z_x53 c_x53_0 c_x53_1 c_x53_2 c_x53_3 c_x53_4 c_x53_5 f_x53_0 f_x53_1 f_x53_2 f_x53_3 f_x53_4 f_x53_5
          go_wp2_with fail
          refine (given_any _).mono ?_
          rintro e w54 ⟨rfl, hb⟩
          have hB54 : Below W2.heap.size W2 w54 := below_thru (by go_grown) hb
          have hs54 : W2.heap.size ≤ w54.heap.size := hB54.size
          have c_l054 := cell_below hB54 l0
          have c_l154 := cell_below hB54 l1
          have c_l254 := cell_below hB54 l2
          have t54 := hb.size
          try simp at t54
          clear hb hB53 hs53 c_l053 c_l153 c_l253
          go_wp2_with fail
          refine (charge_low HK (by omega) (by omega) _).mono ?_
          rintro e w55 ⟨rfl, hb⟩
          have hB55 : Below W2.heap.size W2 w55 := below_thru (by go_grown) hb
          have hs55 : W2.heap.size ≤ w55.heap.size := hB55.size
          have c_l055 := cell_below hB55 l0
          have c_l155 := cell_below hB55 l1
          have c_l255 := cell_below hB55 l2
          have t55 := hb.size
          try simp at t55
          clear hb hB54 hs54 c_l054 c_l154 c_l254
          go_upto_region 21 with fail
          have x_y56 : Box (w55.alloc (.cells #[.int .i64 0, .int .i64 0, .int .i64 0, .int .i64 0, .int .i64 0, .int .u64 0] 27)) w55.heap.size [.int .i64 0, .int .i64 0, .int .i64 0, .int .i64 0, .int .i64 0, .int .u64 0] := Box.new rfl
          have hB56 := hB55.alloc hs55 (.cells #[.int .i64 0, .int .i64 0, .int .i64 0, .int .i64 0, .int .i64 0, .int .u64 0] 27)
          have hs56 := hB56.size
          obtain ⟨w56, h9⟩ : ∃ W, w55.alloc (.cells #[.int .i64 0, .int .i64 0, .int .i64 0, .int .i64 0, .int .i64 0, .int .u64 0] 27) = W := ⟨_, rfl⟩
          rw [h9] at x_y56 hB56 hs56 ⊢
          clear hB55 hs55 h9
          have z_y56 := x_y56.lt
          have c_y56_0 := x_y56.c 0 _ rfl; have f_y56_0 := x_y56.f 0 _ rfl
          have c_y56_1 := x_y56.c 1 _ rfl; have f_y56_1 := x_y56.f 1 _ rfl
          have c_y56_2 := x_y56.c 2 _ rfl; have f_y56_2 := x_y56.f 2 _ rfl
          have c_y56_3 := x_y56.c 3 _ rfl; have f_y56_3 := x_y56.f 3 _ rfl
          have c_y56_4 := x_y56.c 4 _ rfl; have f_y56_4 := x_y56.f 4 _ rfl
          have c_y56_5 := x_y56.c 5 _ rfl; have f_y56_5 := x_y56.f 5 _ rfl
          have c_l056 := cell_below hB56 l0
          have c_l156 := cell_below hB56 l1
          have c_l256 := cell_below hB56 l2
          clear x_y56 z_y56 c_y56_0 c_y56_1 c_y56_2 c_y56_3 c_y56_4 c_y56_5 f_y56_0 f_y56_1 f_y56_2 f_y56_3 f_y56_4 f_y56_5
          go_wp2_with fail
          refine (given_any _).mono ?_
          rintro e w57 ⟨rfl, hb⟩
          have hB57 : Below W2.heap.size W2 w57 := below_thru (by go_grown) hb
          have hs57 : W2.heap.size ≤ w57.heap.size := hB57.size
          have c_l057 := cell_below hB57 l0
          have c_l157 := cell_below hB57 l1
          have c_l257 := cell_below hB57 l2
          have t57 := hb.size
          try simp at t57
          clear hb hB56 hs56 c_l056 c_l156 c_l256
          go_wp2_with fail
          refine (wait_arg HK (by omega) _).mono ?_
          rintro e w58 ⟨rfl, hb⟩
          have hB58 : Below W2.heap.size W2 w58 := below_thru (by go_grown) hb
          have hs58 : W2.heap.size ≤ w58.heap.size := hB58.size
          have c_l058 := cell_below hB58 l0
          have c_l158 := cell_below hB58 l1
          have c_l258 := cell_below hB58 l2
          have t58 := hb.size
          try simp at t58
          clear hb hB57 hs57 c_l057 c_l157 c_l257
          go_wp2_with fail
          refine (given_any _).mono ?_
          rintro e w59 ⟨rfl, hb⟩
          have hB59 : Below W2.heap.size W2 w59 := below_thru (by go_grown) hb
          have hs59 : W2.heap.size ≤ w59.heap.size := hB59.size
          have c_l059 := cell_below hB59 l0
          have c_l159 := cell_below hB59 l1
          have c_l259 := cell_below hB59 l2
          have t59 := hb.size
          try simp at t59
          clear hb hB58 hs58 c_l058 c_l158 c_l258
          go_wp2_with fail
          refine (charge_is (c := 0) HK (by omega) (by omega) (by omega) (Lib.hid (show (1 : Int) - 0 = 1 by decide)) _).mono ?_
          rintro e w60 ⟨rfl, hb⟩
          have hB60 : Below W2.heap.size W2 w60 := below_thru (by go_grown) hb
          have hs60 : W2.heap.size ≤ w60.heap.size := hB60.size
          have c_l060 := cell_below hB60 l0
          have c_l160 := cell_below hB60 l1
          have c_l260 := cell_below hB60 l2
          have t60 := hb.size
          try simp at t60
          clear hb hB59 hs59 c_l059 c_l159 c_l259
          go_upto_region 23 with fail
          have x_same61 : Box (w60.alloc (.cells #[.int .i64 10, .int .i64 3, .int .i64 2, .int .i64 1, .int .i64 0, .int .u64 0] 27)) w60.heap.size [.int .i64 10, .int .i64 3, .int .i64 2, .int .i64 1, .int .i64 0, .int .u64 0] := Box.new rfl
          have hB61 := hB60.alloc hs60 (.cells #[.int .i64 10, .int .i64 3, .int .i64 2, .int .i64 1, .int .i64 0, .int .u64 0] 27)
          have hs61 := hB61.size
          obtain ⟨w61, h9⟩ : ∃ W, w60.alloc (.cells #[.int .i64 10, .int .i64 3, .int .i64 2, .int .i64 1, .int .i64 0, .int .u64 0] 27) = W := ⟨_, rfl⟩
          rw [h9] at x_same61 hB61 hs61 ⊢
          clear hB60 hs60 h9
          have z_same61 := x_same61.lt
          have c_same61_0 := x_same61.c 0 _ rfl; have f_same61_0 := x_same61.f 0 _ rfl
          have c_same61_1 := x_same61.c 1 _ rfl; have f_same61_1 := x_same61.f 1 _ rfl
          have c_same61_2 := x_same61.c 2 _ rfl; have f_same61_2 := x_same61.f 2 _ rfl
          have c_same61_3 := x_same61.c 3 _ rfl; have f_same61_3 := x_same61.f 3 _ rfl
          have c_same61_4 := x_same61.c 4 _ rfl; have f_same61_4 := x_same61.f 4 _ rfl
          have c_same61_5 := x_same61.c 5 _ rfl; have f_same61_5 := x_same61.f 5 _ rfl
          have c_l061 := cell_below hB61 l0
          have c_l161 := cell_below hB61 l1
          have c_l261 := cell_below hB61 l2
          go_upto_region 24 with fail
          have x_n62 : Box (w61.alloc (.cells #[.int .i64 1000000000, .int .i64 0, .int .i64 1000000000, .int .i64 0, .int .i64 0, .int .u64 0] 27)) w61.heap.size [.int .i64 1000000000, .int .i64 0, .int .i64 1000000000, .int .i64 0, .int .i64 0, .int .u64 0] := Box.new rfl
          have x_same62 := Box.alloc x_same61 (.cells #[.int .i64 1000000000, .int .i64 0, .int .i64 1000000000, .int .i64 0, .int .i64 0, .int .u64 0] 27)
          have hB62 := hB61.alloc hs61 (.cells #[.int .i64 1000000000, .int .i64 0, .int .i64 1000000000, .int .i64 0, .int .i64 0, .int .u64 0] 27)
          have hs62 := hB62.size
          obtain ⟨w62, h9⟩ : ∃ W, w61.alloc (.cells #[.int .i64 1000000000, .int .i64 0, .int .i64 1000000000, .int .i64 0, .int .i64 0, .int .u64 0] 27) = W := ⟨_, rfl⟩
          rw [h9] at x_n62 x_same62 hB62 hs62 ⊢
          clear hB61 hs61 h9 x_same61 z_same61 c_same61_0 c_same61_1 c_same61_2 c_same61_3 c_same61_4 c_same61_5 f_same61_0 f_same61_1 f_same61_2 f_same61_3 f_same61_4 f_same61_5
          have z_same62 := x_same62.lt
          have c_same62_0 := x_same62.c 0 _ rfl; have f_same62_0 := x_same62.f 0 _ rfl
          have c_same62_1 := x_same62.c 1 _ rfl; have f_same62_1 := x_same62.f 1 _ rfl
          have c_same62_2 := x_same62.c 2 _ rfl; have f_same62_2 := x_same62.f 2 _ rfl
          have c_same62_3 := x_same62.c 3 _ rfl; have f_same62_3 := x_same62.f 3 _ rfl
          have c_same62_4 := x_same62.c 4 _ rfl; have f_same62_4 := x_same62.f 4 _ rfl
          have c_same62_5 := x_same62.c 5 _ rfl; have f_same62_5 := x_same62.f 5 _ rfl
          have z_n62 := x_n62.lt
          have c_n62_0 := x_n62.c 0 _ rfl; have f_n62_0 := x_n62.f 0 _ rfl
          have c_n62_1 := x_n62.c 1 _ rfl; have f_n62_1 := x_n62.f 1 _ rfl
          have c_n62_2 := x_n62.c 2 _ rfl; have f_n62_2 := x_n62.f 2 _ rfl
          have c_n62_3 := x_n62.c 3 _ rfl; have f_n62_3 := x_n62.f 3 _ rfl
          have c_n62_4 := x_n62.c 4 _ rfl; have f_n62_4 := x_n62.f 4 _ rfl
          have c_n62_5 := x_n62.c 5 _ rfl; have f_n62_5 := x_n62.f 5 _ rfl
          have c_l062 := cell_below hB62 l0
          have c_l162 := cell_below hB62 l1
          have c_l262 := cell_below hB62 l2
          go_upto_region 25 with fail
          have x_s63 : Box (w62.alloc (.cells #[.int .i64 1000000000, .int .i64 1, .int .i64 1000000000, .int .i64 0, .int .i64 0, .int .u64 0] 27)) w62.heap.size [.int .i64 1000000000, .int .i64 1, .int .i64 1000000000, .int .i64 0, .int .i64 0, .int .u64 0] := Box.new rfl
          have x_same63 := Box.alloc x_same62 (.cells #[.int .i64 1000000000, .int .i64 1, .int .i64 1000000000, .int .i64 0, .int .i64 0, .int .u64 0] 27)
          have x_n63 := Box.alloc x_n62 (.cells #[.int .i64 1000000000, .int .i64 1, .int .i64 1000000000, .int .i64 0, .int .i64 0, .int .u64 0] 27)
          have hB63 := hB62.alloc hs62 (.cells #[.int .i64 1000000000, .int .i64 1, .int .i64 1000000000, .int .i64 0, .int .i64 0, .int .u64 0] 27)
          have hs63 := hB63.size
          obtain ⟨w63, h9⟩ : ∃ W, w62.alloc (.cells #[.int .i64 1000000000, .int .i64 1, .int .i64 1000000000, .int .i64 0, .int .i64 0, .int .u64 0] 27) = W := ⟨_, rfl⟩
          rw [h9] at x_s63 x_same63 x_n63 hB63 hs63 ⊢
          clear hB62 hs62 h9 x_same62 z_same62 c_same62_0 c_same62_1 c_same62_2 c_same62_3 c_same62_4 c_same62_5 f_same62_0 f_same62_1 f_same62_2 f_same62_3 f_same62_4 f_same62_5 x_n62 z_n62 c_n62_0 c_n62_1 c_n62_2 c_n62_3 c_n62_4 c_n62_5 f_n62_0 f_n62_1 f_n62_2 f_n62_3 f_n62_4 f_n62_5
          have z_same63 := x_same63.lt
          have c_same63_0 := x_same63.c 0 _ rfl; have f_same63_0 := x_same63.f 0 _ rfl
          have c_same63_1 := x_same63.c 1 _ rfl; have f_same63_1 := x_same63.f 1 _ rfl
          have c_same63_2 := x_same63.c 2 _ rfl; have f_same63_2 := x_same63.f 2 _ rfl
          have c_same63_3 := x_same63.c 3 _ rfl; have f_same63_3 := x_same63.f 3 _ rfl
          have c_same63_4 := x_same63.c 4 _ rfl; have f_same63_4 := x_same63.f 4 _ rfl
          have c_same63_5 := x_same63.c 5 _ rfl; have f_same63_5 := x_same63.f 5 _ rfl
          have z_n63 := x_n63.lt
          have c_n63_0 := x_n63.c 0 _ rfl; have f_n63_0 := x_n63.f 0 _ rfl
          have c_n63_1 := x_n63.c 1 _ rfl; have f_n63_1 := x_n63.f 1 _ rfl
          have c_n63_2 := x_n63.c 2 _ rfl; have f_n63_2 := x_n63.f 2 _ rfl
          have c_n63_3 := x_n63.c 3 _ rfl; have f_n63_3 := x_n63.f 3 _ rfl
          have c_n63_4 := x_n63.c 4 _ rfl; have f_n63_4 := x_n63.f 4 _ rfl
          have c_n63_5 := x_n63.c 5 _ rfl; have f_n63_5 := x_n63.f 5 _ rfl
          have z_s63 := x_s63.lt
          have c_s63_0 := x_s63.c 0 _ rfl; have f_s63_0 := x_s63.f 0 _ rfl
          have c_s63_1 := x_s63.c 1 _ rfl; have f_s63_1 := x_s63.f 1 _ rfl
          have c_s63_2 := x_s63.c 2 _ rfl; have f_s63_2 := x_s63.f 2 _ rfl
          have c_s63_3 := x_s63.c 3 _ rfl; have f_s63_3 := x_s63.f 3 _ rfl
          have c_s63_4 := x_s63.c 4 _ rfl; have f_s63_4 := x_s63.f 4 _ rfl
          have c_s63_5 := x_s63.c 5 _ rfl; have f_s63_5 := x_s63.f 5 _ rfl
          have c_l063 := cell_below hB63 l0
          have c_l163 := cell_below hB63 l1
          have c_l263 := cell_below hB63 l2
          go_upto_region 26 with fail
          have x_u64 : Box (w63.alloc (.cells #[.int .i64 1000000000, .int .i64 1000000000, .int .i64 1, .int .i64 0, .int .i64 0, .int .u64 0] 27)) w63.heap.size [.int .i64 1000000000, .int .i64 1000000000, .int .i64 1, .int .i64 0, .int .i64 0, .int .u64 0] := Box.new rfl
          have x_same64 := Box.alloc x_same63 (.cells #[.int .i64 1000000000, .int .i64 1000000000, .int .i64 1, .int .i64 0, .int .i64 0, .int .u64 0] 27)
          have x_n64 := Box.alloc x_n63 (.cells #[.int .i64 1000000000, .int .i64 1000000000, .int .i64 1, .int .i64 0, .int .i64 0, .int .u64 0] 27)
          have x_s64 := Box.alloc x_s63 (.cells #[.int .i64 1000000000, .int .i64 1000000000, .int .i64 1, .int .i64 0, .int .i64 0, .int .u64 0] 27)
          have hB64 := hB63.alloc hs63 (.cells #[.int .i64 1000000000, .int .i64 1000000000, .int .i64 1, .int .i64 0, .int .i64 0, .int .u64 0] 27)
          have hs64 := hB64.size
          obtain ⟨w64, h9⟩ : ∃ W, w63.alloc (.cells #[.int .i64 1000000000, .int .i64 1000000000, .int .i64 1, .int .i64 0, .int .i64 0, .int .u64 0] 27) = W := ⟨_, rfl⟩
          rw [h9] at x_u64 x_same64 x_n64 x_s64 hB64 hs64 ⊢
          clear hB63 hs63 h9 x_same63 z_same63 c_same63_0 c_same63_1 c_same63_2 c_same63_3 c_same63_4 c_same63_5 f_same63_0 f_same63_1 f_same63_2 f_same63_3 f_same63_4 f_same63_5 x_n63 z_n63 c_n63_0 c_n63_1 c_n63_2 c_n63_3 c_n63_4 c_n63_5 f_n63_0 f_n63_1 f_n63_2 f_n63_3 f_n63_4 f_n63_5 x_s63 z_s63 c_s63_0 c_s63_1 c_s63_2 c_s63_3 c_s63_4 c_s63_5 f_s63_0 f_s63_1 f_s63_2 f_s63_3 f_s63_4 f_s63_5
          have z_same64 := x_same64.lt
          have c_same64_0 := x_same64.c 0 _ rfl; have f_same64_0 := x_same64.f 0 _ rfl
          have c_same64_1 := x_same64.c 1 _ rfl; have f_same64_1 := x_same64.f 1 _ rfl
          have c_same64_2 := x_same64.c 2 _ rfl; have f_same64_2 := x_same64.f 2 _ rfl
          have c_same64_3 := x_same64.c 3 _ rfl; have f_same64_3 := x_same64.f 3 _ rfl
          have c_same64_4 := x_same64.c 4 _ rfl; have f_same64_4 := x_same64.f 4 _ rfl
          have c_same64_5 := x_same64.c 5 _ rfl; have f_same64_5 := x_same64.f 5 _ rfl
          have z_n64 := x_n64.lt
          have c_n64_0 := x_n64.c 0 _ rfl; have f_n64_0 := x_n64.f 0 _ rfl
          have c_n64_1 := x_n64.c 1 _ rfl; have f_n64_1 := x_n64.f 1 _ rfl
          have c_n64_2 := x_n64.c 2 _ rfl; have f_n64_2 := x_n64.f 2 _ rfl
          have c_n64_3 := x_n64.c 3 _ rfl; have f_n64_3 := x_n64.f 3 _ rfl
          have c_n64_4 := x_n64.c 4 _ rfl; have f_n64_4 := x_n64.f 4 _ rfl
          have c_n64_5 := x_n64.c 5 _ rfl; have f_n64_5 := x_n64.f 5 _ rfl
          have z_s64 := x_s64.lt
          have c_s64_0 := x_s64.c 0 _ rfl; have f_s64_0 := x_s64.f 0 _ rfl
          have c_s64_1 := x_s64.c 1 _ rfl; have f_s64_1 := x_s64.f 1 _ rfl
          have c_s64_2 := x_s64.c 2 _ rfl; have f_s64_2 := x_s64.f 2 _ rfl
          have c_s64_3 := x_s64.c 3 _ rfl; have f_s64_3 := x_s64.f 3 _ rfl
          have c_s64_4 := x_s64.c 4 _ rfl; have f_s64_4 := x_s64.f 4 _ rfl
          have c_s64_5 := x_s64.c 5 _ rfl; have f_s64_5 := x_s64.f 5 _ rfl
          have z_u64 := x_u64.lt
          have c_u64_0 := x_u64.c 0 _ rfl; have f_u64_0 := x_u64.f 0 _ rfl
          have c_u64_1 := x_u64.c 1 _ rfl; have f_u64_1 := x_u64.f 1 _ rfl
          have c_u64_2 := x_u64.c 2 _ rfl; have f_u64_2 := x_u64.f 2 _ rfl
          have c_u64_3 := x_u64.c 3 _ rfl; have f_u64_3 := x_u64.f 3 _ rfl
          have c_u64_4 := x_u64.c 4 _ rfl; have f_u64_4 := x_u64.f 4 _ rfl
          have c_u64_5 := x_u64.c 5 _ rfl; have f_u64_5 := x_u64.f 5 _ rfl
          have c_l064 := cell_below hB64 l0
          have c_l164 := cell_below hB64 l1
          have c_l264 := cell_below hB64 l2
          go_upto_region 27 with fail
          have x_d65 : Box (w64.alloc (.cells #[.int .i64 3, .int .i64 1, .int .i64 2, .int .i64 0, .int .i64 0, .int .u64 18446744073709551612] 27)) w64.heap.size [.int .i64 3, .int .i64 1, .int .i64 2, .int .i64 0, .int .i64 0, .int .u64 18446744073709551612] := Box.new rfl
          have x_same65 := Box.alloc x_same64 (.cells #[.int .i64 3, .int .i64 1, .int .i64 2, .int .i64 0, .int .i64 0, .int .u64 18446744073709551612] 27)
          have x_n65 := Box.alloc x_n64 (.cells #[.int .i64 3, .int .i64 1, .int .i64 2, .int .i64 0, .int .i64 0, .int .u64 18446744073709551612] 27)
          have x_s65 := Box.alloc x_s64 (.cells #[.int .i64 3, .int .i64 1, .int .i64 2, .int .i64 0, .int .i64 0, .int .u64 18446744073709551612] 27)
          have x_u65 := Box.alloc x_u64 (.cells #[.int .i64 3, .int .i64 1, .int .i64 2, .int .i64 0, .int .i64 0, .int .u64 18446744073709551612] 27)
          have hB65 := hB64.alloc hs64 (.cells #[.int .i64 3, .int .i64 1, .int .i64 2, .int .i64 0, .int .i64 0, .int .u64 18446744073709551612] 27)
          have hs65 := hB65.size
          obtain ⟨w65, h9⟩ : ∃ W, w64.alloc (.cells #[.int .i64 3, .int .i64 1, .int .i64 2, .int .i64 0, .int .i64 0, .int .u64 18446744073709551612] 27) = W := ⟨_, rfl⟩
          rw [h9] at x_d65 x_same65 x_n65 x_s65 x_u65 hB65 hs65 ⊢
          clear hB64 hs64 h9 x_same64 z_same64 c_same64_0 c_same64_1 c_same64_2 c_same64_3 c_same64_4 c_same64_5 f_same64_0 f_same64_1 f_same64_2 f_same64_3 f_same64_4 f_same64_5 x_n64 z_n64 c_n64_0 c_n64_1 c_n64_2 c_n64_3 c_n64_4 c_n64_5 f_n64_0 f_n64_1 f_n64_2 f_n64_3 f_n64_4 f_n64_5 x_s64 z_s64 c_s64_0 c_s64_1 c_s64_2 c_s64_3 c_s64_4 c_s64_5 f_s64_0 f_s64_1 f_s64_2 f_s64_3 f_s64_4 f_s64_5 x_u64 z_u64 c_u64_0 c_u64_1 c_u64_2 c_u64_3 c_u64_4 c_u64_5 f_u64_0 f_u64_1 f_u64_2 f_u64_3 f_u64_4 f_u64_5
          have z_same65 := x_same65.lt
          have c_same65_0 := x_same65.c 0 _ rfl; have f_same65_0 := x_same65.f 0 _ rfl
          have c_same65_1 := x_same65.c 1 _ rfl; have f_same65_1 := x_same65.f 1 _ rfl
          have c_same65_2 := x_same65.c 2 _ rfl; have f_same65_2 := x_same65.f 2 _ rfl
          have c_same65_3 := x_same65.c 3 _ rfl; have f_same65_3 := x_same65.f 3 _ rfl
          have c_same65_4 := x_same65.c 4 _ rfl; have f_same65_4 := x_same65.f 4 _ rfl
          have c_same65_5 := x_same65.c 5 _ rfl; have f_same65_5 := x_same65.f 5 _ rfl
          have z_n65 := x_n65.lt
          have c_n65_0 := x_n65.c 0 _ rfl; have f_n65_0 := x_n65.f 0 _ rfl
          have c_n65_1 := x_n65.c 1 _ rfl; have f_n65_1 := x_n65.f 1 _ rfl
          have c_n65_2 := x_n65.c 2 _ rfl; have f_n65_2 := x_n65.f 2 _ rfl
          have c_n65_3 := x_n65.c 3 _ rfl; have f_n65_3 := x_n65.f 3 _ rfl
          have c_n65_4 := x_n65.c 4 _ rfl; have f_n65_4 := x_n65.f 4 _ rfl
          have c_n65_5 := x_n65.c 5 _ rfl; have f_n65_5 := x_n65.f 5 _ rfl
          have z_s65 := x_s65.lt
          have c_s65_0 := x_s65.c 0 _ rfl; have f_s65_0 := x_s65.f 0 _ rfl
          have c_s65_1 := x_s65.c 1 _ rfl; have f_s65_1 := x_s65.f 1 _ rfl
          have c_s65_2 := x_s65.c 2 _ rfl; have f_s65_2 := x_s65.f 2 _ rfl
          have c_s65_3 := x_s65.c 3 _ rfl; have f_s65_3 := x_s65.f 3 _ rfl
          have c_s65_4 := x_s65.c 4 _ rfl; have f_s65_4 := x_s65.f 4 _ rfl
          have c_s65_5 := x_s65.c 5 _ rfl; have f_s65_5 := x_s65.f 5 _ rfl
          have z_u65 := x_u65.lt
          have c_u65_0 := x_u65.c 0 _ rfl; have f_u65_0 := x_u65.f 0 _ rfl
          have c_u65_1 := x_u65.c 1 _ rfl; have f_u65_1 := x_u65.f 1 _ rfl
          have c_u65_2 := x_u65.c 2 _ rfl; have f_u65_2 := x_u65.f 2 _ rfl
          have c_u65_3 := x_u65.c 3 _ rfl; have f_u65_3 := x_u65.f 3 _ rfl
          have c_u65_4 := x_u65.c 4 _ rfl; have f_u65_4 := x_u65.f 4 _ rfl
          have c_u65_5 := x_u65.c 5 _ rfl; have f_u65_5 := x_u65.f 5 _ rfl
          have z_d65 := x_d65.lt
          have c_d65_0 := x_d65.c 0 _ rfl; have f_d65_0 := x_d65.f 0 _ rfl
          have c_d65_1 := x_d65.c 1 _ rfl; have f_d65_1 := x_d65.f 1 _ rfl
          have c_d65_2 := x_d65.c 2 _ rfl; have f_d65_2 := x_d65.f 2 _ rfl
          have c_d65_3 := x_d65.c 3 _ rfl; have f_d65_3 := x_d65.f 3 _ rfl
          have c_d65_4 := x_d65.c 4 _ rfl; have f_d65_4 := x_d65.f 4 _ rfl
          have c_d65_5 := x_d65.c 5 _ rfl; have f_d65_5 := x_d65.f 5 _ rfl
          have c_l065 := cell_below hB65 l0
          have c_l165 := cell_below hB65 l1
          have c_l265 := cell_below hB65 l2
          go_wp2_with fail
          refine (refill_before (t := 6) hl5 (by omega) _).mono ?_
          rintro e w66 ⟨rfl, hb⟩
          have hB66 : Below W2.heap.size W2 w66 := below_thru (by go_grown) hb
          have hs66 : W2.heap.size ≤ w66.heap.size := hB66.size
          have x_same66 : Box w66 (w60.heap.size) [.int .i64 10, .int .i64 3, .int .i64 2, .int .i64 1, .int .i64 0, .int .u64 0] := (by refine Box.below ?_ hb; repeat (first | (with_reducible assumption) | (with_reducible refine Box.drew ?_) | (with_reducible refine Box.drewN ?_ _) | ((with_reducible refine Box.new ?_); simp; done) | (with_reducible apply Box.set2) | ((with_reducible apply Box.put); (with_reducible assumption); rfl) | (with_reducible refine Box.alloc ?_ _) | (with_reducible refine Box.other ?_ (by first | (dsimp only; omega) | omega) _)))
          have z_same66 := x_same66.lt
          have c_same66_0 := x_same66.c 0 _ rfl
          have f_same66_0 := x_same66.f 0 _ rfl
          have c_same66_1 := x_same66.c 1 _ rfl
          have f_same66_1 := x_same66.f 1 _ rfl
          have c_same66_2 := x_same66.c 2 _ rfl
          have f_same66_2 := x_same66.f 2 _ rfl
          have c_same66_3 := x_same66.c 3 _ rfl
          have f_same66_3 := x_same66.f 3 _ rfl
          have c_same66_4 := x_same66.c 4 _ rfl
          have f_same66_4 := x_same66.f 4 _ rfl
          have c_same66_5 := x_same66.c 5 _ rfl
          have f_same66_5 := x_same66.f 5 _ rfl
          have x_n66 : Box w66 (w61.heap.size) [.int .i64 1000000000, .int .i64 0, .int .i64 1000000000, .int .i64 0, .int .i64 0, .int .u64 0] := (by refine Box.below ?_ hb; repeat (first | (with_reducible assumption) | (with_reducible refine Box.drew ?_) | (with_reducible refine Box.drewN ?_ _) | ((with_reducible refine Box.new ?_); simp; done) | (with_reducible apply Box.set2) | ((with_reducible apply Box.put); (with_reducible assumption); rfl) | (with_reducible refine Box.alloc ?_ _) | (with_reducible refine Box.other ?_ (by first | (dsimp only; omega) | omega) _)))
          have z_n66 := x_n66.lt
          have c_n66_0 := x_n66.c 0 _ rfl
          have f_n66_0 := x_n66.f 0 _ rfl
          have c_n66_1 := x_n66.c 1 _ rfl
          have f_n66_1 := x_n66.f 1 _ rfl
          have c_n66_2 := x_n66.c 2 _ rfl
          have f_n66_2 := x_n66.f 2 _ rfl
          have c_n66_3 := x_n66.c 3 _ rfl
          have f_n66_3 := x_n66.f 3 _ rfl
          have c_n66_4 := x_n66.c 4 _ rfl
          have f_n66_4 := x_n66.f 4 _ rfl
          have c_n66_5 := x_n66.c 5 _ rfl
          have f_n66_5 := x_n66.f 5 _ rfl
          have x_s66 : Box w66 (w62.heap.size) [.int .i64 1000000000, .int .i64 1, .int .i64 1000000000, .int .i64 0, .int .i64 0, .int .u64 0] := (by refine Box.below ?_ hb; repeat (first | (with_reducible assumption) | (with_reducible refine Box.drew ?_) | (with_reducible refine Box.drewN ?_ _) | ((with_reducible refine Box.new ?_); simp; done) | (with_reducible apply Box.set2) | ((with_reducible apply Box.put); (with_reducible assumption); rfl) | (with_reducible refine Box.alloc ?_ _) | (with_reducible refine Box.other ?_ (by first | (dsimp only; omega) | omega) _)))
          have z_s66 := x_s66.lt
          have c_s66_0 := x_s66.c 0 _ rfl
          have f_s66_0 := x_s66.f 0 _ rfl
          have c_s66_1 := x_s66.c 1 _ rfl
          have f_s66_1 := x_s66.f 1 _ rfl
          have c_s66_2 := x_s66.c 2 _ rfl
          have f_s66_2 := x_s66.f 2 _ rfl
          have c_s66_3 := x_s66.c 3 _ rfl
          have f_s66_3 := x_s66.f 3 _ rfl
          have c_s66_4 := x_s66.c 4 _ rfl
          have f_s66_4 := x_s66.f 4 _ rfl
          have c_s66_5 := x_s66.c 5 _ rfl
          have f_s66_5 := x_s66.f 5 _ rfl
          have x_u66 : Box w66 (w63.heap.size) [.int .i64 1000000000, .int .i64 1000000000, .int .i64 1, .int .i64 0, .int .i64 0, .int .u64 0] := (by refine Box.below ?_ hb; repeat (first | (with_reducible assumption) | (with_reducible refine Box.drew ?_) | (with_reducible refine Box.drewN ?_ _) | ((with_reducible refine Box.new ?_); simp; done) | (with_reducible apply Box.set2) | ((with_reducible apply Box.put); (with_reducible assumption); rfl) | (with_reducible refine Box.alloc ?_ _) | (with_reducible refine Box.other ?_ (by first | (dsimp only; omega) | omega) _)))
          have z_u66 := x_u66.lt
          have c_u66_0 := x_u66.c 0 _ rfl
          have f_u66_0 := x_u66.f 0 _ rfl
          have c_u66_1 := x_u66.c 1 _ rfl
          have f_u66_1 := x_u66.f 1 _ rfl
          have c_u66_2 := x_u66.c 2 _ rfl
          have f_u66_2 := x_u66.f 2 _ rfl
          have c_u66_3 := x_u66.c 3 _ rfl
          have f_u66_3 := x_u66.f 3 _ rfl
          have c_u66_4 := x_u66.c 4 _ rfl
          have f_u66_4 := x_u66.f 4 _ rfl
          have c_u66_5 := x_u66.c 5 _ rfl
          have f_u66_5 := x_u66.f 5 _ rfl
          have x_d66 : Box w66 (w64.heap.size) [.int .i64 3, .int .i64 1, .int .i64 2, .int .i64 0, .int .i64 0, .int .u64 18446744073709551612] := (by refine Box.below ?_ hb; repeat (first | (with_reducible assumption) | (with_reducible refine Box.drew ?_) | (with_reducible refine Box.drewN ?_ _) | ((with_reducible refine Box.new ?_); simp; done) | (with_reducible apply Box.set2) | ((with_reducible apply Box.put); (with_reducible assumption); rfl) | (with_reducible refine Box.alloc ?_ _) | (with_reducible refine Box.other ?_ (by first | (dsimp only; omega) | omega) _)))
          have z_d66 := x_d66.lt
          have c_d66_0 := x_d66.c 0 _ rfl
          have f_d66_0 := x_d66.f 0 _ rfl
          have c_d66_1 := x_d66.c 1 _ rfl
          have f_d66_1 := x_d66.f 1 _ rfl
          have c_d66_2 := x_d66.c 2 _ rfl
          have f_d66_2 := x_d66.f 2 _ rfl
          have c_d66_3 := x_d66.c 3 _ rfl
          have f_d66_3 := x_d66.f 3 _ rfl
          have c_d66_4 := x_d66.c 4 _ rfl
          have f_d66_4 := x_d66.f 4 _ rfl
          have c_d66_5 := x_d66.c 5 _ rfl
          have f_d66_5 := x_d66.f 5 _ rfl
          have c_l066 := cell_below hB66 l0
          have c_l166 := cell_below hB66 l1
          have c_l266 := cell_below hB66 l2
          have t66 := hb.size
          try simp at t66
          clear hb hB65 hs65 c_l065 c_l165 c_l265 x_same65 z_same65 c_same65_0 c_same65_1 c_same65_2 c_same65_3 c_same65_4 c_same65_5 f_same65_0 f_same65_1 f_same65_2 f_same65_3 f_same65_4 f_same65_5 x_n65 z_n65 c_n65_0 c_n65_1 c_n65_2 c_n65_3 c_n65_4 c_n65_5 f_n65_0 f_n65_1 f_n65_2 f_n65_3 f_n65_4 f_n65_5 x_s65 z_s65 c_s65_0 c_s65_1 c_s65_2 c_s65_3 c_s65_4 c_s65_5 f_s65_0 f_s65_1 f_s65_2 f_s65_3 f_s65_4 f_s65_5 x_u65 z_u65 c_u65_0 c_u65_1 c_u65_2 c_u65_3 c_u65_4 c_u65_5 f_u65_0 f_u65_1 f_u65_2 f_u65_3 f_u65_4 f_u65_5 x_d65 z_d65 c_d65_0 c_d65_1 c_d65_2 c_d65_3 c_d65_4 c_d65_5 f_d65_0 f_d65_1 f_d65_2 f_d65_3 f_d65_4 f_d65_5
          go_upto_region 28 with fail
          have x_back67 : Box (w66.alloc (.cells #[.int .i64 5, .int .i64 2, .int .i64 3, .int .i64 0, .int .i64 0, .int .u64 7] 27)) w66.heap.size [.int .i64 5, .int .i64 2, .int .i64 3, .int .i64 0, .int .i64 0, .int .u64 7] := Box.new rfl
          have x_same67 := Box.alloc x_same66 (.cells #[.int .i64 5, .int .i64 2, .int .i64 3, .int .i64 0, .int .i64 0, .int .u64 7] 27)
          have x_n67 := Box.alloc x_n66 (.cells #[.int .i64 5, .int .i64 2, .int .i64 3, .int .i64 0, .int .i64 0, .int .u64 7] 27)
          have x_s67 := Box.alloc x_s66 (.cells #[.int .i64 5, .int .i64 2, .int .i64 3, .int .i64 0, .int .i64 0, .int .u64 7] 27)
          have x_u67 := Box.alloc x_u66 (.cells #[.int .i64 5, .int .i64 2, .int .i64 3, .int .i64 0, .int .i64 0, .int .u64 7] 27)
          have x_d67 := Box.alloc x_d66 (.cells #[.int .i64 5, .int .i64 2, .int .i64 3, .int .i64 0, .int .i64 0, .int .u64 7] 27)
          have hB67 := hB66.alloc hs66 (.cells #[.int .i64 5, .int .i64 2, .int .i64 3, .int .i64 0, .int .i64 0, .int .u64 7] 27)
          have hs67 := hB67.size
          obtain ⟨w67, h9⟩ : ∃ W, w66.alloc (.cells #[.int .i64 5, .int .i64 2, .int .i64 3, .int .i64 0, .int .i64 0, .int .u64 7] 27) = W := ⟨_, rfl⟩
          rw [h9] at x_back67 x_same67 x_n67 x_s67 x_u67 x_d67 hB67 hs67 ⊢
          clear hB66 hs66 h9 x_same66 z_same66 c_same66_0 c_same66_1 c_same66_2 c_same66_3 c_same66_4 c_same66_5 f_same66_0 f_same66_1 f_same66_2 f_same66_3 f_same66_4 f_same66_5 x_n66 z_n66 c_n66_0 c_n66_1 c_n66_2 c_n66_3 c_n66_4 c_n66_5 f_n66_0 f_n66_1 f_n66_2 f_n66_3 f_n66_4 f_n66_5 x_s66 z_s66 c_s66_0 c_s66_1 c_s66_2 c_s66_3 c_s66_4 c_s66_5 f_s66_0 f_s66_1 f_s66_2 f_s66_3 f_s66_4 f_s66_5 x_u66 z_u66 c_u66_0 c_u66_1 c_u66_2 c_u66_3 c_u66_4 c_u66_5 f_u66_0 f_u66_1 f_u66_2 f_u66_3 f_u66_4 f_u66_5 x_d66 z_d66 c_d66_0 c_d66_1 c_d66_2 c_d66_3 c_d66_4 c_d66_5 f_d66_0 f_d66_1 f_d66_2 f_d66_3 f_d66_4 f_d66_5
          have z_same67 := x_same67.lt
          have c_same67_0 := x_same67.c 0 _ rfl; have f_same67_0 := x_same67.f 0 _ rfl
          have c_same67_1 := x_same67.c 1 _ rfl; have f_same67_1 := x_same67.f 1 _ rfl
          have c_same67_2 := x_same67.c 2 _ rfl; have f_same67_2 := x_same67.f 2 _ rfl
          have c_same67_3 := x_same67.c 3 _ rfl; have f_same67_3 := x_same67.f 3 _ rfl
          have c_same67_4 := x_same67.c 4 _ rfl; have f_same67_4 := x_same67.f 4 _ rfl
          have c_same67_5 := x_same67.c 5 _ rfl; have f_same67_5 := x_same67.f 5 _ rfl
          have z_n67 := x_n67.lt
          have c_n67_0 := x_n67.c 0 _ rfl; have f_n67_0 := x_n67.f 0 _ rfl
          have c_n67_1 := x_n67.c 1 _ rfl; have f_n67_1 := x_n67.f 1 _ rfl
          have c_n67_2 := x_n67.c 2 _ rfl; have f_n67_2 := x_n67.f 2 _ rfl
          have c_n67_3 := x_n67.c 3 _ rfl; have f_n67_3 := x_n67.f 3 _ rfl
          have c_n67_4 := x_n67.c 4 _ rfl; have f_n67_4 := x_n67.f 4 _ rfl
          have c_n67_5 := x_n67.c 5 _ rfl; have f_n67_5 := x_n67.f 5 _ rfl
          have z_s67 := x_s67.lt
          have c_s67_0 := x_s67.c 0 _ rfl; have f_s67_0 := x_s67.f 0 _ rfl
          have c_s67_1 := x_s67.c 1 _ rfl; have f_s67_1 := x_s67.f 1 _ rfl
          have c_s67_2 := x_s67.c 2 _ rfl; have f_s67_2 := x_s67.f 2 _ rfl
          have c_s67_3 := x_s67.c 3 _ rfl; have f_s67_3 := x_s67.f 3 _ rfl
          have c_s67_4 := x_s67.c 4 _ rfl; have f_s67_4 := x_s67.f 4 _ rfl
          have c_s67_5 := x_s67.c 5 _ rfl; have f_s67_5 := x_s67.f 5 _ rfl
          have z_u67 := x_u67.lt
          have c_u67_0 := x_u67.c 0 _ rfl; have f_u67_0 := x_u67.f 0 _ rfl
          have c_u67_1 := x_u67.c 1 _ rfl; have f_u67_1 := x_u67.f 1 _ rfl
          have c_u67_2 := x_u67.c 2 _ rfl; have f_u67_2 := x_u67.f 2 _ rfl
          have c_u67_3 := x_u67.c 3 _ rfl; have f_u67_3 := x_u67.f 3 _ rfl
          have c_u67_4 := x_u67.c 4 _ rfl; have f_u67_4 := x_u67.f 4 _ rfl
          have c_u67_5 := x_u67.c 5 _ rfl; have f_u67_5 := x_u67.f 5 _ rfl
          have z_d67 := x_d67.lt
          have c_d67_0 := x_d67.c 0 _ rfl; have f_d67_0 := x_d67.f 0 _ rfl
          have c_d67_1 := x_d67.c 1 _ rfl; have f_d67_1 := x_d67.f 1 _ rfl
          have c_d67_2 := x_d67.c 2 _ rfl; have f_d67_2 := x_d67.f 2 _ rfl
          have c_d67_3 := x_d67.c 3 _ rfl; have f_d67_3 := x_d67.f 3 _ rfl
          have c_d67_4 := x_d67.c 4 _ rfl; have f_d67_4 := x_d67.f 4 _ rfl
          have c_d67_5 := x_d67.c 5 _ rfl; have f_d67_5 := x_d67.f 5 _ rfl
          have z_back67 := x_back67.lt
          have c_back67_0 := x_back67.c 0 _ rfl; have f_back67_0 := x_back67.f 0 _ rfl
          have c_back67_1 := x_back67.c 1 _ rfl; have f_back67_1 := x_back67.f 1 _ rfl
          have c_back67_2 := x_back67.c 2 _ rfl; have f_back67_2 := x_back67.f 2 _ rfl
          have c_back67_3 := x_back67.c 3 _ rfl; have f_back67_3 := x_back67.f 3 _ rfl
          have c_back67_4 := x_back67.c 4 _ rfl; have f_back67_4 := x_back67.f 4 _ rfl
          have c_back67_5 := x_back67.c 5 _ rfl; have f_back67_5 := x_back67.f 5 _ rfl
          have c_l067 := cell_below hB67 l0
          have c_l167 := cell_below hB67 l1
          have c_l267 := cell_below hB67 l2
          as_aux_lemma =>
            go_wp2_with fail
            refine (holds_yes B_n.out i0 (by omega) f0 g0 _).mono ?_
            rintro e w68 ⟨rfl, hb⟩
            have hB68 : Below W2.heap.size W2 w68 := below_thru (by go_grown) hb
            have hs68 : W2.heap.size ≤ w68.heap.size := hB68.size
            have x_same68 : Box w68 (w60.heap.size) [.int .i64 10, .int .i64 3, .int .i64 2, .int .i64 1, .int .i64 0, .int .u64 0] := (by refine Box.below ?_ hb; repeat (first | (with_reducible assumption) | (with_reducible refine Box.drew ?_) | (with_reducible refine Box.drewN ?_ _) | ((with_reducible refine Box.new ?_); simp; done) | (with_reducible apply Box.set2) | ((with_reducible apply Box.put); (with_reducible assumption); rfl) | (with_reducible refine Box.alloc ?_ _) | (with_reducible refine Box.other ?_ (by first | (dsimp only; omega) | omega) _)))
            have z_same68 := x_same68.lt
            have c_same68_0 := x_same68.c 0 _ rfl
            have f_same68_0 := x_same68.f 0 _ rfl
            have c_same68_1 := x_same68.c 1 _ rfl
            have f_same68_1 := x_same68.f 1 _ rfl
            have c_same68_2 := x_same68.c 2 _ rfl
            have f_same68_2 := x_same68.f 2 _ rfl
            have c_same68_3 := x_same68.c 3 _ rfl
            have f_same68_3 := x_same68.f 3 _ rfl
            have c_same68_4 := x_same68.c 4 _ rfl
            have f_same68_4 := x_same68.f 4 _ rfl
            have c_same68_5 := x_same68.c 5 _ rfl
            have f_same68_5 := x_same68.f 5 _ rfl
            have x_n68 : Box w68 (w61.heap.size) [.int .i64 1000000000, .int .i64 0, .int .i64 1000000000, .int .i64 0, .int .i64 0, .int .u64 0] := (by refine Box.below ?_ hb; repeat (first | (with_reducible assumption) | (with_reducible refine Box.drew ?_) | (with_reducible refine Box.drewN ?_ _) | ((with_reducible refine Box.new ?_); simp; done) | (with_reducible apply Box.set2) | ((with_reducible apply Box.put); (with_reducible assumption); rfl) | (with_reducible refine Box.alloc ?_ _) | (with_reducible refine Box.other ?_ (by first | (dsimp only; omega) | omega) _)))
            have z_n68 := x_n68.lt
            have c_n68_0 := x_n68.c 0 _ rfl
            have f_n68_0 := x_n68.f 0 _ rfl
            have c_n68_1 := x_n68.c 1 _ rfl
            have f_n68_1 := x_n68.f 1 _ rfl
            have c_n68_2 := x_n68.c 2 _ rfl
            have f_n68_2 := x_n68.f 2 _ rfl
            have c_n68_3 := x_n68.c 3 _ rfl
            have f_n68_3 := x_n68.f 3 _ rfl
            have c_n68_4 := x_n68.c 4 _ rfl
            have f_n68_4 := x_n68.f 4 _ rfl
            have c_n68_5 := x_n68.c 5 _ rfl
            have f_n68_5 := x_n68.f 5 _ rfl
            have x_s68 : Box w68 (w62.heap.size) [.int .i64 1000000000, .int .i64 1, .int .i64 1000000000, .int .i64 0, .int .i64 0, .int .u64 0] := (by refine Box.below ?_ hb; repeat (first | (with_reducible assumption) | (with_reducible refine Box.drew ?_) | (with_reducible refine Box.drewN ?_ _) | ((with_reducible refine Box.new ?_); simp; done) | (with_reducible apply Box.set2) | ((with_reducible apply Box.put); (with_reducible assumption); rfl) | (with_reducible refine Box.alloc ?_ _) | (with_reducible refine Box.other ?_ (by first | (dsimp only; omega) | omega) _)))
            have z_s68 := x_s68.lt
            have c_s68_0 := x_s68.c 0 _ rfl
            have f_s68_0 := x_s68.f 0 _ rfl
            have c_s68_1 := x_s68.c 1 _ rfl
            have f_s68_1 := x_s68.f 1 _ rfl
            have c_s68_2 := x_s68.c 2 _ rfl
            have f_s68_2 := x_s68.f 2 _ rfl
            have c_s68_3 := x_s68.c 3 _ rfl
            have f_s68_3 := x_s68.f 3 _ rfl
            have c_s68_4 := x_s68.c 4 _ rfl
            have f_s68_4 := x_s68.f 4 _ rfl
            have c_s68_5 := x_s68.c 5 _ rfl
            have f_s68_5 := x_s68.f 5 _ rfl
            have x_u68 : Box w68 (w63.heap.size) [.int .i64 1000000000, .int .i64 1000000000, .int .i64 1, .int .i64 0, .int .i64 0, .int .u64 0] := (by refine Box.below ?_ hb; repeat (first | (with_reducible assumption) | (with_reducible refine Box.drew ?_) | (with_reducible refine Box.drewN ?_ _) | ((with_reducible refine Box.new ?_); simp; done) | (with_reducible apply Box.set2) | ((with_reducible apply Box.put); (with_reducible assumption); rfl) | (with_reducible refine Box.alloc ?_ _) | (with_reducible refine Box.other ?_ (by first | (dsimp only; omega) | omega) _)))
            have z_u68 := x_u68.lt
            have c_u68_0 := x_u68.c 0 _ rfl
            have f_u68_0 := x_u68.f 0 _ rfl
            have c_u68_1 := x_u68.c 1 _ rfl
            have f_u68_1 := x_u68.f 1 _ rfl
            have c_u68_2 := x_u68.c 2 _ rfl
            have f_u68_2 := x_u68.f 2 _ rfl
            have c_u68_3 := x_u68.c 3 _ rfl
            have f_u68_3 := x_u68.f 3 _ rfl
            have c_u68_4 := x_u68.c 4 _ rfl
            have f_u68_4 := x_u68.f 4 _ rfl
            have c_u68_5 := x_u68.c 5 _ rfl
            have f_u68_5 := x_u68.f 5 _ rfl
            have x_d68 : Box w68 (w64.heap.size) [.int .i64 3, .int .i64 1, .int .i64 2, .int .i64 0, .int .i64 0, .int .u64 18446744073709551612] := (by refine Box.below ?_ hb; repeat (first | (with_reducible assumption) | (with_reducible refine Box.drew ?_) | (with_reducible refine Box.drewN ?_ _) | ((with_reducible refine Box.new ?_); simp; done) | (with_reducible apply Box.set2) | ((with_reducible apply Box.put); (with_reducible assumption); rfl) | (with_reducible refine Box.alloc ?_ _) | (with_reducible refine Box.other ?_ (by first | (dsimp only; omega) | omega) _)))
            have z_d68 := x_d68.lt
            have c_d68_0 := x_d68.c 0 _ rfl
            have f_d68_0 := x_d68.f 0 _ rfl
            have c_d68_1 := x_d68.c 1 _ rfl
            have f_d68_1 := x_d68.f 1 _ rfl
            have c_d68_2 := x_d68.c 2 _ rfl
            have f_d68_2 := x_d68.f 2 _ rfl
            have c_d68_3 := x_d68.c 3 _ rfl
            have f_d68_3 := x_d68.f 3 _ rfl
            have c_d68_4 := x_d68.c 4 _ rfl
            have f_d68_4 := x_d68.f 4 _ rfl
            have c_d68_5 := x_d68.c 5 _ rfl
            have f_d68_5 := x_d68.f 5 _ rfl
            have x_back68 : Box w68 (w66.heap.size) [.int .i64 5, .int .i64 2, .int .i64 3, .int .i64 0, .int .i64 0, .int .u64 7] := (by refine Box.below ?_ hb; repeat (first | (with_reducible assumption) | (with_reducible refine Box.drew ?_) | (with_reducible refine Box.drewN ?_ _) | ((with_reducible refine Box.new ?_); simp; done) | (with_reducible apply Box.set2) | ((with_reducible apply Box.put); (with_reducible assumption); rfl) | (with_reducible refine Box.alloc ?_ _) | (with_reducible refine Box.other ?_ (by first | (dsimp only; omega) | omega) _)))
            have z_back68 := x_back68.lt
            have c_back68_0 := x_back68.c 0 _ rfl
            have f_back68_0 := x_back68.f 0 _ rfl
            have c_back68_1 := x_back68.c 1 _ rfl
            have f_back68_1 := x_back68.f 1 _ rfl
            have c_back68_2 := x_back68.c 2 _ rfl
            have f_back68_2 := x_back68.f 2 _ rfl
            have c_back68_3 := x_back68.c 3 _ rfl
            have f_back68_3 := x_back68.f 3 _ rfl
            have c_back68_4 := x_back68.c 4 _ rfl
            have f_back68_4 := x_back68.f 4 _ rfl
            have c_back68_5 := x_back68.c 5 _ rfl
            have f_back68_5 := x_back68.f 5 _ rfl
            have c_l068 := cell_below hB68 l0
            have c_l168 := cell_below hB68 l1
            have c_l268 := cell_below hB68 l2
            have t68 := hb.size
            try simp at t68
            clear hb hB67 hs67 c_l067 c_l167 c_l267 x_same67 z_same67 c_same67_0 c_same67_1 c_same67_2 c_same67_3 c_same67_4 c_same67_5 f_same67_0 f_same67_1 f_same67_2 f_same67_3 f_same67_4 f_same67_5 x_n67 z_n67 c_n67_0 c_n67_1 c_n67_2 c_n67_3 c_n67_4 c_n67_5 f_n67_0 f_n67_1 f_n67_2 f_n67_3 f_n67_4 f_n67_5 x_s67 z_s67 c_s67_0 c_s67_1 c_s67_2 c_s67_3 c_s67_4 c_s67_5 f_s67_0 f_s67_1 f_s67_2 f_s67_3 f_s67_4 f_s67_5 x_u67 z_u67 c_u67_0 c_u67_1 c_u67_2 c_u67_3 c_u67_4 c_u67_5 f_u67_0 f_u67_1 f_u67_2 f_u67_3 f_u67_4 f_u67_5 x_d67 z_d67 c_d67_0 c_d67_1 c_d67_2 c_d67_3 c_d67_4 c_d67_5 f_d67_0 f_d67_1 f_d67_2 f_d67_3 f_d67_4 f_d67_5 x_back67 z_back67 c_back67_0 c_back67_1 c_back67_2 c_back67_3 c_back67_4 c_back67_5 f_back67_0 f_back67_1 f_back67_2 f_back67_3 f_back67_4 f_back67_5
            go_wp2_with fail
            refine (holds_yes B_s.out i1 (by omega) f1 g1 _).mono ?_
            rintro e w69 ⟨rfl, hb⟩
            have hB69 : Below W2.heap.size W2 w69 := below_thru (by go_grown) hb
            have hs69 : W2.heap.size ≤ w69.heap.size := hB69.size
            have x_same69 : Box w69 (w60.heap.size) [.int .i64 10, .int .i64 3, .int .i64 2, .int .i64 1, .int .i64 0, .int .u64 0] := (by refine Box.below ?_ hb; repeat (first | (with_reducible assumption) | (with_reducible refine Box.drew ?_) | (with_reducible refine Box.drewN ?_ _) | ((with_reducible refine Box.new ?_); simp; done) | (with_reducible apply Box.set2) | ((with_reducible apply Box.put); (with_reducible assumption); rfl) | (with_reducible refine Box.alloc ?_ _) | (with_reducible refine Box.other ?_ (by first | (dsimp only; omega) | omega) _)))
            have z_same69 := x_same69.lt
            have c_same69_0 := x_same69.c 0 _ rfl
            have f_same69_0 := x_same69.f 0 _ rfl
            have c_same69_1 := x_same69.c 1 _ rfl
            have f_same69_1 := x_same69.f 1 _ rfl
            have c_same69_2 := x_same69.c 2 _ rfl
            have f_same69_2 := x_same69.f 2 _ rfl
            have c_same69_3 := x_same69.c 3 _ rfl
            have f_same69_3 := x_same69.f 3 _ rfl
            have c_same69_4 := x_same69.c 4 _ rfl
            have f_same69_4 := x_same69.f 4 _ rfl
            have c_same69_5 := x_same69.c 5 _ rfl
            have f_same69_5 := x_same69.f 5 _ rfl
            have x_n69 : Box w69 (w61.heap.size) [.int .i64 1000000000, .int .i64 0, .int .i64 1000000000, .int .i64 0, .int .i64 0, .int .u64 0] := (by refine Box.below ?_ hb; repeat (first | (with_reducible assumption) | (with_reducible refine Box.drew ?_) | (with_reducible refine Box.drewN ?_ _) | ((with_reducible refine Box.new ?_); simp; done) | (with_reducible apply Box.set2) | ((with_reducible apply Box.put); (with_reducible assumption); rfl) | (with_reducible refine Box.alloc ?_ _) | (with_reducible refine Box.other ?_ (by first | (dsimp only; omega) | omega) _)))
            have z_n69 := x_n69.lt
            have c_n69_0 := x_n69.c 0 _ rfl
            have f_n69_0 := x_n69.f 0 _ rfl
            have c_n69_1 := x_n69.c 1 _ rfl
            have f_n69_1 := x_n69.f 1 _ rfl
            have c_n69_2 := x_n69.c 2 _ rfl
            have f_n69_2 := x_n69.f 2 _ rfl
            have c_n69_3 := x_n69.c 3 _ rfl
            have f_n69_3 := x_n69.f 3 _ rfl
            have c_n69_4 := x_n69.c 4 _ rfl
            have f_n69_4 := x_n69.f 4 _ rfl
            have c_n69_5 := x_n69.c 5 _ rfl
            have f_n69_5 := x_n69.f 5 _ rfl
            have x_s69 : Box w69 (w62.heap.size) [.int .i64 1000000000, .int .i64 1, .int .i64 1000000000, .int .i64 0, .int .i64 0, .int .u64 0] := (by refine Box.below ?_ hb; repeat (first | (with_reducible assumption) | (with_reducible refine Box.drew ?_) | (with_reducible refine Box.drewN ?_ _) | ((with_reducible refine Box.new ?_); simp; done) | (with_reducible apply Box.set2) | ((with_reducible apply Box.put); (with_reducible assumption); rfl) | (with_reducible refine Box.alloc ?_ _) | (with_reducible refine Box.other ?_ (by first | (dsimp only; omega) | omega) _)))
            have z_s69 := x_s69.lt
            have c_s69_0 := x_s69.c 0 _ rfl
            have f_s69_0 := x_s69.f 0 _ rfl
            have c_s69_1 := x_s69.c 1 _ rfl
            have f_s69_1 := x_s69.f 1 _ rfl
            have c_s69_2 := x_s69.c 2 _ rfl
            have f_s69_2 := x_s69.f 2 _ rfl
            have c_s69_3 := x_s69.c 3 _ rfl
            have f_s69_3 := x_s69.f 3 _ rfl
            have c_s69_4 := x_s69.c 4 _ rfl
            have f_s69_4 := x_s69.f 4 _ rfl
            have c_s69_5 := x_s69.c 5 _ rfl
            have f_s69_5 := x_s69.f 5 _ rfl
            have x_u69 : Box w69 (w63.heap.size) [.int .i64 1000000000, .int .i64 1000000000, .int .i64 1, .int .i64 0, .int .i64 0, .int .u64 0] := (by refine Box.below ?_ hb; repeat (first | (with_reducible assumption) | (with_reducible refine Box.drew ?_) | (with_reducible refine Box.drewN ?_ _) | ((with_reducible refine Box.new ?_); simp; done) | (with_reducible apply Box.set2) | ((with_reducible apply Box.put); (with_reducible assumption); rfl) | (with_reducible refine Box.alloc ?_ _) | (with_reducible refine Box.other ?_ (by first | (dsimp only; omega) | omega) _)))
            have z_u69 := x_u69.lt
            have c_u69_0 := x_u69.c 0 _ rfl
            have f_u69_0 := x_u69.f 0 _ rfl
            have c_u69_1 := x_u69.c 1 _ rfl
            have f_u69_1 := x_u69.f 1 _ rfl
            have c_u69_2 := x_u69.c 2 _ rfl
            have f_u69_2 := x_u69.f 2 _ rfl
            have c_u69_3 := x_u69.c 3 _ rfl
            have f_u69_3 := x_u69.f 3 _ rfl
            have c_u69_4 := x_u69.c 4 _ rfl
            have f_u69_4 := x_u69.f 4 _ rfl
            have c_u69_5 := x_u69.c 5 _ rfl
            have f_u69_5 := x_u69.f 5 _ rfl
            have x_d69 : Box w69 (w64.heap.size) [.int .i64 3, .int .i64 1, .int .i64 2, .int .i64 0, .int .i64 0, .int .u64 18446744073709551612] := (by refine Box.below ?_ hb; repeat (first | (with_reducible assumption) | (with_reducible refine Box.drew ?_) | (with_reducible refine Box.drewN ?_ _) | ((with_reducible refine Box.new ?_); simp; done) | (with_reducible apply Box.set2) | ((with_reducible apply Box.put); (with_reducible assumption); rfl) | (with_reducible refine Box.alloc ?_ _) | (with_reducible refine Box.other ?_ (by first | (dsimp only; omega) | omega) _)))
            have z_d69 := x_d69.lt
            have c_d69_0 := x_d69.c 0 _ rfl
            have f_d69_0 := x_d69.f 0 _ rfl
            have c_d69_1 := x_d69.c 1 _ rfl
            have f_d69_1 := x_d69.f 1 _ rfl
            have c_d69_2 := x_d69.c 2 _ rfl
            have f_d69_2 := x_d69.f 2 _ rfl
            have c_d69_3 := x_d69.c 3 _ rfl
            have f_d69_3 := x_d69.f 3 _ rfl
            have c_d69_4 := x_d69.c 4 _ rfl
            have f_d69_4 := x_d69.f 4 _ rfl
            have c_d69_5 := x_d69.c 5 _ rfl
            have f_d69_5 := x_d69.f 5 _ rfl
            have x_back69 : Box w69 (w66.heap.size) [.int .i64 5, .int .i64 2, .int .i64 3, .int .i64 0, .int .i64 0, .int .u64 7] := (by refine Box.below ?_ hb; repeat (first | (with_reducible assumption) | (with_reducible refine Box.drew ?_) | (with_reducible refine Box.drewN ?_ _) | ((with_reducible refine Box.new ?_); simp; done) | (with_reducible apply Box.set2) | ((with_reducible apply Box.put); (with_reducible assumption); rfl) | (with_reducible refine Box.alloc ?_ _) | (with_reducible refine Box.other ?_ (by first | (dsimp only; omega) | omega) _)))
            have z_back69 := x_back69.lt
            have c_back69_0 := x_back69.c 0 _ rfl
            have f_back69_0 := x_back69.f 0 _ rfl
            have c_back69_1 := x_back69.c 1 _ rfl
            have f_back69_1 := x_back69.f 1 _ rfl
            have c_back69_2 := x_back69.c 2 _ rfl
            have f_back69_2 := x_back69.f 2 _ rfl
            have c_back69_3 := x_back69.c 3 _ rfl
            have f_back69_3 := x_back69.f 3 _ rfl
            have c_back69_4 := x_back69.c 4 _ rfl
            have f_back69_4 := x_back69.f 4 _ rfl
            have c_back69_5 := x_back69.c 5 _ rfl
            have f_back69_5 := x_back69.f 5 _ rfl
            have c_l069 := cell_below hB69 l0
            have c_l169 := cell_below hB69 l1
            have c_l269 := cell_below hB69 l2
            have t69 := hb.size
            try simp at t69
            clear hb hB68 hs68 c_l068 c_l168 c_l268 x_same68 z_same68 c_same68_0 c_same68_1 c_same68_2 c_same68_3 c_same68_4 c_same68_5 f_same68_0 f_same68_1 f_same68_2 f_same68_3 f_same68_4 f_same68_5 x_n68 z_n68 c_n68_0 c_n68_1 c_n68_2 c_n68_3 c_n68_4 c_n68_5 f_n68_0 f_n68_1 f_n68_2 f_n68_3 f_n68_4 f_n68_5 x_s68 z_s68 c_s68_0 c_s68_1 c_s68_2 c_s68_3 c_s68_4 c_s68_5 f_s68_0 f_s68_1 f_s68_2 f_s68_3 f_s68_4 f_s68_5 x_u68 z_u68 c_u68_0 c_u68_1 c_u68_2 c_u68_3 c_u68_4 c_u68_5 f_u68_0 f_u68_1 f_u68_2 f_u68_3 f_u68_4 f_u68_5 x_d68 z_d68 c_d68_0 c_d68_1 c_d68_2 c_d68_3 c_d68_4 c_d68_5 f_d68_0 f_d68_1 f_d68_2 f_d68_3 f_d68_4 f_d68_5 x_back68 z_back68 c_back68_0 c_back68_1 c_back68_2 c_back68_3 c_back68_4 c_back68_5 f_back68_0 f_back68_1 f_back68_2 f_back68_3 f_back68_4 f_back68_5
            go_wp2_with fail
            refine (holds_yes B_s.out i2 (by omega) f2 g2 _).mono ?_
            rintro e w70 ⟨rfl, hb⟩
            have hB70 : Below W2.heap.size W2 w70 := below_thru (by go_grown) hb
            have hs70 : W2.heap.size ≤ w70.heap.size := hB70.size
            have x_same70 : Box w70 (w60.heap.size) [.int .i64 10, .int .i64 3, .int .i64 2, .int .i64 1, .int .i64 0, .int .u64 0] := (by refine Box.below ?_ hb; repeat (first | (with_reducible assumption) | (with_reducible refine Box.drew ?_) | (with_reducible refine Box.drewN ?_ _) | ((with_reducible refine Box.new ?_); simp; done) | (with_reducible apply Box.set2) | ((with_reducible apply Box.put); (with_reducible assumption); rfl) | (with_reducible refine Box.alloc ?_ _) | (with_reducible refine Box.other ?_ (by first | (dsimp only; omega) | omega) _)))
            have z_same70 := x_same70.lt
            have c_same70_0 := x_same70.c 0 _ rfl
            have f_same70_0 := x_same70.f 0 _ rfl
            have c_same70_1 := x_same70.c 1 _ rfl
            have f_same70_1 := x_same70.f 1 _ rfl
            have c_same70_2 := x_same70.c 2 _ rfl
            have f_same70_2 := x_same70.f 2 _ rfl
            have c_same70_3 := x_same70.c 3 _ rfl
            have f_same70_3 := x_same70.f 3 _ rfl
            have c_same70_4 := x_same70.c 4 _ rfl
            have f_same70_4 := x_same70.f 4 _ rfl
            have c_same70_5 := x_same70.c 5 _ rfl
            have f_same70_5 := x_same70.f 5 _ rfl
            have x_n70 : Box w70 (w61.heap.size) [.int .i64 1000000000, .int .i64 0, .int .i64 1000000000, .int .i64 0, .int .i64 0, .int .u64 0] := (by refine Box.below ?_ hb; repeat (first | (with_reducible assumption) | (with_reducible refine Box.drew ?_) | (with_reducible refine Box.drewN ?_ _) | ((with_reducible refine Box.new ?_); simp; done) | (with_reducible apply Box.set2) | ((with_reducible apply Box.put); (with_reducible assumption); rfl) | (with_reducible refine Box.alloc ?_ _) | (with_reducible refine Box.other ?_ (by first | (dsimp only; omega) | omega) _)))
            have z_n70 := x_n70.lt
            have c_n70_0 := x_n70.c 0 _ rfl
            have f_n70_0 := x_n70.f 0 _ rfl
            have c_n70_1 := x_n70.c 1 _ rfl
            have f_n70_1 := x_n70.f 1 _ rfl
            have c_n70_2 := x_n70.c 2 _ rfl
            have f_n70_2 := x_n70.f 2 _ rfl
            have c_n70_3 := x_n70.c 3 _ rfl
            have f_n70_3 := x_n70.f 3 _ rfl
            have c_n70_4 := x_n70.c 4 _ rfl
            have f_n70_4 := x_n70.f 4 _ rfl
            have c_n70_5 := x_n70.c 5 _ rfl
            have f_n70_5 := x_n70.f 5 _ rfl
            have x_s70 : Box w70 (w62.heap.size) [.int .i64 1000000000, .int .i64 1, .int .i64 1000000000, .int .i64 0, .int .i64 0, .int .u64 0] := (by refine Box.below ?_ hb; repeat (first | (with_reducible assumption) | (with_reducible refine Box.drew ?_) | (with_reducible refine Box.drewN ?_ _) | ((with_reducible refine Box.new ?_); simp; done) | (with_reducible apply Box.set2) | ((with_reducible apply Box.put); (with_reducible assumption); rfl) | (with_reducible refine Box.alloc ?_ _) | (with_reducible refine Box.other ?_ (by first | (dsimp only; omega) | omega) _)))
            have z_s70 := x_s70.lt
            have c_s70_0 := x_s70.c 0 _ rfl
            have f_s70_0 := x_s70.f 0 _ rfl
            have c_s70_1 := x_s70.c 1 _ rfl
            have f_s70_1 := x_s70.f 1 _ rfl
            have c_s70_2 := x_s70.c 2 _ rfl
            have f_s70_2 := x_s70.f 2 _ rfl
            have c_s70_3 := x_s70.c 3 _ rfl
            have f_s70_3 := x_s70.f 3 _ rfl
            have c_s70_4 := x_s70.c 4 _ rfl
            have f_s70_4 := x_s70.f 4 _ rfl
            have c_s70_5 := x_s70.c 5 _ rfl
            have f_s70_5 := x_s70.f 5 _ rfl
            have x_u70 : Box w70 (w63.heap.size) [.int .i64 1000000000, .int .i64 1000000000, .int .i64 1, .int .i64 0, .int .i64 0, .int .u64 0] := (by refine Box.below ?_ hb; repeat (first | (with_reducible assumption) | (with_reducible refine Box.drew ?_) | (with_reducible refine Box.drewN ?_ _) | ((with_reducible refine Box.new ?_); simp; done) | (with_reducible apply Box.set2) | ((with_reducible apply Box.put); (with_reducible assumption); rfl) | (with_reducible refine Box.alloc ?_ _) | (with_reducible refine Box.other ?_ (by first | (dsimp only; omega) | omega) _)))
            have z_u70 := x_u70.lt
            have c_u70_0 := x_u70.c 0 _ rfl
            have f_u70_0 := x_u70.f 0 _ rfl
            have c_u70_1 := x_u70.c 1 _ rfl
            have f_u70_1 := x_u70.f 1 _ rfl
            have c_u70_2 := x_u70.c 2 _ rfl
            have f_u70_2 := x_u70.f 2 _ rfl
            have c_u70_3 := x_u70.c 3 _ rfl
            have f_u70_3 := x_u70.f 3 _ rfl
            have c_u70_4 := x_u70.c 4 _ rfl
            have f_u70_4 := x_u70.f 4 _ rfl
            have c_u70_5 := x_u70.c 5 _ rfl
            have f_u70_5 := x_u70.f 5 _ rfl
            have x_d70 : Box w70 (w64.heap.size) [.int .i64 3, .int .i64 1, .int .i64 2, .int .i64 0, .int .i64 0, .int .u64 18446744073709551612] := (by refine Box.below ?_ hb; repeat (first | (with_reducible assumption) | (with_reducible refine Box.drew ?_) | (with_reducible refine Box.drewN ?_ _) | ((with_reducible refine Box.new ?_); simp; done) | (with_reducible apply Box.set2) | ((with_reducible apply Box.put); (with_reducible assumption); rfl) | (with_reducible refine Box.alloc ?_ _) | (with_reducible refine Box.other ?_ (by first | (dsimp only; omega) | omega) _)))
            have z_d70 := x_d70.lt
            have c_d70_0 := x_d70.c 0 _ rfl
            have f_d70_0 := x_d70.f 0 _ rfl
            have c_d70_1 := x_d70.c 1 _ rfl
            have f_d70_1 := x_d70.f 1 _ rfl
            have c_d70_2 := x_d70.c 2 _ rfl
            have f_d70_2 := x_d70.f 2 _ rfl
            have c_d70_3 := x_d70.c 3 _ rfl
            have f_d70_3 := x_d70.f 3 _ rfl
            have c_d70_4 := x_d70.c 4 _ rfl
            have f_d70_4 := x_d70.f 4 _ rfl
            have c_d70_5 := x_d70.c 5 _ rfl
            have f_d70_5 := x_d70.f 5 _ rfl
            have x_back70 : Box w70 (w66.heap.size) [.int .i64 5, .int .i64 2, .int .i64 3, .int .i64 0, .int .i64 0, .int .u64 7] := (by refine Box.below ?_ hb; repeat (first | (with_reducible assumption) | (with_reducible refine Box.drew ?_) | (with_reducible refine Box.drewN ?_ _) | ((with_reducible refine Box.new ?_); simp; done) | (with_reducible apply Box.set2) | ((with_reducible apply Box.put); (with_reducible assumption); rfl) | (with_reducible refine Box.alloc ?_ _) | (with_reducible refine Box.other ?_ (by first | (dsimp only; omega) | omega) _)))
            have z_back70 := x_back70.lt
            have c_back70_0 := x_back70.c 0 _ rfl
            have f_back70_0 := x_back70.f 0 _ rfl
            have c_back70_1 := x_back70.c 1 _ rfl
            have f_back70_1 := x_back70.f 1 _ rfl
            have c_back70_2 := x_back70.c 2 _ rfl
            have f_back70_2 := x_back70.f 2 _ rfl
            have c_back70_3 := x_back70.c 3 _ rfl
            have f_back70_3 := x_back70.f 3 _ rfl
            have c_back70_4 := x_back70.c 4 _ rfl
            have f_back70_4 := x_back70.f 4 _ rfl
            have c_back70_5 := x_back70.c 5 _ rfl
            have f_back70_5 := x_back70.f 5 _ rfl
            have c_l070 := cell_below hB70 l0
            have c_l170 := cell_below hB70 l1
            have c_l270 := cell_below hB70 l2
            have t70 := hb.size
            try simp at t70
            clear hb hB69 hs69 c_l069 c_l169 c_l269 x_same69 z_same69 c_same69_0 c_same69_1 c_same69_2 c_same69_3 c_same69_4 c_same69_5 f_same69_0 f_same69_1 f_same69_2 f_same69_3 f_same69_4 f_same69_5 x_n69 z_n69 c_n69_0 c_n69_1 c_n69_2 c_n69_3 c_n69_4 c_n69_5 f_n69_0 f_n69_1 f_n69_2 f_n69_3 f_n69_4 f_n69_5 x_s69 z_s69 c_s69_0 c_s69_1 c_s69_2 c_s69_3 c_s69_4 c_s69_5 f_s69_0 f_s69_1 f_s69_2 f_s69_3 f_s69_4 f_s69_5 x_u69 z_u69 c_u69_0 c_u69_1 c_u69_2 c_u69_3 c_u69_4 c_u69_5 f_u69_0 f_u69_1 f_u69_2 f_u69_3 f_u69_4 f_u69_5 x_d69 z_d69 c_d69_0 c_d69_1 c_d69_2 c_d69_3 c_d69_4 c_d69_5 f_d69_0 f_d69_1 f_d69_2 f_d69_3 f_d69_4 f_d69_5 x_back69 z_back69 c_back69_0 c_back69_1 c_back69_2 c_back69_3 c_back69_4 c_back69_5 f_back69_0 f_back69_1 f_back69_2 f_back69_3 f_back69_4 f_back69_5
            go_wp2_with fail
            refine (holds_yes B_u.out i3 (by omega) f3 g3 _).mono ?_
            rintro e w71 ⟨rfl, hb⟩
            have hB71 : Below W2.heap.size W2 w71 := below_thru (by go_grown) hb
            have hs71 : W2.heap.size ≤ w71.heap.size := hB71.size
            have x_same71 : Box w71 (w60.heap.size) [.int .i64 10, .int .i64 3, .int .i64 2, .int .i64 1, .int .i64 0, .int .u64 0] := (by refine Box.below ?_ hb; repeat (first | (with_reducible assumption) | (with_reducible refine Box.drew ?_) | (with_reducible refine Box.drewN ?_ _) | ((with_reducible refine Box.new ?_); simp; done) | (with_reducible apply Box.set2) | ((with_reducible apply Box.put); (with_reducible assumption); rfl) | (with_reducible refine Box.alloc ?_ _) | (with_reducible refine Box.other ?_ (by first | (dsimp only; omega) | omega) _)))
            have z_same71 := x_same71.lt
            have c_same71_0 := x_same71.c 0 _ rfl
            have f_same71_0 := x_same71.f 0 _ rfl
            have c_same71_1 := x_same71.c 1 _ rfl
            have f_same71_1 := x_same71.f 1 _ rfl
            have c_same71_2 := x_same71.c 2 _ rfl
            have f_same71_2 := x_same71.f 2 _ rfl
            have c_same71_3 := x_same71.c 3 _ rfl
            have f_same71_3 := x_same71.f 3 _ rfl
            have c_same71_4 := x_same71.c 4 _ rfl
            have f_same71_4 := x_same71.f 4 _ rfl
            have c_same71_5 := x_same71.c 5 _ rfl
            have f_same71_5 := x_same71.f 5 _ rfl
            have x_n71 : Box w71 (w61.heap.size) [.int .i64 1000000000, .int .i64 0, .int .i64 1000000000, .int .i64 0, .int .i64 0, .int .u64 0] := (by refine Box.below ?_ hb; repeat (first | (with_reducible assumption) | (with_reducible refine Box.drew ?_) | (with_reducible refine Box.drewN ?_ _) | ((with_reducible refine Box.new ?_); simp; done) | (with_reducible apply Box.set2) | ((with_reducible apply Box.put); (with_reducible assumption); rfl) | (with_reducible refine Box.alloc ?_ _) | (with_reducible refine Box.other ?_ (by first | (dsimp only; omega) | omega) _)))
            have z_n71 := x_n71.lt
            have c_n71_0 := x_n71.c 0 _ rfl
            have f_n71_0 := x_n71.f 0 _ rfl
            have c_n71_1 := x_n71.c 1 _ rfl
            have f_n71_1 := x_n71.f 1 _ rfl
            have c_n71_2 := x_n71.c 2 _ rfl
            have f_n71_2 := x_n71.f 2 _ rfl
            have c_n71_3 := x_n71.c 3 _ rfl
            have f_n71_3 := x_n71.f 3 _ rfl
            have c_n71_4 := x_n71.c 4 _ rfl
            have f_n71_4 := x_n71.f 4 _ rfl
            have c_n71_5 := x_n71.c 5 _ rfl
            have f_n71_5 := x_n71.f 5 _ rfl
            have x_s71 : Box w71 (w62.heap.size) [.int .i64 1000000000, .int .i64 1, .int .i64 1000000000, .int .i64 0, .int .i64 0, .int .u64 0] := (by refine Box.below ?_ hb; repeat (first | (with_reducible assumption) | (with_reducible refine Box.drew ?_) | (with_reducible refine Box.drewN ?_ _) | ((with_reducible refine Box.new ?_); simp; done) | (with_reducible apply Box.set2) | ((with_reducible apply Box.put); (with_reducible assumption); rfl) | (with_reducible refine Box.alloc ?_ _) | (with_reducible refine Box.other ?_ (by first | (dsimp only; omega) | omega) _)))
            have z_s71 := x_s71.lt
            have c_s71_0 := x_s71.c 0 _ rfl
            have f_s71_0 := x_s71.f 0 _ rfl
            have c_s71_1 := x_s71.c 1 _ rfl
            have f_s71_1 := x_s71.f 1 _ rfl
            have c_s71_2 := x_s71.c 2 _ rfl
            have f_s71_2 := x_s71.f 2 _ rfl
            have c_s71_3 := x_s71.c 3 _ rfl
            have f_s71_3 := x_s71.f 3 _ rfl
            have c_s71_4 := x_s71.c 4 _ rfl
            have f_s71_4 := x_s71.f 4 _ rfl
            have c_s71_5 := x_s71.c 5 _ rfl
            have f_s71_5 := x_s71.f 5 _ rfl
            have x_u71 : Box w71 (w63.heap.size) [.int .i64 1000000000, .int .i64 1000000000, .int .i64 1, .int .i64 0, .int .i64 0, .int .u64 0] := (by refine Box.below ?_ hb; repeat (first | (with_reducible assumption) | (with_reducible refine Box.drew ?_) | (with_reducible refine Box.drewN ?_ _) | ((with_reducible refine Box.new ?_); simp; done) | (with_reducible apply Box.set2) | ((with_reducible apply Box.put); (with_reducible assumption); rfl) | (with_reducible refine Box.alloc ?_ _) | (with_reducible refine Box.other ?_ (by first | (dsimp only; omega) | omega) _)))
            have z_u71 := x_u71.lt
            have c_u71_0 := x_u71.c 0 _ rfl
            have f_u71_0 := x_u71.f 0 _ rfl
            have c_u71_1 := x_u71.c 1 _ rfl
            have f_u71_1 := x_u71.f 1 _ rfl
            have c_u71_2 := x_u71.c 2 _ rfl
            have f_u71_2 := x_u71.f 2 _ rfl
            have c_u71_3 := x_u71.c 3 _ rfl
            have f_u71_3 := x_u71.f 3 _ rfl
            have c_u71_4 := x_u71.c 4 _ rfl
            have f_u71_4 := x_u71.f 4 _ rfl
            have c_u71_5 := x_u71.c 5 _ rfl
            have f_u71_5 := x_u71.f 5 _ rfl
            have x_d71 : Box w71 (w64.heap.size) [.int .i64 3, .int .i64 1, .int .i64 2, .int .i64 0, .int .i64 0, .int .u64 18446744073709551612] := (by refine Box.below ?_ hb; repeat (first | (with_reducible assumption) | (with_reducible refine Box.drew ?_) | (with_reducible refine Box.drewN ?_ _) | ((with_reducible refine Box.new ?_); simp; done) | (with_reducible apply Box.set2) | ((with_reducible apply Box.put); (with_reducible assumption); rfl) | (with_reducible refine Box.alloc ?_ _) | (with_reducible refine Box.other ?_ (by first | (dsimp only; omega) | omega) _)))
            have z_d71 := x_d71.lt
            have c_d71_0 := x_d71.c 0 _ rfl
            have f_d71_0 := x_d71.f 0 _ rfl
            have c_d71_1 := x_d71.c 1 _ rfl
            have f_d71_1 := x_d71.f 1 _ rfl
            have c_d71_2 := x_d71.c 2 _ rfl
            have f_d71_2 := x_d71.f 2 _ rfl
            have c_d71_3 := x_d71.c 3 _ rfl
            have f_d71_3 := x_d71.f 3 _ rfl
            have c_d71_4 := x_d71.c 4 _ rfl
            have f_d71_4 := x_d71.f 4 _ rfl
            have c_d71_5 := x_d71.c 5 _ rfl
            have f_d71_5 := x_d71.f 5 _ rfl
            have x_back71 : Box w71 (w66.heap.size) [.int .i64 5, .int .i64 2, .int .i64 3, .int .i64 0, .int .i64 0, .int .u64 7] := (by refine Box.below ?_ hb; repeat (first | (with_reducible assumption) | (with_reducible refine Box.drew ?_) | (with_reducible refine Box.drewN ?_ _) | ((with_reducible refine Box.new ?_); simp; done) | (with_reducible apply Box.set2) | ((with_reducible apply Box.put); (with_reducible assumption); rfl) | (with_reducible refine Box.alloc ?_ _) | (with_reducible refine Box.other ?_ (by first | (dsimp only; omega) | omega) _)))
            have z_back71 := x_back71.lt
            have c_back71_0 := x_back71.c 0 _ rfl
            have f_back71_0 := x_back71.f 0 _ rfl
            have c_back71_1 := x_back71.c 1 _ rfl
            have f_back71_1 := x_back71.f 1 _ rfl
            have c_back71_2 := x_back71.c 2 _ rfl
            have f_back71_2 := x_back71.f 2 _ rfl
            have c_back71_3 := x_back71.c 3 _ rfl
            have f_back71_3 := x_back71.f 3 _ rfl
            have c_back71_4 := x_back71.c 4 _ rfl
            have f_back71_4 := x_back71.f 4 _ rfl
            have c_back71_5 := x_back71.c 5 _ rfl
            have f_back71_5 := x_back71.f 5 _ rfl
            have c_l071 := cell_below hB71 l0
            have c_l171 := cell_below hB71 l1
            have c_l271 := cell_below hB71 l2
            have t71 := hb.size
            try simp at t71
            clear hb hB70 hs70 c_l070 c_l170 c_l270 x_same70 z_same70 c_same70_0 c_same70_1 c_same70_2 c_same70_3 c_same70_4 c_same70_5 f_same70_0 f_same70_1 f_same70_2 f_same70_3 f_same70_4 f_same70_5 x_n70 z_n70 c_n70_0 c_n70_1 c_n70_2 c_n70_3 c_n70_4 c_n70_5 f_n70_0 f_n70_1 f_n70_2 f_n70_3 f_n70_4 f_n70_5 x_s70 z_s70 c_s70_0 c_s70_1 c_s70_2 c_s70_3 c_s70_4 c_s70_5 f_s70_0 f_s70_1 f_s70_2 f_s70_3 f_s70_4 f_s70_5 x_u70 z_u70 c_u70_0 c_u70_1 c_u70_2 c_u70_3 c_u70_4 c_u70_5 f_u70_0 f_u70_1 f_u70_2 f_u70_3 f_u70_4 f_u70_5 x_d70 z_d70 c_d70_0 c_d70_1 c_d70_2 c_d70_3 c_d70_4 c_d70_5 f_d70_0 f_d70_1 f_d70_2 f_d70_3 f_d70_4 f_d70_5 x_back70 z_back70 c_back70_0 c_back70_1 c_back70_2 c_back70_3 c_back70_4 c_back70_5 f_back70_0 f_back70_1 f_back70_2 f_back70_3 f_back70_4 f_back70_5
            go_wp2_with fail
            refine (holds_yes B_u.out i4 (by omega) f4 g4 _).mono ?_
            rintro e w72 ⟨rfl, hb⟩
            have hB72 : Below W2.heap.size W2 w72 := below_thru (by go_grown) hb
            have hs72 : W2.heap.size ≤ w72.heap.size := hB72.size
            have x_same72 : Box w72 (w60.heap.size) [.int .i64 10, .int .i64 3, .int .i64 2, .int .i64 1, .int .i64 0, .int .u64 0] := (by refine Box.below ?_ hb; repeat (first | (with_reducible assumption) | (with_reducible refine Box.drew ?_) | (with_reducible refine Box.drewN ?_ _) | ((with_reducible refine Box.new ?_); simp; done) | (with_reducible apply Box.set2) | ((with_reducible apply Box.put); (with_reducible assumption); rfl) | (with_reducible refine Box.alloc ?_ _) | (with_reducible refine Box.other ?_ (by first | (dsimp only; omega) | omega) _)))
            have z_same72 := x_same72.lt
            have c_same72_0 := x_same72.c 0 _ rfl
            have f_same72_0 := x_same72.f 0 _ rfl
            have c_same72_1 := x_same72.c 1 _ rfl
            have f_same72_1 := x_same72.f 1 _ rfl
            have c_same72_2 := x_same72.c 2 _ rfl
            have f_same72_2 := x_same72.f 2 _ rfl
            have c_same72_3 := x_same72.c 3 _ rfl
            have f_same72_3 := x_same72.f 3 _ rfl
            have c_same72_4 := x_same72.c 4 _ rfl
            have f_same72_4 := x_same72.f 4 _ rfl
            have c_same72_5 := x_same72.c 5 _ rfl
            have f_same72_5 := x_same72.f 5 _ rfl
            have x_n72 : Box w72 (w61.heap.size) [.int .i64 1000000000, .int .i64 0, .int .i64 1000000000, .int .i64 0, .int .i64 0, .int .u64 0] := (by refine Box.below ?_ hb; repeat (first | (with_reducible assumption) | (with_reducible refine Box.drew ?_) | (with_reducible refine Box.drewN ?_ _) | ((with_reducible refine Box.new ?_); simp; done) | (with_reducible apply Box.set2) | ((with_reducible apply Box.put); (with_reducible assumption); rfl) | (with_reducible refine Box.alloc ?_ _) | (with_reducible refine Box.other ?_ (by first | (dsimp only; omega) | omega) _)))
            have z_n72 := x_n72.lt
            have c_n72_0 := x_n72.c 0 _ rfl
            have f_n72_0 := x_n72.f 0 _ rfl
            have c_n72_1 := x_n72.c 1 _ rfl
            have f_n72_1 := x_n72.f 1 _ rfl
            have c_n72_2 := x_n72.c 2 _ rfl
            have f_n72_2 := x_n72.f 2 _ rfl
            have c_n72_3 := x_n72.c 3 _ rfl
            have f_n72_3 := x_n72.f 3 _ rfl
            have c_n72_4 := x_n72.c 4 _ rfl
            have f_n72_4 := x_n72.f 4 _ rfl
            have c_n72_5 := x_n72.c 5 _ rfl
            have f_n72_5 := x_n72.f 5 _ rfl
            have x_s72 : Box w72 (w62.heap.size) [.int .i64 1000000000, .int .i64 1, .int .i64 1000000000, .int .i64 0, .int .i64 0, .int .u64 0] := (by refine Box.below ?_ hb; repeat (first | (with_reducible assumption) | (with_reducible refine Box.drew ?_) | (with_reducible refine Box.drewN ?_ _) | ((with_reducible refine Box.new ?_); simp; done) | (with_reducible apply Box.set2) | ((with_reducible apply Box.put); (with_reducible assumption); rfl) | (with_reducible refine Box.alloc ?_ _) | (with_reducible refine Box.other ?_ (by first | (dsimp only; omega) | omega) _)))
            have z_s72 := x_s72.lt
            have c_s72_0 := x_s72.c 0 _ rfl
            have f_s72_0 := x_s72.f 0 _ rfl
            have c_s72_1 := x_s72.c 1 _ rfl
            have f_s72_1 := x_s72.f 1 _ rfl
            have c_s72_2 := x_s72.c 2 _ rfl
            have f_s72_2 := x_s72.f 2 _ rfl
            have c_s72_3 := x_s72.c 3 _ rfl
            have f_s72_3 := x_s72.f 3 _ rfl
            have c_s72_4 := x_s72.c 4 _ rfl
            have f_s72_4 := x_s72.f 4 _ rfl
            have c_s72_5 := x_s72.c 5 _ rfl
            have f_s72_5 := x_s72.f 5 _ rfl
            have x_u72 : Box w72 (w63.heap.size) [.int .i64 1000000000, .int .i64 1000000000, .int .i64 1, .int .i64 0, .int .i64 0, .int .u64 0] := (by refine Box.below ?_ hb; repeat (first | (with_reducible assumption) | (with_reducible refine Box.drew ?_) | (with_reducible refine Box.drewN ?_ _) | ((with_reducible refine Box.new ?_); simp; done) | (with_reducible apply Box.set2) | ((with_reducible apply Box.put); (with_reducible assumption); rfl) | (with_reducible refine Box.alloc ?_ _) | (with_reducible refine Box.other ?_ (by first | (dsimp only; omega) | omega) _)))
            have z_u72 := x_u72.lt
            have c_u72_0 := x_u72.c 0 _ rfl
            have f_u72_0 := x_u72.f 0 _ rfl
            have c_u72_1 := x_u72.c 1 _ rfl
            have f_u72_1 := x_u72.f 1 _ rfl
            have c_u72_2 := x_u72.c 2 _ rfl
            have f_u72_2 := x_u72.f 2 _ rfl
            have c_u72_3 := x_u72.c 3 _ rfl
            have f_u72_3 := x_u72.f 3 _ rfl
            have c_u72_4 := x_u72.c 4 _ rfl
            have f_u72_4 := x_u72.f 4 _ rfl
            have c_u72_5 := x_u72.c 5 _ rfl
            have f_u72_5 := x_u72.f 5 _ rfl
            have x_d72 : Box w72 (w64.heap.size) [.int .i64 3, .int .i64 1, .int .i64 2, .int .i64 0, .int .i64 0, .int .u64 18446744073709551612] := (by refine Box.below ?_ hb; repeat (first | (with_reducible assumption) | (with_reducible refine Box.drew ?_) | (with_reducible refine Box.drewN ?_ _) | ((with_reducible refine Box.new ?_); simp; done) | (with_reducible apply Box.set2) | ((with_reducible apply Box.put); (with_reducible assumption); rfl) | (with_reducible refine Box.alloc ?_ _) | (with_reducible refine Box.other ?_ (by first | (dsimp only; omega) | omega) _)))
            have z_d72 := x_d72.lt
            have c_d72_0 := x_d72.c 0 _ rfl
            have f_d72_0 := x_d72.f 0 _ rfl
            have c_d72_1 := x_d72.c 1 _ rfl
            have f_d72_1 := x_d72.f 1 _ rfl
            have c_d72_2 := x_d72.c 2 _ rfl
            have f_d72_2 := x_d72.f 2 _ rfl
            have c_d72_3 := x_d72.c 3 _ rfl
            have f_d72_3 := x_d72.f 3 _ rfl
            have c_d72_4 := x_d72.c 4 _ rfl
            have f_d72_4 := x_d72.f 4 _ rfl
            have c_d72_5 := x_d72.c 5 _ rfl
            have f_d72_5 := x_d72.f 5 _ rfl
            have x_back72 : Box w72 (w66.heap.size) [.int .i64 5, .int .i64 2, .int .i64 3, .int .i64 0, .int .i64 0, .int .u64 7] := (by refine Box.below ?_ hb; repeat (first | (with_reducible assumption) | (with_reducible refine Box.drew ?_) | (with_reducible refine Box.drewN ?_ _) | ((with_reducible refine Box.new ?_); simp; done) | (with_reducible apply Box.set2) | ((with_reducible apply Box.put); (with_reducible assumption); rfl) | (with_reducible refine Box.alloc ?_ _) | (with_reducible refine Box.other ?_ (by first | (dsimp only; omega) | omega) _)))
            have z_back72 := x_back72.lt
            have c_back72_0 := x_back72.c 0 _ rfl
            have f_back72_0 := x_back72.f 0 _ rfl
            have c_back72_1 := x_back72.c 1 _ rfl
            have f_back72_1 := x_back72.f 1 _ rfl
            have c_back72_2 := x_back72.c 2 _ rfl
            have f_back72_2 := x_back72.f 2 _ rfl
            have c_back72_3 := x_back72.c 3 _ rfl
            have f_back72_3 := x_back72.f 3 _ rfl
            have c_back72_4 := x_back72.c 4 _ rfl
            have f_back72_4 := x_back72.f 4 _ rfl
            have c_back72_5 := x_back72.c 5 _ rfl
            have f_back72_5 := x_back72.f 5 _ rfl
            have c_l072 := cell_below hB72 l0
            have c_l172 := cell_below hB72 l1
            have c_l272 := cell_below hB72 l2
            have t72 := hb.size
            try simp at t72
            clear hb hB71 hs71 c_l071 c_l171 c_l271 x_same71 z_same71 c_same71_0 c_same71_1 c_same71_2 c_same71_3 c_same71_4 c_same71_5 f_same71_0 f_same71_1 f_same71_2 f_same71_3 f_same71_4 f_same71_5 x_n71 z_n71 c_n71_0 c_n71_1 c_n71_2 c_n71_3 c_n71_4 c_n71_5 f_n71_0 f_n71_1 f_n71_2 f_n71_3 f_n71_4 f_n71_5 x_s71 z_s71 c_s71_0 c_s71_1 c_s71_2 c_s71_3 c_s71_4 c_s71_5 f_s71_0 f_s71_1 f_s71_2 f_s71_3 f_s71_4 f_s71_5 x_u71 z_u71 c_u71_0 c_u71_1 c_u71_2 c_u71_3 c_u71_4 c_u71_5 f_u71_0 f_u71_1 f_u71_2 f_u71_3 f_u71_4 f_u71_5 x_d71 z_d71 c_d71_0 c_d71_1 c_d71_2 c_d71_3 c_d71_4 c_d71_5 f_d71_0 f_d71_1 f_d71_2 f_d71_3 f_d71_4 f_d71_5 x_back71 z_back71 c_back71_0 c_back71_1 c_back71_2 c_back71_3 c_back71_4 c_back71_5 f_back71_0 f_back71_1 f_back71_2 f_back71_3 f_back71_4 f_back71_5
            go_wp2_with fail
            refine (holds_yes B_d.out i5 (by omega) f5 g5 _).mono ?_
            rintro e w73 ⟨rfl, hb⟩
            have hB73 : Below W2.heap.size W2 w73 := below_thru (by go_grown) hb
            have hs73 : W2.heap.size ≤ w73.heap.size := hB73.size
            have x_same73 : Box w73 (w60.heap.size) [.int .i64 10, .int .i64 3, .int .i64 2, .int .i64 1, .int .i64 0, .int .u64 0] := (by refine Box.below ?_ hb; repeat (first | (with_reducible assumption) | (with_reducible refine Box.drew ?_) | (with_reducible refine Box.drewN ?_ _) | ((with_reducible refine Box.new ?_); simp; done) | (with_reducible apply Box.set2) | ((with_reducible apply Box.put); (with_reducible assumption); rfl) | (with_reducible refine Box.alloc ?_ _) | (with_reducible refine Box.other ?_ (by first | (dsimp only; omega) | omega) _)))
            have z_same73 := x_same73.lt
            have c_same73_0 := x_same73.c 0 _ rfl
            have f_same73_0 := x_same73.f 0 _ rfl
            have c_same73_1 := x_same73.c 1 _ rfl
            have f_same73_1 := x_same73.f 1 _ rfl
            have c_same73_2 := x_same73.c 2 _ rfl
            have f_same73_2 := x_same73.f 2 _ rfl
            have c_same73_3 := x_same73.c 3 _ rfl
            have f_same73_3 := x_same73.f 3 _ rfl
            have c_same73_4 := x_same73.c 4 _ rfl
            have f_same73_4 := x_same73.f 4 _ rfl
            have c_same73_5 := x_same73.c 5 _ rfl
            have f_same73_5 := x_same73.f 5 _ rfl
            have x_n73 : Box w73 (w61.heap.size) [.int .i64 1000000000, .int .i64 0, .int .i64 1000000000, .int .i64 0, .int .i64 0, .int .u64 0] := (by refine Box.below ?_ hb; repeat (first | (with_reducible assumption) | (with_reducible refine Box.drew ?_) | (with_reducible refine Box.drewN ?_ _) | ((with_reducible refine Box.new ?_); simp; done) | (with_reducible apply Box.set2) | ((with_reducible apply Box.put); (with_reducible assumption); rfl) | (with_reducible refine Box.alloc ?_ _) | (with_reducible refine Box.other ?_ (by first | (dsimp only; omega) | omega) _)))
            have z_n73 := x_n73.lt
            have c_n73_0 := x_n73.c 0 _ rfl
            have f_n73_0 := x_n73.f 0 _ rfl
            have c_n73_1 := x_n73.c 1 _ rfl
            have f_n73_1 := x_n73.f 1 _ rfl
            have c_n73_2 := x_n73.c 2 _ rfl
            have f_n73_2 := x_n73.f 2 _ rfl
            have c_n73_3 := x_n73.c 3 _ rfl
            have f_n73_3 := x_n73.f 3 _ rfl
            have c_n73_4 := x_n73.c 4 _ rfl
            have f_n73_4 := x_n73.f 4 _ rfl
            have c_n73_5 := x_n73.c 5 _ rfl
            have f_n73_5 := x_n73.f 5 _ rfl
            have x_s73 : Box w73 (w62.heap.size) [.int .i64 1000000000, .int .i64 1, .int .i64 1000000000, .int .i64 0, .int .i64 0, .int .u64 0] := (by refine Box.below ?_ hb; repeat (first | (with_reducible assumption) | (with_reducible refine Box.drew ?_) | (with_reducible refine Box.drewN ?_ _) | ((with_reducible refine Box.new ?_); simp; done) | (with_reducible apply Box.set2) | ((with_reducible apply Box.put); (with_reducible assumption); rfl) | (with_reducible refine Box.alloc ?_ _) | (with_reducible refine Box.other ?_ (by first | (dsimp only; omega) | omega) _)))
            have z_s73 := x_s73.lt
            have c_s73_0 := x_s73.c 0 _ rfl
            have f_s73_0 := x_s73.f 0 _ rfl
            have c_s73_1 := x_s73.c 1 _ rfl
            have f_s73_1 := x_s73.f 1 _ rfl
            have c_s73_2 := x_s73.c 2 _ rfl
            have f_s73_2 := x_s73.f 2 _ rfl
            have c_s73_3 := x_s73.c 3 _ rfl
            have f_s73_3 := x_s73.f 3 _ rfl
            have c_s73_4 := x_s73.c 4 _ rfl
            have f_s73_4 := x_s73.f 4 _ rfl
            have c_s73_5 := x_s73.c 5 _ rfl
            have f_s73_5 := x_s73.f 5 _ rfl
            have x_u73 : Box w73 (w63.heap.size) [.int .i64 1000000000, .int .i64 1000000000, .int .i64 1, .int .i64 0, .int .i64 0, .int .u64 0] := (by refine Box.below ?_ hb; repeat (first | (with_reducible assumption) | (with_reducible refine Box.drew ?_) | (with_reducible refine Box.drewN ?_ _) | ((with_reducible refine Box.new ?_); simp; done) | (with_reducible apply Box.set2) | ((with_reducible apply Box.put); (with_reducible assumption); rfl) | (with_reducible refine Box.alloc ?_ _) | (with_reducible refine Box.other ?_ (by first | (dsimp only; omega) | omega) _)))
            have z_u73 := x_u73.lt
            have c_u73_0 := x_u73.c 0 _ rfl
            have f_u73_0 := x_u73.f 0 _ rfl
            have c_u73_1 := x_u73.c 1 _ rfl
            have f_u73_1 := x_u73.f 1 _ rfl
            have c_u73_2 := x_u73.c 2 _ rfl
            have f_u73_2 := x_u73.f 2 _ rfl
            have c_u73_3 := x_u73.c 3 _ rfl
            have f_u73_3 := x_u73.f 3 _ rfl
            have c_u73_4 := x_u73.c 4 _ rfl
            have f_u73_4 := x_u73.f 4 _ rfl
            have c_u73_5 := x_u73.c 5 _ rfl
            have f_u73_5 := x_u73.f 5 _ rfl
            have x_d73 : Box w73 (w64.heap.size) [.int .i64 3, .int .i64 1, .int .i64 2, .int .i64 0, .int .i64 0, .int .u64 18446744073709551612] := (by refine Box.below ?_ hb; repeat (first | (with_reducible assumption) | (with_reducible refine Box.drew ?_) | (with_reducible refine Box.drewN ?_ _) | ((with_reducible refine Box.new ?_); simp; done) | (with_reducible apply Box.set2) | ((with_reducible apply Box.put); (with_reducible assumption); rfl) | (with_reducible refine Box.alloc ?_ _) | (with_reducible refine Box.other ?_ (by first | (dsimp only; omega) | omega) _)))
            have z_d73 := x_d73.lt
            have c_d73_0 := x_d73.c 0 _ rfl
            have f_d73_0 := x_d73.f 0 _ rfl
            have c_d73_1 := x_d73.c 1 _ rfl
            have f_d73_1 := x_d73.f 1 _ rfl
            have c_d73_2 := x_d73.c 2 _ rfl
            have f_d73_2 := x_d73.f 2 _ rfl
            have c_d73_3 := x_d73.c 3 _ rfl
            have f_d73_3 := x_d73.f 3 _ rfl
            have c_d73_4 := x_d73.c 4 _ rfl
            have f_d73_4 := x_d73.f 4 _ rfl
            have c_d73_5 := x_d73.c 5 _ rfl
            have f_d73_5 := x_d73.f 5 _ rfl
            have x_back73 : Box w73 (w66.heap.size) [.int .i64 5, .int .i64 2, .int .i64 3, .int .i64 0, .int .i64 0, .int .u64 7] := (by refine Box.below ?_ hb; repeat (first | (with_reducible assumption) | (with_reducible refine Box.drew ?_) | (with_reducible refine Box.drewN ?_ _) | ((with_reducible refine Box.new ?_); simp; done) | (with_reducible apply Box.set2) | ((with_reducible apply Box.put); (with_reducible assumption); rfl) | (with_reducible refine Box.alloc ?_ _) | (with_reducible refine Box.other ?_ (by first | (dsimp only; omega) | omega) _)))
            have z_back73 := x_back73.lt
            have c_back73_0 := x_back73.c 0 _ rfl
            have f_back73_0 := x_back73.f 0 _ rfl
            have c_back73_1 := x_back73.c 1 _ rfl
            have f_back73_1 := x_back73.f 1 _ rfl
            have c_back73_2 := x_back73.c 2 _ rfl
            have f_back73_2 := x_back73.f 2 _ rfl
            have c_back73_3 := x_back73.c 3 _ rfl
            have f_back73_3 := x_back73.f 3 _ rfl
            have c_back73_4 := x_back73.c 4 _ rfl
            have f_back73_4 := x_back73.f 4 _ rfl
            have c_back73_5 := x_back73.c 5 _ rfl
            have f_back73_5 := x_back73.f 5 _ rfl
            have c_l073 := cell_below hB73 l0
            have c_l173 := cell_below hB73 l1
            have c_l273 := cell_below hB73 l2
            have t73 := hb.size
            try simp at t73
            clear hb hB72 hs72 c_l072 c_l172 c_l272 x_same72 z_same72 c_same72_0 c_same72_1 c_same72_2 c_same72_3 c_same72_4 c_same72_5 f_same72_0 f_same72_1 f_same72_2 f_same72_3 f_same72_4 f_same72_5 x_n72 z_n72 c_n72_0 c_n72_1 c_n72_2 c_n72_3 c_n72_4 c_n72_5 f_n72_0 f_n72_1 f_n72_2 f_n72_3 f_n72_4 f_n72_5 x_s72 z_s72 c_s72_0 c_s72_1 c_s72_2 c_s72_3 c_s72_4 c_s72_5 f_s72_0 f_s72_1 f_s72_2 f_s72_3 f_s72_4 f_s72_5 x_u72 z_u72 c_u72_0 c_u72_1 c_u72_2 c_u72_3 c_u72_4 c_u72_5 f_u72_0 f_u72_1 f_u72_2 f_u72_3 f_u72_4 f_u72_5 x_d72 z_d72 c_d72_0 c_d72_1 c_d72_2 c_d72_3 c_d72_4 c_d72_5 f_d72_0 f_d72_1 f_d72_2 f_d72_3 f_d72_4 f_d72_5 x_back72 z_back72 c_back72_0 c_back72_1 c_back72_2 c_back72_3 c_back72_4 c_back72_5 f_back72_0 f_back72_1 f_back72_2 f_back72_3 f_back72_4 f_back72_5
            go_wp2_with fail
            refine (waits_yes B_n.out (by omega) n0 _).mono ?_
            rintro e w74 ⟨rfl, hb⟩
            have hB74 : Below W2.heap.size W2 w74 := below_thru (by go_grown) hb
            have hs74 : W2.heap.size ≤ w74.heap.size := hB74.size
            have x_same74 : Box w74 (w60.heap.size) [.int .i64 10, .int .i64 3, .int .i64 2, .int .i64 1, .int .i64 0, .int .u64 0] := (by refine Box.below ?_ hb; repeat (first | (with_reducible assumption) | (with_reducible refine Box.drew ?_) | (with_reducible refine Box.drewN ?_ _) | ((with_reducible refine Box.new ?_); simp; done) | (with_reducible apply Box.set2) | ((with_reducible apply Box.put); (with_reducible assumption); rfl) | (with_reducible refine Box.alloc ?_ _) | (with_reducible refine Box.other ?_ (by first | (dsimp only; omega) | omega) _)))
            have z_same74 := x_same74.lt
            have c_same74_0 := x_same74.c 0 _ rfl
            have f_same74_0 := x_same74.f 0 _ rfl
            have c_same74_1 := x_same74.c 1 _ rfl
            have f_same74_1 := x_same74.f 1 _ rfl
            have c_same74_2 := x_same74.c 2 _ rfl
            have f_same74_2 := x_same74.f 2 _ rfl
            have c_same74_3 := x_same74.c 3 _ rfl
            have f_same74_3 := x_same74.f 3 _ rfl
            have c_same74_4 := x_same74.c 4 _ rfl
            have f_same74_4 := x_same74.f 4 _ rfl
            have c_same74_5 := x_same74.c 5 _ rfl
            have f_same74_5 := x_same74.f 5 _ rfl
            have x_n74 : Box w74 (w61.heap.size) [.int .i64 1000000000, .int .i64 0, .int .i64 1000000000, .int .i64 0, .int .i64 0, .int .u64 0] := (by refine Box.below ?_ hb; repeat (first | (with_reducible assumption) | (with_reducible refine Box.drew ?_) | (with_reducible refine Box.drewN ?_ _) | ((with_reducible refine Box.new ?_); simp; done) | (with_reducible apply Box.set2) | ((with_reducible apply Box.put); (with_reducible assumption); rfl) | (with_reducible refine Box.alloc ?_ _) | (with_reducible refine Box.other ?_ (by first | (dsimp only; omega) | omega) _)))
            have z_n74 := x_n74.lt
            have c_n74_0 := x_n74.c 0 _ rfl
            have f_n74_0 := x_n74.f 0 _ rfl
            have c_n74_1 := x_n74.c 1 _ rfl
            have f_n74_1 := x_n74.f 1 _ rfl
            have c_n74_2 := x_n74.c 2 _ rfl
            have f_n74_2 := x_n74.f 2 _ rfl
            have c_n74_3 := x_n74.c 3 _ rfl
            have f_n74_3 := x_n74.f 3 _ rfl
            have c_n74_4 := x_n74.c 4 _ rfl
            have f_n74_4 := x_n74.f 4 _ rfl
            have c_n74_5 := x_n74.c 5 _ rfl
            have f_n74_5 := x_n74.f 5 _ rfl
            have x_s74 : Box w74 (w62.heap.size) [.int .i64 1000000000, .int .i64 1, .int .i64 1000000000, .int .i64 0, .int .i64 0, .int .u64 0] := (by refine Box.below ?_ hb; repeat (first | (with_reducible assumption) | (with_reducible refine Box.drew ?_) | (with_reducible refine Box.drewN ?_ _) | ((with_reducible refine Box.new ?_); simp; done) | (with_reducible apply Box.set2) | ((with_reducible apply Box.put); (with_reducible assumption); rfl) | (with_reducible refine Box.alloc ?_ _) | (with_reducible refine Box.other ?_ (by first | (dsimp only; omega) | omega) _)))
            have z_s74 := x_s74.lt
            have c_s74_0 := x_s74.c 0 _ rfl
            have f_s74_0 := x_s74.f 0 _ rfl
            have c_s74_1 := x_s74.c 1 _ rfl
            have f_s74_1 := x_s74.f 1 _ rfl
            have c_s74_2 := x_s74.c 2 _ rfl
            have f_s74_2 := x_s74.f 2 _ rfl
            have c_s74_3 := x_s74.c 3 _ rfl
            have f_s74_3 := x_s74.f 3 _ rfl
            have c_s74_4 := x_s74.c 4 _ rfl
            have f_s74_4 := x_s74.f 4 _ rfl
            have c_s74_5 := x_s74.c 5 _ rfl
            have f_s74_5 := x_s74.f 5 _ rfl
            have x_u74 : Box w74 (w63.heap.size) [.int .i64 1000000000, .int .i64 1000000000, .int .i64 1, .int .i64 0, .int .i64 0, .int .u64 0] := (by refine Box.below ?_ hb; repeat (first | (with_reducible assumption) | (with_reducible refine Box.drew ?_) | (with_reducible refine Box.drewN ?_ _) | ((with_reducible refine Box.new ?_); simp; done) | (with_reducible apply Box.set2) | ((with_reducible apply Box.put); (with_reducible assumption); rfl) | (with_reducible refine Box.alloc ?_ _) | (with_reducible refine Box.other ?_ (by first | (dsimp only; omega) | omega) _)))
            have z_u74 := x_u74.lt
            have c_u74_0 := x_u74.c 0 _ rfl
            have f_u74_0 := x_u74.f 0 _ rfl
            have c_u74_1 := x_u74.c 1 _ rfl
            have f_u74_1 := x_u74.f 1 _ rfl
            have c_u74_2 := x_u74.c 2 _ rfl
            have f_u74_2 := x_u74.f 2 _ rfl
            have c_u74_3 := x_u74.c 3 _ rfl
            have f_u74_3 := x_u74.f 3 _ rfl
            have c_u74_4 := x_u74.c 4 _ rfl
            have f_u74_4 := x_u74.f 4 _ rfl
            have c_u74_5 := x_u74.c 5 _ rfl
            have f_u74_5 := x_u74.f 5 _ rfl
            have x_d74 : Box w74 (w64.heap.size) [.int .i64 3, .int .i64 1, .int .i64 2, .int .i64 0, .int .i64 0, .int .u64 18446744073709551612] := (by refine Box.below ?_ hb; repeat (first | (with_reducible assumption) | (with_reducible refine Box.drew ?_) | (with_reducible refine Box.drewN ?_ _) | ((with_reducible refine Box.new ?_); simp; done) | (with_reducible apply Box.set2) | ((with_reducible apply Box.put); (with_reducible assumption); rfl) | (with_reducible refine Box.alloc ?_ _) | (with_reducible refine Box.other ?_ (by first | (dsimp only; omega) | omega) _)))
            have z_d74 := x_d74.lt
            have c_d74_0 := x_d74.c 0 _ rfl
            have f_d74_0 := x_d74.f 0 _ rfl
            have c_d74_1 := x_d74.c 1 _ rfl
            have f_d74_1 := x_d74.f 1 _ rfl
            have c_d74_2 := x_d74.c 2 _ rfl
            have f_d74_2 := x_d74.f 2 _ rfl
            have c_d74_3 := x_d74.c 3 _ rfl
            have f_d74_3 := x_d74.f 3 _ rfl
            have c_d74_4 := x_d74.c 4 _ rfl
            have f_d74_4 := x_d74.f 4 _ rfl
            have c_d74_5 := x_d74.c 5 _ rfl
            have f_d74_5 := x_d74.f 5 _ rfl
            have x_back74 : Box w74 (w66.heap.size) [.int .i64 5, .int .i64 2, .int .i64 3, .int .i64 0, .int .i64 0, .int .u64 7] := (by refine Box.below ?_ hb; repeat (first | (with_reducible assumption) | (with_reducible refine Box.drew ?_) | (with_reducible refine Box.drewN ?_ _) | ((with_reducible refine Box.new ?_); simp; done) | (with_reducible apply Box.set2) | ((with_reducible apply Box.put); (with_reducible assumption); rfl) | (with_reducible refine Box.alloc ?_ _) | (with_reducible refine Box.other ?_ (by first | (dsimp only; omega) | omega) _)))
            have z_back74 := x_back74.lt
            have c_back74_0 := x_back74.c 0 _ rfl
            have f_back74_0 := x_back74.f 0 _ rfl
            have c_back74_1 := x_back74.c 1 _ rfl
            have f_back74_1 := x_back74.f 1 _ rfl
            have c_back74_2 := x_back74.c 2 _ rfl
            have f_back74_2 := x_back74.f 2 _ rfl
            have c_back74_3 := x_back74.c 3 _ rfl
            have f_back74_3 := x_back74.f 3 _ rfl
            have c_back74_4 := x_back74.c 4 _ rfl
            have f_back74_4 := x_back74.f 4 _ rfl
            have c_back74_5 := x_back74.c 5 _ rfl
            have f_back74_5 := x_back74.f 5 _ rfl
            have c_l074 := cell_below hB74 l0
            have c_l174 := cell_below hB74 l1
            have c_l274 := cell_below hB74 l2
            have t74 := hb.size
            try simp at t74
            clear hb hB73 hs73 c_l073 c_l173 c_l273 x_same73 z_same73 c_same73_0 c_same73_1 c_same73_2 c_same73_3 c_same73_4 c_same73_5 f_same73_0 f_same73_1 f_same73_2 f_same73_3 f_same73_4 f_same73_5 x_n73 z_n73 c_n73_0 c_n73_1 c_n73_2 c_n73_3 c_n73_4 c_n73_5 f_n73_0 f_n73_1 f_n73_2 f_n73_3 f_n73_4 f_n73_5 x_s73 z_s73 c_s73_0 c_s73_1 c_s73_2 c_s73_3 c_s73_4 c_s73_5 f_s73_0 f_s73_1 f_s73_2 f_s73_3 f_s73_4 f_s73_5 x_u73 z_u73 c_u73_0 c_u73_1 c_u73_2 c_u73_3 c_u73_4 c_u73_5 f_u73_0 f_u73_1 f_u73_2 f_u73_3 f_u73_4 f_u73_5 x_d73 z_d73 c_d73_0 c_d73_1 c_d73_2 c_d73_3 c_d73_4 c_d73_5 f_d73_0 f_d73_1 f_d73_2 f_d73_3 f_d73_4 f_d73_5 x_back73 z_back73 c_back73_0 c_back73_1 c_back73_2 c_back73_3 c_back73_4 c_back73_5 f_back73_0 f_back73_1 f_back73_2 f_back73_3 f_back73_4 f_back73_5
            go_wp2_with fail
            refine (waits_yes B_n.out (by omega) n1 _).mono ?_
            rintro e w75 ⟨rfl, hb⟩
            have hB75 : Below W2.heap.size W2 w75 := below_thru (by go_grown) hb
            have hs75 : W2.heap.size ≤ w75.heap.size := hB75.size
            have x_same75 : Box w75 (w60.heap.size) [.int .i64 10, .int .i64 3, .int .i64 2, .int .i64 1, .int .i64 0, .int .u64 0] := (by refine Box.below ?_ hb; repeat (first | (with_reducible assumption) | (with_reducible refine Box.drew ?_) | (with_reducible refine Box.drewN ?_ _) | ((with_reducible refine Box.new ?_); simp; done) | (with_reducible apply Box.set2) | ((with_reducible apply Box.put); (with_reducible assumption); rfl) | (with_reducible refine Box.alloc ?_ _) | (with_reducible refine Box.other ?_ (by first | (dsimp only; omega) | omega) _)))
            have z_same75 := x_same75.lt
            have c_same75_0 := x_same75.c 0 _ rfl
            have f_same75_0 := x_same75.f 0 _ rfl
            have c_same75_1 := x_same75.c 1 _ rfl
            have f_same75_1 := x_same75.f 1 _ rfl
            have c_same75_2 := x_same75.c 2 _ rfl
            have f_same75_2 := x_same75.f 2 _ rfl
            have c_same75_3 := x_same75.c 3 _ rfl
            have f_same75_3 := x_same75.f 3 _ rfl
            have c_same75_4 := x_same75.c 4 _ rfl
            have f_same75_4 := x_same75.f 4 _ rfl
            have c_same75_5 := x_same75.c 5 _ rfl
            have f_same75_5 := x_same75.f 5 _ rfl
            have x_n75 : Box w75 (w61.heap.size) [.int .i64 1000000000, .int .i64 0, .int .i64 1000000000, .int .i64 0, .int .i64 0, .int .u64 0] := (by refine Box.below ?_ hb; repeat (first | (with_reducible assumption) | (with_reducible refine Box.drew ?_) | (with_reducible refine Box.drewN ?_ _) | ((with_reducible refine Box.new ?_); simp; done) | (with_reducible apply Box.set2) | ((with_reducible apply Box.put); (with_reducible assumption); rfl) | (with_reducible refine Box.alloc ?_ _) | (with_reducible refine Box.other ?_ (by first | (dsimp only; omega) | omega) _)))
            have z_n75 := x_n75.lt
            have c_n75_0 := x_n75.c 0 _ rfl
            have f_n75_0 := x_n75.f 0 _ rfl
            have c_n75_1 := x_n75.c 1 _ rfl
            have f_n75_1 := x_n75.f 1 _ rfl
            have c_n75_2 := x_n75.c 2 _ rfl
            have f_n75_2 := x_n75.f 2 _ rfl
            have c_n75_3 := x_n75.c 3 _ rfl
            have f_n75_3 := x_n75.f 3 _ rfl
            have c_n75_4 := x_n75.c 4 _ rfl
            have f_n75_4 := x_n75.f 4 _ rfl
            have c_n75_5 := x_n75.c 5 _ rfl
            have f_n75_5 := x_n75.f 5 _ rfl
            have x_s75 : Box w75 (w62.heap.size) [.int .i64 1000000000, .int .i64 1, .int .i64 1000000000, .int .i64 0, .int .i64 0, .int .u64 0] := (by refine Box.below ?_ hb; repeat (first | (with_reducible assumption) | (with_reducible refine Box.drew ?_) | (with_reducible refine Box.drewN ?_ _) | ((with_reducible refine Box.new ?_); simp; done) | (with_reducible apply Box.set2) | ((with_reducible apply Box.put); (with_reducible assumption); rfl) | (with_reducible refine Box.alloc ?_ _) | (with_reducible refine Box.other ?_ (by first | (dsimp only; omega) | omega) _)))
            have z_s75 := x_s75.lt
            have c_s75_0 := x_s75.c 0 _ rfl
            have f_s75_0 := x_s75.f 0 _ rfl
            have c_s75_1 := x_s75.c 1 _ rfl
            have f_s75_1 := x_s75.f 1 _ rfl
            have c_s75_2 := x_s75.c 2 _ rfl
            have f_s75_2 := x_s75.f 2 _ rfl
            have c_s75_3 := x_s75.c 3 _ rfl
            have f_s75_3 := x_s75.f 3 _ rfl
            have c_s75_4 := x_s75.c 4 _ rfl
            have f_s75_4 := x_s75.f 4 _ rfl
            have c_s75_5 := x_s75.c 5 _ rfl
            have f_s75_5 := x_s75.f 5 _ rfl
            have x_u75 : Box w75 (w63.heap.size) [.int .i64 1000000000, .int .i64 1000000000, .int .i64 1, .int .i64 0, .int .i64 0, .int .u64 0] := (by refine Box.below ?_ hb; repeat (first | (with_reducible assumption) | (with_reducible refine Box.drew ?_) | (with_reducible refine Box.drewN ?_ _) | ((with_reducible refine Box.new ?_); simp; done) | (with_reducible apply Box.set2) | ((with_reducible apply Box.put); (with_reducible assumption); rfl) | (with_reducible refine Box.alloc ?_ _) | (with_reducible refine Box.other ?_ (by first | (dsimp only; omega) | omega) _)))
            have z_u75 := x_u75.lt
            have c_u75_0 := x_u75.c 0 _ rfl
            have f_u75_0 := x_u75.f 0 _ rfl
            have c_u75_1 := x_u75.c 1 _ rfl
            have f_u75_1 := x_u75.f 1 _ rfl
            have c_u75_2 := x_u75.c 2 _ rfl
            have f_u75_2 := x_u75.f 2 _ rfl
            have c_u75_3 := x_u75.c 3 _ rfl
            have f_u75_3 := x_u75.f 3 _ rfl
            have c_u75_4 := x_u75.c 4 _ rfl
            have f_u75_4 := x_u75.f 4 _ rfl
            have c_u75_5 := x_u75.c 5 _ rfl
            have f_u75_5 := x_u75.f 5 _ rfl
            have x_d75 : Box w75 (w64.heap.size) [.int .i64 3, .int .i64 1, .int .i64 2, .int .i64 0, .int .i64 0, .int .u64 18446744073709551612] := (by refine Box.below ?_ hb; repeat (first | (with_reducible assumption) | (with_reducible refine Box.drew ?_) | (with_reducible refine Box.drewN ?_ _) | ((with_reducible refine Box.new ?_); simp; done) | (with_reducible apply Box.set2) | ((with_reducible apply Box.put); (with_reducible assumption); rfl) | (with_reducible refine Box.alloc ?_ _) | (with_reducible refine Box.other ?_ (by first | (dsimp only; omega) | omega) _)))
            have z_d75 := x_d75.lt
            have c_d75_0 := x_d75.c 0 _ rfl
            have f_d75_0 := x_d75.f 0 _ rfl
            have c_d75_1 := x_d75.c 1 _ rfl
            have f_d75_1 := x_d75.f 1 _ rfl
            have c_d75_2 := x_d75.c 2 _ rfl
            have f_d75_2 := x_d75.f 2 _ rfl
            have c_d75_3 := x_d75.c 3 _ rfl
            have f_d75_3 := x_d75.f 3 _ rfl
            have c_d75_4 := x_d75.c 4 _ rfl
            have f_d75_4 := x_d75.f 4 _ rfl
            have c_d75_5 := x_d75.c 5 _ rfl
            have f_d75_5 := x_d75.f 5 _ rfl
            have x_back75 : Box w75 (w66.heap.size) [.int .i64 5, .int .i64 2, .int .i64 3, .int .i64 0, .int .i64 0, .int .u64 7] := (by refine Box.below ?_ hb; repeat (first | (with_reducible assumption) | (with_reducible refine Box.drew ?_) | (with_reducible refine Box.drewN ?_ _) | ((with_reducible refine Box.new ?_); simp; done) | (with_reducible apply Box.set2) | ((with_reducible apply Box.put); (with_reducible assumption); rfl) | (with_reducible refine Box.alloc ?_ _) | (with_reducible refine Box.other ?_ (by first | (dsimp only; omega) | omega) _)))
            have z_back75 := x_back75.lt
            have c_back75_0 := x_back75.c 0 _ rfl
            have f_back75_0 := x_back75.f 0 _ rfl
            have c_back75_1 := x_back75.c 1 _ rfl
            have f_back75_1 := x_back75.f 1 _ rfl
            have c_back75_2 := x_back75.c 2 _ rfl
            have f_back75_2 := x_back75.f 2 _ rfl
            have c_back75_3 := x_back75.c 3 _ rfl
            have f_back75_3 := x_back75.f 3 _ rfl
            have c_back75_4 := x_back75.c 4 _ rfl
            have f_back75_4 := x_back75.f 4 _ rfl
            have c_back75_5 := x_back75.c 5 _ rfl
            have f_back75_5 := x_back75.f 5 _ rfl
            have c_l075 := cell_below hB75 l0
            have c_l175 := cell_below hB75 l1
            have c_l275 := cell_below hB75 l2
            have t75 := hb.size
            try simp at t75
            clear hb hB74 hs74 c_l074 c_l174 c_l274 x_same74 z_same74 c_same74_0 c_same74_1 c_same74_2 c_same74_3 c_same74_4 c_same74_5 f_same74_0 f_same74_1 f_same74_2 f_same74_3 f_same74_4 f_same74_5 x_n74 z_n74 c_n74_0 c_n74_1 c_n74_2 c_n74_3 c_n74_4 c_n74_5 f_n74_0 f_n74_1 f_n74_2 f_n74_3 f_n74_4 f_n74_5 x_s74 z_s74 c_s74_0 c_s74_1 c_s74_2 c_s74_3 c_s74_4 c_s74_5 f_s74_0 f_s74_1 f_s74_2 f_s74_3 f_s74_4 f_s74_5 x_u74 z_u74 c_u74_0 c_u74_1 c_u74_2 c_u74_3 c_u74_4 c_u74_5 f_u74_0 f_u74_1 f_u74_2 f_u74_3 f_u74_4 f_u74_5 x_d74 z_d74 c_d74_0 c_d74_1 c_d74_2 c_d74_3 c_d74_4 c_d74_5 f_d74_0 f_d74_1 f_d74_2 f_d74_3 f_d74_4 f_d74_5 x_back74 z_back74 c_back74_0 c_back74_1 c_back74_2 c_back74_3 c_back74_4 c_back74_5 f_back74_0 f_back74_1 f_back74_2 f_back74_3 f_back74_4 f_back74_5
            go_wp2_with fail
            refine (waits_yes B_s.out (by omega) n2 _).mono ?_
            rintro e w76 ⟨rfl, hb⟩
            have hB76 : Below W2.heap.size W2 w76 := below_thru (by go_grown) hb
            have hs76 : W2.heap.size ≤ w76.heap.size := hB76.size
            have x_same76 : Box w76 (w60.heap.size) [.int .i64 10, .int .i64 3, .int .i64 2, .int .i64 1, .int .i64 0, .int .u64 0] := (by refine Box.below ?_ hb; repeat (first | (with_reducible assumption) | (with_reducible refine Box.drew ?_) | (with_reducible refine Box.drewN ?_ _) | ((with_reducible refine Box.new ?_); simp; done) | (with_reducible apply Box.set2) | ((with_reducible apply Box.put); (with_reducible assumption); rfl) | (with_reducible refine Box.alloc ?_ _) | (with_reducible refine Box.other ?_ (by first | (dsimp only; omega) | omega) _)))
            have z_same76 := x_same76.lt
            have c_same76_0 := x_same76.c 0 _ rfl
            have f_same76_0 := x_same76.f 0 _ rfl
            have c_same76_1 := x_same76.c 1 _ rfl
            have f_same76_1 := x_same76.f 1 _ rfl
            have c_same76_2 := x_same76.c 2 _ rfl
            have f_same76_2 := x_same76.f 2 _ rfl
            have c_same76_3 := x_same76.c 3 _ rfl
            have f_same76_3 := x_same76.f 3 _ rfl
            have c_same76_4 := x_same76.c 4 _ rfl
            have f_same76_4 := x_same76.f 4 _ rfl
            have c_same76_5 := x_same76.c 5 _ rfl
            have f_same76_5 := x_same76.f 5 _ rfl
            have x_n76 : Box w76 (w61.heap.size) [.int .i64 1000000000, .int .i64 0, .int .i64 1000000000, .int .i64 0, .int .i64 0, .int .u64 0] := (by refine Box.below ?_ hb; repeat (first | (with_reducible assumption) | (with_reducible refine Box.drew ?_) | (with_reducible refine Box.drewN ?_ _) | ((with_reducible refine Box.new ?_); simp; done) | (with_reducible apply Box.set2) | ((with_reducible apply Box.put); (with_reducible assumption); rfl) | (with_reducible refine Box.alloc ?_ _) | (with_reducible refine Box.other ?_ (by first | (dsimp only; omega) | omega) _)))
            have z_n76 := x_n76.lt
            have c_n76_0 := x_n76.c 0 _ rfl
            have f_n76_0 := x_n76.f 0 _ rfl
            have c_n76_1 := x_n76.c 1 _ rfl
            have f_n76_1 := x_n76.f 1 _ rfl
            have c_n76_2 := x_n76.c 2 _ rfl
            have f_n76_2 := x_n76.f 2 _ rfl
            have c_n76_3 := x_n76.c 3 _ rfl
            have f_n76_3 := x_n76.f 3 _ rfl
            have c_n76_4 := x_n76.c 4 _ rfl
            have f_n76_4 := x_n76.f 4 _ rfl
            have c_n76_5 := x_n76.c 5 _ rfl
            have f_n76_5 := x_n76.f 5 _ rfl
            have x_s76 : Box w76 (w62.heap.size) [.int .i64 1000000000, .int .i64 1, .int .i64 1000000000, .int .i64 0, .int .i64 0, .int .u64 0] := (by refine Box.below ?_ hb; repeat (first | (with_reducible assumption) | (with_reducible refine Box.drew ?_) | (with_reducible refine Box.drewN ?_ _) | ((with_reducible refine Box.new ?_); simp; done) | (with_reducible apply Box.set2) | ((with_reducible apply Box.put); (with_reducible assumption); rfl) | (with_reducible refine Box.alloc ?_ _) | (with_reducible refine Box.other ?_ (by first | (dsimp only; omega) | omega) _)))
            have z_s76 := x_s76.lt
            have c_s76_0 := x_s76.c 0 _ rfl
            have f_s76_0 := x_s76.f 0 _ rfl
            have c_s76_1 := x_s76.c 1 _ rfl
            have f_s76_1 := x_s76.f 1 _ rfl
            have c_s76_2 := x_s76.c 2 _ rfl
            have f_s76_2 := x_s76.f 2 _ rfl
            have c_s76_3 := x_s76.c 3 _ rfl
            have f_s76_3 := x_s76.f 3 _ rfl
            have c_s76_4 := x_s76.c 4 _ rfl
            have f_s76_4 := x_s76.f 4 _ rfl
            have c_s76_5 := x_s76.c 5 _ rfl
            have f_s76_5 := x_s76.f 5 _ rfl
            have x_u76 : Box w76 (w63.heap.size) [.int .i64 1000000000, .int .i64 1000000000, .int .i64 1, .int .i64 0, .int .i64 0, .int .u64 0] := (by refine Box.below ?_ hb; repeat (first | (with_reducible assumption) | (with_reducible refine Box.drew ?_) | (with_reducible refine Box.drewN ?_ _) | ((with_reducible refine Box.new ?_); simp; done) | (with_reducible apply Box.set2) | ((with_reducible apply Box.put); (with_reducible assumption); rfl) | (with_reducible refine Box.alloc ?_ _) | (with_reducible refine Box.other ?_ (by first | (dsimp only; omega) | omega) _)))
            have z_u76 := x_u76.lt
            have c_u76_0 := x_u76.c 0 _ rfl
            have f_u76_0 := x_u76.f 0 _ rfl
            have c_u76_1 := x_u76.c 1 _ rfl
            have f_u76_1 := x_u76.f 1 _ rfl
            have c_u76_2 := x_u76.c 2 _ rfl
            have f_u76_2 := x_u76.f 2 _ rfl
            have c_u76_3 := x_u76.c 3 _ rfl
            have f_u76_3 := x_u76.f 3 _ rfl
            have c_u76_4 := x_u76.c 4 _ rfl
            have f_u76_4 := x_u76.f 4 _ rfl
            have c_u76_5 := x_u76.c 5 _ rfl
            have f_u76_5 := x_u76.f 5 _ rfl
            have x_d76 : Box w76 (w64.heap.size) [.int .i64 3, .int .i64 1, .int .i64 2, .int .i64 0, .int .i64 0, .int .u64 18446744073709551612] := (by refine Box.below ?_ hb; repeat (first | (with_reducible assumption) | (with_reducible refine Box.drew ?_) | (with_reducible refine Box.drewN ?_ _) | ((with_reducible refine Box.new ?_); simp; done) | (with_reducible apply Box.set2) | ((with_reducible apply Box.put); (with_reducible assumption); rfl) | (with_reducible refine Box.alloc ?_ _) | (with_reducible refine Box.other ?_ (by first | (dsimp only; omega) | omega) _)))
            have z_d76 := x_d76.lt
            have c_d76_0 := x_d76.c 0 _ rfl
            have f_d76_0 := x_d76.f 0 _ rfl
            have c_d76_1 := x_d76.c 1 _ rfl
            have f_d76_1 := x_d76.f 1 _ rfl
            have c_d76_2 := x_d76.c 2 _ rfl
            have f_d76_2 := x_d76.f 2 _ rfl
            have c_d76_3 := x_d76.c 3 _ rfl
            have f_d76_3 := x_d76.f 3 _ rfl
            have c_d76_4 := x_d76.c 4 _ rfl
            have f_d76_4 := x_d76.f 4 _ rfl
            have c_d76_5 := x_d76.c 5 _ rfl
            have f_d76_5 := x_d76.f 5 _ rfl
            have x_back76 : Box w76 (w66.heap.size) [.int .i64 5, .int .i64 2, .int .i64 3, .int .i64 0, .int .i64 0, .int .u64 7] := (by refine Box.below ?_ hb; repeat (first | (with_reducible assumption) | (with_reducible refine Box.drew ?_) | (with_reducible refine Box.drewN ?_ _) | ((with_reducible refine Box.new ?_); simp; done) | (with_reducible apply Box.set2) | ((with_reducible apply Box.put); (with_reducible assumption); rfl) | (with_reducible refine Box.alloc ?_ _) | (with_reducible refine Box.other ?_ (by first | (dsimp only; omega) | omega) _)))
            have z_back76 := x_back76.lt
            have c_back76_0 := x_back76.c 0 _ rfl
            have f_back76_0 := x_back76.f 0 _ rfl
            have c_back76_1 := x_back76.c 1 _ rfl
            have f_back76_1 := x_back76.f 1 _ rfl
            have c_back76_2 := x_back76.c 2 _ rfl
            have f_back76_2 := x_back76.f 2 _ rfl
            have c_back76_3 := x_back76.c 3 _ rfl
            have f_back76_3 := x_back76.f 3 _ rfl
            have c_back76_4 := x_back76.c 4 _ rfl
            have f_back76_4 := x_back76.f 4 _ rfl
            have c_back76_5 := x_back76.c 5 _ rfl
            have f_back76_5 := x_back76.f 5 _ rfl
            have c_l076 := cell_below hB76 l0
            have c_l176 := cell_below hB76 l1
            have c_l276 := cell_below hB76 l2
            have t76 := hb.size
            try simp at t76
            clear hb hB75 hs75 c_l075 c_l175 c_l275 x_same75 z_same75 c_same75_0 c_same75_1 c_same75_2 c_same75_3 c_same75_4 c_same75_5 f_same75_0 f_same75_1 f_same75_2 f_same75_3 f_same75_4 f_same75_5 x_n75 z_n75 c_n75_0 c_n75_1 c_n75_2 c_n75_3 c_n75_4 c_n75_5 f_n75_0 f_n75_1 f_n75_2 f_n75_3 f_n75_4 f_n75_5 x_s75 z_s75 c_s75_0 c_s75_1 c_s75_2 c_s75_3 c_s75_4 c_s75_5 f_s75_0 f_s75_1 f_s75_2 f_s75_3 f_s75_4 f_s75_5 x_u75 z_u75 c_u75_0 c_u75_1 c_u75_2 c_u75_3 c_u75_4 c_u75_5 f_u75_0 f_u75_1 f_u75_2 f_u75_3 f_u75_4 f_u75_5 x_d75 z_d75 c_d75_0 c_d75_1 c_d75_2 c_d75_3 c_d75_4 c_d75_5 f_d75_0 f_d75_1 f_d75_2 f_d75_3 f_d75_4 f_d75_5 x_back75 z_back75 c_back75_0 c_back75_1 c_back75_2 c_back75_3 c_back75_4 c_back75_5 f_back75_0 f_back75_1 f_back75_2 f_back75_3 f_back75_4 f_back75_5
            go_wp2_with fail
            refine (waits_yes B_u.out (by omega) n3 _).mono ?_
            rintro e w77 ⟨rfl, hb⟩
            have hB77 : Below W2.heap.size W2 w77 := below_thru (by go_grown) hb
            have hs77 : W2.heap.size ≤ w77.heap.size := hB77.size
            have x_same77 : Box w77 (w60.heap.size) [.int .i64 10, .int .i64 3, .int .i64 2, .int .i64 1, .int .i64 0, .int .u64 0] := (by refine Box.below ?_ hb; repeat (first | (with_reducible assumption) | (with_reducible refine Box.drew ?_) | (with_reducible refine Box.drewN ?_ _) | ((with_reducible refine Box.new ?_); simp; done) | (with_reducible apply Box.set2) | ((with_reducible apply Box.put); (with_reducible assumption); rfl) | (with_reducible refine Box.alloc ?_ _) | (with_reducible refine Box.other ?_ (by first | (dsimp only; omega) | omega) _)))
            have z_same77 := x_same77.lt
            have c_same77_0 := x_same77.c 0 _ rfl
            have f_same77_0 := x_same77.f 0 _ rfl
            have c_same77_1 := x_same77.c 1 _ rfl
            have f_same77_1 := x_same77.f 1 _ rfl
            have c_same77_2 := x_same77.c 2 _ rfl
            have f_same77_2 := x_same77.f 2 _ rfl
            have c_same77_3 := x_same77.c 3 _ rfl
            have f_same77_3 := x_same77.f 3 _ rfl
            have c_same77_4 := x_same77.c 4 _ rfl
            have f_same77_4 := x_same77.f 4 _ rfl
            have c_same77_5 := x_same77.c 5 _ rfl
            have f_same77_5 := x_same77.f 5 _ rfl
            have x_n77 : Box w77 (w61.heap.size) [.int .i64 1000000000, .int .i64 0, .int .i64 1000000000, .int .i64 0, .int .i64 0, .int .u64 0] := (by refine Box.below ?_ hb; repeat (first | (with_reducible assumption) | (with_reducible refine Box.drew ?_) | (with_reducible refine Box.drewN ?_ _) | ((with_reducible refine Box.new ?_); simp; done) | (with_reducible apply Box.set2) | ((with_reducible apply Box.put); (with_reducible assumption); rfl) | (with_reducible refine Box.alloc ?_ _) | (with_reducible refine Box.other ?_ (by first | (dsimp only; omega) | omega) _)))
            have z_n77 := x_n77.lt
            have c_n77_0 := x_n77.c 0 _ rfl
            have f_n77_0 := x_n77.f 0 _ rfl
            have c_n77_1 := x_n77.c 1 _ rfl
            have f_n77_1 := x_n77.f 1 _ rfl
            have c_n77_2 := x_n77.c 2 _ rfl
            have f_n77_2 := x_n77.f 2 _ rfl
            have c_n77_3 := x_n77.c 3 _ rfl
            have f_n77_3 := x_n77.f 3 _ rfl
            have c_n77_4 := x_n77.c 4 _ rfl
            have f_n77_4 := x_n77.f 4 _ rfl
            have c_n77_5 := x_n77.c 5 _ rfl
            have f_n77_5 := x_n77.f 5 _ rfl
            have x_s77 : Box w77 (w62.heap.size) [.int .i64 1000000000, .int .i64 1, .int .i64 1000000000, .int .i64 0, .int .i64 0, .int .u64 0] := (by refine Box.below ?_ hb; repeat (first | (with_reducible assumption) | (with_reducible refine Box.drew ?_) | (with_reducible refine Box.drewN ?_ _) | ((with_reducible refine Box.new ?_); simp; done) | (with_reducible apply Box.set2) | ((with_reducible apply Box.put); (with_reducible assumption); rfl) | (with_reducible refine Box.alloc ?_ _) | (with_reducible refine Box.other ?_ (by first | (dsimp only; omega) | omega) _)))
            have z_s77 := x_s77.lt
            have c_s77_0 := x_s77.c 0 _ rfl
            have f_s77_0 := x_s77.f 0 _ rfl
            have c_s77_1 := x_s77.c 1 _ rfl
            have f_s77_1 := x_s77.f 1 _ rfl
            have c_s77_2 := x_s77.c 2 _ rfl
            have f_s77_2 := x_s77.f 2 _ rfl
            have c_s77_3 := x_s77.c 3 _ rfl
            have f_s77_3 := x_s77.f 3 _ rfl
            have c_s77_4 := x_s77.c 4 _ rfl
            have f_s77_4 := x_s77.f 4 _ rfl
            have c_s77_5 := x_s77.c 5 _ rfl
            have f_s77_5 := x_s77.f 5 _ rfl
            have x_u77 : Box w77 (w63.heap.size) [.int .i64 1000000000, .int .i64 1000000000, .int .i64 1, .int .i64 0, .int .i64 0, .int .u64 0] := (by refine Box.below ?_ hb; repeat (first | (with_reducible assumption) | (with_reducible refine Box.drew ?_) | (with_reducible refine Box.drewN ?_ _) | ((with_reducible refine Box.new ?_); simp; done) | (with_reducible apply Box.set2) | ((with_reducible apply Box.put); (with_reducible assumption); rfl) | (with_reducible refine Box.alloc ?_ _) | (with_reducible refine Box.other ?_ (by first | (dsimp only; omega) | omega) _)))
            have z_u77 := x_u77.lt
            have c_u77_0 := x_u77.c 0 _ rfl
            have f_u77_0 := x_u77.f 0 _ rfl
            have c_u77_1 := x_u77.c 1 _ rfl
            have f_u77_1 := x_u77.f 1 _ rfl
            have c_u77_2 := x_u77.c 2 _ rfl
            have f_u77_2 := x_u77.f 2 _ rfl
            have c_u77_3 := x_u77.c 3 _ rfl
            have f_u77_3 := x_u77.f 3 _ rfl
            have c_u77_4 := x_u77.c 4 _ rfl
            have f_u77_4 := x_u77.f 4 _ rfl
            have c_u77_5 := x_u77.c 5 _ rfl
            have f_u77_5 := x_u77.f 5 _ rfl
            have x_d77 : Box w77 (w64.heap.size) [.int .i64 3, .int .i64 1, .int .i64 2, .int .i64 0, .int .i64 0, .int .u64 18446744073709551612] := (by refine Box.below ?_ hb; repeat (first | (with_reducible assumption) | (with_reducible refine Box.drew ?_) | (with_reducible refine Box.drewN ?_ _) | ((with_reducible refine Box.new ?_); simp; done) | (with_reducible apply Box.set2) | ((with_reducible apply Box.put); (with_reducible assumption); rfl) | (with_reducible refine Box.alloc ?_ _) | (with_reducible refine Box.other ?_ (by first | (dsimp only; omega) | omega) _)))
            have z_d77 := x_d77.lt
            have c_d77_0 := x_d77.c 0 _ rfl
            have f_d77_0 := x_d77.f 0 _ rfl
            have c_d77_1 := x_d77.c 1 _ rfl
            have f_d77_1 := x_d77.f 1 _ rfl
            have c_d77_2 := x_d77.c 2 _ rfl
            have f_d77_2 := x_d77.f 2 _ rfl
            have c_d77_3 := x_d77.c 3 _ rfl
            have f_d77_3 := x_d77.f 3 _ rfl
            have c_d77_4 := x_d77.c 4 _ rfl
            have f_d77_4 := x_d77.f 4 _ rfl
            have c_d77_5 := x_d77.c 5 _ rfl
            have f_d77_5 := x_d77.f 5 _ rfl
            have x_back77 : Box w77 (w66.heap.size) [.int .i64 5, .int .i64 2, .int .i64 3, .int .i64 0, .int .i64 0, .int .u64 7] := (by refine Box.below ?_ hb; repeat (first | (with_reducible assumption) | (with_reducible refine Box.drew ?_) | (with_reducible refine Box.drewN ?_ _) | ((with_reducible refine Box.new ?_); simp; done) | (with_reducible apply Box.set2) | ((with_reducible apply Box.put); (with_reducible assumption); rfl) | (with_reducible refine Box.alloc ?_ _) | (with_reducible refine Box.other ?_ (by first | (dsimp only; omega) | omega) _)))
            have z_back77 := x_back77.lt
            have c_back77_0 := x_back77.c 0 _ rfl
            have f_back77_0 := x_back77.f 0 _ rfl
            have c_back77_1 := x_back77.c 1 _ rfl
            have f_back77_1 := x_back77.f 1 _ rfl
            have c_back77_2 := x_back77.c 2 _ rfl
            have f_back77_2 := x_back77.f 2 _ rfl
            have c_back77_3 := x_back77.c 3 _ rfl
            have f_back77_3 := x_back77.f 3 _ rfl
            have c_back77_4 := x_back77.c 4 _ rfl
            have f_back77_4 := x_back77.f 4 _ rfl
            have c_back77_5 := x_back77.c 5 _ rfl
            have f_back77_5 := x_back77.f 5 _ rfl
            have c_l077 := cell_below hB77 l0
            have c_l177 := cell_below hB77 l1
            have c_l277 := cell_below hB77 l2
            have t77 := hb.size
            try simp at t77
            clear hb hB76 hs76 c_l076 c_l176 c_l276 x_same76 z_same76 c_same76_0 c_same76_1 c_same76_2 c_same76_3 c_same76_4 c_same76_5 f_same76_0 f_same76_1 f_same76_2 f_same76_3 f_same76_4 f_same76_5 x_n76 z_n76 c_n76_0 c_n76_1 c_n76_2 c_n76_3 c_n76_4 c_n76_5 f_n76_0 f_n76_1 f_n76_2 f_n76_3 f_n76_4 f_n76_5 x_s76 z_s76 c_s76_0 c_s76_1 c_s76_2 c_s76_3 c_s76_4 c_s76_5 f_s76_0 f_s76_1 f_s76_2 f_s76_3 f_s76_4 f_s76_5 x_u76 z_u76 c_u76_0 c_u76_1 c_u76_2 c_u76_3 c_u76_4 c_u76_5 f_u76_0 f_u76_1 f_u76_2 f_u76_3 f_u76_4 f_u76_5 x_d76 z_d76 c_d76_0 c_d76_1 c_d76_2 c_d76_3 c_d76_4 c_d76_5 f_d76_0 f_d76_1 f_d76_2 f_d76_3 f_d76_4 f_d76_5 x_back76 z_back76 c_back76_0 c_back76_1 c_back76_2 c_back76_3 c_back76_4 c_back76_5 f_back76_0 f_back76_1 f_back76_2 f_back76_3 f_back76_4 f_back76_5
            go_wp2_with fail
            refine (waits_yes B_d.out (by omega) n4 _).mono ?_
            rintro e w78 ⟨rfl, hb⟩
            have hB78 : Below W2.heap.size W2 w78 := below_thru (by go_grown) hb
            have hs78 : W2.heap.size ≤ w78.heap.size := hB78.size
            have x_same78 : Box w78 (w60.heap.size) [.int .i64 10, .int .i64 3, .int .i64 2, .int .i64 1, .int .i64 0, .int .u64 0] := (by refine Box.below ?_ hb; repeat (first | (with_reducible assumption) | (with_reducible refine Box.drew ?_) | (with_reducible refine Box.drewN ?_ _) | ((with_reducible refine Box.new ?_); simp; done) | (with_reducible apply Box.set2) | ((with_reducible apply Box.put); (with_reducible assumption); rfl) | (with_reducible refine Box.alloc ?_ _) | (with_reducible refine Box.other ?_ (by first | (dsimp only; omega) | omega) _)))
            have z_same78 := x_same78.lt
            have c_same78_0 := x_same78.c 0 _ rfl
            have f_same78_0 := x_same78.f 0 _ rfl
            have c_same78_1 := x_same78.c 1 _ rfl
            have f_same78_1 := x_same78.f 1 _ rfl
            have c_same78_2 := x_same78.c 2 _ rfl
            have f_same78_2 := x_same78.f 2 _ rfl
            have c_same78_3 := x_same78.c 3 _ rfl
            have f_same78_3 := x_same78.f 3 _ rfl
            have c_same78_4 := x_same78.c 4 _ rfl
            have f_same78_4 := x_same78.f 4 _ rfl
            have c_same78_5 := x_same78.c 5 _ rfl
            have f_same78_5 := x_same78.f 5 _ rfl
            have x_n78 : Box w78 (w61.heap.size) [.int .i64 1000000000, .int .i64 0, .int .i64 1000000000, .int .i64 0, .int .i64 0, .int .u64 0] := (by refine Box.below ?_ hb; repeat (first | (with_reducible assumption) | (with_reducible refine Box.drew ?_) | (with_reducible refine Box.drewN ?_ _) | ((with_reducible refine Box.new ?_); simp; done) | (with_reducible apply Box.set2) | ((with_reducible apply Box.put); (with_reducible assumption); rfl) | (with_reducible refine Box.alloc ?_ _) | (with_reducible refine Box.other ?_ (by first | (dsimp only; omega) | omega) _)))
            have z_n78 := x_n78.lt
            have c_n78_0 := x_n78.c 0 _ rfl
            have f_n78_0 := x_n78.f 0 _ rfl
            have c_n78_1 := x_n78.c 1 _ rfl
            have f_n78_1 := x_n78.f 1 _ rfl
            have c_n78_2 := x_n78.c 2 _ rfl
            have f_n78_2 := x_n78.f 2 _ rfl
            have c_n78_3 := x_n78.c 3 _ rfl
            have f_n78_3 := x_n78.f 3 _ rfl
            have c_n78_4 := x_n78.c 4 _ rfl
            have f_n78_4 := x_n78.f 4 _ rfl
            have c_n78_5 := x_n78.c 5 _ rfl
            have f_n78_5 := x_n78.f 5 _ rfl
            have x_s78 : Box w78 (w62.heap.size) [.int .i64 1000000000, .int .i64 1, .int .i64 1000000000, .int .i64 0, .int .i64 0, .int .u64 0] := (by refine Box.below ?_ hb; repeat (first | (with_reducible assumption) | (with_reducible refine Box.drew ?_) | (with_reducible refine Box.drewN ?_ _) | ((with_reducible refine Box.new ?_); simp; done) | (with_reducible apply Box.set2) | ((with_reducible apply Box.put); (with_reducible assumption); rfl) | (with_reducible refine Box.alloc ?_ _) | (with_reducible refine Box.other ?_ (by first | (dsimp only; omega) | omega) _)))
            have z_s78 := x_s78.lt
            have c_s78_0 := x_s78.c 0 _ rfl
            have f_s78_0 := x_s78.f 0 _ rfl
            have c_s78_1 := x_s78.c 1 _ rfl
            have f_s78_1 := x_s78.f 1 _ rfl
            have c_s78_2 := x_s78.c 2 _ rfl
            have f_s78_2 := x_s78.f 2 _ rfl
            have c_s78_3 := x_s78.c 3 _ rfl
            have f_s78_3 := x_s78.f 3 _ rfl
            have c_s78_4 := x_s78.c 4 _ rfl
            have f_s78_4 := x_s78.f 4 _ rfl
            have c_s78_5 := x_s78.c 5 _ rfl
            have f_s78_5 := x_s78.f 5 _ rfl
            have x_u78 : Box w78 (w63.heap.size) [.int .i64 1000000000, .int .i64 1000000000, .int .i64 1, .int .i64 0, .int .i64 0, .int .u64 0] := (by refine Box.below ?_ hb; repeat (first | (with_reducible assumption) | (with_reducible refine Box.drew ?_) | (with_reducible refine Box.drewN ?_ _) | ((with_reducible refine Box.new ?_); simp; done) | (with_reducible apply Box.set2) | ((with_reducible apply Box.put); (with_reducible assumption); rfl) | (with_reducible refine Box.alloc ?_ _) | (with_reducible refine Box.other ?_ (by first | (dsimp only; omega) | omega) _)))
            have z_u78 := x_u78.lt
            have c_u78_0 := x_u78.c 0 _ rfl
            have f_u78_0 := x_u78.f 0 _ rfl
            have c_u78_1 := x_u78.c 1 _ rfl
            have f_u78_1 := x_u78.f 1 _ rfl
            have c_u78_2 := x_u78.c 2 _ rfl
            have f_u78_2 := x_u78.f 2 _ rfl
            have c_u78_3 := x_u78.c 3 _ rfl
            have f_u78_3 := x_u78.f 3 _ rfl
            have c_u78_4 := x_u78.c 4 _ rfl
            have f_u78_4 := x_u78.f 4 _ rfl
            have c_u78_5 := x_u78.c 5 _ rfl
            have f_u78_5 := x_u78.f 5 _ rfl
            have x_d78 : Box w78 (w64.heap.size) [.int .i64 3, .int .i64 1, .int .i64 2, .int .i64 0, .int .i64 0, .int .u64 18446744073709551612] := (by refine Box.below ?_ hb; repeat (first | (with_reducible assumption) | (with_reducible refine Box.drew ?_) | (with_reducible refine Box.drewN ?_ _) | ((with_reducible refine Box.new ?_); simp; done) | (with_reducible apply Box.set2) | ((with_reducible apply Box.put); (with_reducible assumption); rfl) | (with_reducible refine Box.alloc ?_ _) | (with_reducible refine Box.other ?_ (by first | (dsimp only; omega) | omega) _)))
            have z_d78 := x_d78.lt
            have c_d78_0 := x_d78.c 0 _ rfl
            have f_d78_0 := x_d78.f 0 _ rfl
            have c_d78_1 := x_d78.c 1 _ rfl
            have f_d78_1 := x_d78.f 1 _ rfl
            have c_d78_2 := x_d78.c 2 _ rfl
            have f_d78_2 := x_d78.f 2 _ rfl
            have c_d78_3 := x_d78.c 3 _ rfl
            have f_d78_3 := x_d78.f 3 _ rfl
            have c_d78_4 := x_d78.c 4 _ rfl
            have f_d78_4 := x_d78.f 4 _ rfl
            have c_d78_5 := x_d78.c 5 _ rfl
            have f_d78_5 := x_d78.f 5 _ rfl
            have x_back78 : Box w78 (w66.heap.size) [.int .i64 5, .int .i64 2, .int .i64 3, .int .i64 0, .int .i64 0, .int .u64 7] := (by refine Box.below ?_ hb; repeat (first | (with_reducible assumption) | (with_reducible refine Box.drew ?_) | (with_reducible refine Box.drewN ?_ _) | ((with_reducible refine Box.new ?_); simp; done) | (with_reducible apply Box.set2) | ((with_reducible apply Box.put); (with_reducible assumption); rfl) | (with_reducible refine Box.alloc ?_ _) | (with_reducible refine Box.other ?_ (by first | (dsimp only; omega) | omega) _)))
            have z_back78 := x_back78.lt
            have c_back78_0 := x_back78.c 0 _ rfl
            have f_back78_0 := x_back78.f 0 _ rfl
            have c_back78_1 := x_back78.c 1 _ rfl
            have f_back78_1 := x_back78.f 1 _ rfl
            have c_back78_2 := x_back78.c 2 _ rfl
            have f_back78_2 := x_back78.f 2 _ rfl
            have c_back78_3 := x_back78.c 3 _ rfl
            have f_back78_3 := x_back78.f 3 _ rfl
            have c_back78_4 := x_back78.c 4 _ rfl
            have f_back78_4 := x_back78.f 4 _ rfl
            have c_back78_5 := x_back78.c 5 _ rfl
            have f_back78_5 := x_back78.f 5 _ rfl
            have c_l078 := cell_below hB78 l0
            have c_l178 := cell_below hB78 l1
            have c_l278 := cell_below hB78 l2
            have t78 := hb.size
            try simp at t78
            clear hb hB77 hs77 c_l077 c_l177 c_l277 x_same77 z_same77 c_same77_0 c_same77_1 c_same77_2 c_same77_3 c_same77_4 c_same77_5 f_same77_0 f_same77_1 f_same77_2 f_same77_3 f_same77_4 f_same77_5 x_n77 z_n77 c_n77_0 c_n77_1 c_n77_2 c_n77_3 c_n77_4 c_n77_5 f_n77_0 f_n77_1 f_n77_2 f_n77_3 f_n77_4 f_n77_5 x_s77 z_s77 c_s77_0 c_s77_1 c_s77_2 c_s77_3 c_s77_4 c_s77_5 f_s77_0 f_s77_1 f_s77_2 f_s77_3 f_s77_4 f_s77_5 x_u77 z_u77 c_u77_0 c_u77_1 c_u77_2 c_u77_3 c_u77_4 c_u77_5 f_u77_0 f_u77_1 f_u77_2 f_u77_3 f_u77_4 f_u77_5 x_d77 z_d77 c_d77_0 c_d77_1 c_d77_2 c_d77_3 c_d77_4 c_d77_5 f_d77_0 f_d77_1 f_d77_2 f_d77_3 f_d77_4 f_d77_5 x_back77 z_back77 c_back77_0 c_back77_1 c_back77_2 c_back77_3 c_back77_4 c_back77_5 f_back77_0 f_back77_1 f_back77_2 f_back77_3 f_back77_4 f_back77_5
            go_wp2_with fail
            refine (waits_yes B_d.out (by omega) n5 _).mono ?_
            rintro e w79 ⟨rfl, hb⟩
            have hB79 : Below W2.heap.size W2 w79 := below_thru (by go_grown) hb
            have hs79 : W2.heap.size ≤ w79.heap.size := hB79.size
            have x_same79 : Box w79 (w60.heap.size) [.int .i64 10, .int .i64 3, .int .i64 2, .int .i64 1, .int .i64 0, .int .u64 0] := (by refine Box.below ?_ hb; repeat (first | (with_reducible assumption) | (with_reducible refine Box.drew ?_) | (with_reducible refine Box.drewN ?_ _) | ((with_reducible refine Box.new ?_); simp; done) | (with_reducible apply Box.set2) | ((with_reducible apply Box.put); (with_reducible assumption); rfl) | (with_reducible refine Box.alloc ?_ _) | (with_reducible refine Box.other ?_ (by first | (dsimp only; omega) | omega) _)))
            have z_same79 := x_same79.lt
            have c_same79_0 := x_same79.c 0 _ rfl
            have f_same79_0 := x_same79.f 0 _ rfl
            have c_same79_1 := x_same79.c 1 _ rfl
            have f_same79_1 := x_same79.f 1 _ rfl
            have c_same79_2 := x_same79.c 2 _ rfl
            have f_same79_2 := x_same79.f 2 _ rfl
            have c_same79_3 := x_same79.c 3 _ rfl
            have f_same79_3 := x_same79.f 3 _ rfl
            have c_same79_4 := x_same79.c 4 _ rfl
            have f_same79_4 := x_same79.f 4 _ rfl
            have c_same79_5 := x_same79.c 5 _ rfl
            have f_same79_5 := x_same79.f 5 _ rfl
            have x_n79 : Box w79 (w61.heap.size) [.int .i64 1000000000, .int .i64 0, .int .i64 1000000000, .int .i64 0, .int .i64 0, .int .u64 0] := (by refine Box.below ?_ hb; repeat (first | (with_reducible assumption) | (with_reducible refine Box.drew ?_) | (with_reducible refine Box.drewN ?_ _) | ((with_reducible refine Box.new ?_); simp; done) | (with_reducible apply Box.set2) | ((with_reducible apply Box.put); (with_reducible assumption); rfl) | (with_reducible refine Box.alloc ?_ _) | (with_reducible refine Box.other ?_ (by first | (dsimp only; omega) | omega) _)))
            have z_n79 := x_n79.lt
            have c_n79_0 := x_n79.c 0 _ rfl
            have f_n79_0 := x_n79.f 0 _ rfl
            have c_n79_1 := x_n79.c 1 _ rfl
            have f_n79_1 := x_n79.f 1 _ rfl
            have c_n79_2 := x_n79.c 2 _ rfl
            have f_n79_2 := x_n79.f 2 _ rfl
            have c_n79_3 := x_n79.c 3 _ rfl
            have f_n79_3 := x_n79.f 3 _ rfl
            have c_n79_4 := x_n79.c 4 _ rfl
            have f_n79_4 := x_n79.f 4 _ rfl
            have c_n79_5 := x_n79.c 5 _ rfl
            have f_n79_5 := x_n79.f 5 _ rfl
            have x_s79 : Box w79 (w62.heap.size) [.int .i64 1000000000, .int .i64 1, .int .i64 1000000000, .int .i64 0, .int .i64 0, .int .u64 0] := (by refine Box.below ?_ hb; repeat (first | (with_reducible assumption) | (with_reducible refine Box.drew ?_) | (with_reducible refine Box.drewN ?_ _) | ((with_reducible refine Box.new ?_); simp; done) | (with_reducible apply Box.set2) | ((with_reducible apply Box.put); (with_reducible assumption); rfl) | (with_reducible refine Box.alloc ?_ _) | (with_reducible refine Box.other ?_ (by first | (dsimp only; omega) | omega) _)))
            have z_s79 := x_s79.lt
            have c_s79_0 := x_s79.c 0 _ rfl
            have f_s79_0 := x_s79.f 0 _ rfl
            have c_s79_1 := x_s79.c 1 _ rfl
            have f_s79_1 := x_s79.f 1 _ rfl
            have c_s79_2 := x_s79.c 2 _ rfl
            have f_s79_2 := x_s79.f 2 _ rfl
            have c_s79_3 := x_s79.c 3 _ rfl
            have f_s79_3 := x_s79.f 3 _ rfl
            have c_s79_4 := x_s79.c 4 _ rfl
            have f_s79_4 := x_s79.f 4 _ rfl
            have c_s79_5 := x_s79.c 5 _ rfl
            have f_s79_5 := x_s79.f 5 _ rfl
            have x_u79 : Box w79 (w63.heap.size) [.int .i64 1000000000, .int .i64 1000000000, .int .i64 1, .int .i64 0, .int .i64 0, .int .u64 0] := (by refine Box.below ?_ hb; repeat (first | (with_reducible assumption) | (with_reducible refine Box.drew ?_) | (with_reducible refine Box.drewN ?_ _) | ((with_reducible refine Box.new ?_); simp; done) | (with_reducible apply Box.set2) | ((with_reducible apply Box.put); (with_reducible assumption); rfl) | (with_reducible refine Box.alloc ?_ _) | (with_reducible refine Box.other ?_ (by first | (dsimp only; omega) | omega) _)))
            have z_u79 := x_u79.lt
            have c_u79_0 := x_u79.c 0 _ rfl
            have f_u79_0 := x_u79.f 0 _ rfl
            have c_u79_1 := x_u79.c 1 _ rfl
            have f_u79_1 := x_u79.f 1 _ rfl
            have c_u79_2 := x_u79.c 2 _ rfl
            have f_u79_2 := x_u79.f 2 _ rfl
            have c_u79_3 := x_u79.c 3 _ rfl
            have f_u79_3 := x_u79.f 3 _ rfl
            have c_u79_4 := x_u79.c 4 _ rfl
            have f_u79_4 := x_u79.f 4 _ rfl
            have c_u79_5 := x_u79.c 5 _ rfl
            have f_u79_5 := x_u79.f 5 _ rfl
            have x_d79 : Box w79 (w64.heap.size) [.int .i64 3, .int .i64 1, .int .i64 2, .int .i64 0, .int .i64 0, .int .u64 18446744073709551612] := (by refine Box.below ?_ hb; repeat (first | (with_reducible assumption) | (with_reducible refine Box.drew ?_) | (with_reducible refine Box.drewN ?_ _) | ((with_reducible refine Box.new ?_); simp; done) | (with_reducible apply Box.set2) | ((with_reducible apply Box.put); (with_reducible assumption); rfl) | (with_reducible refine Box.alloc ?_ _) | (with_reducible refine Box.other ?_ (by first | (dsimp only; omega) | omega) _)))
            have z_d79 := x_d79.lt
            have c_d79_0 := x_d79.c 0 _ rfl
            have f_d79_0 := x_d79.f 0 _ rfl
            have c_d79_1 := x_d79.c 1 _ rfl
            have f_d79_1 := x_d79.f 1 _ rfl
            have c_d79_2 := x_d79.c 2 _ rfl
            have f_d79_2 := x_d79.f 2 _ rfl
            have c_d79_3 := x_d79.c 3 _ rfl
            have f_d79_3 := x_d79.f 3 _ rfl
            have c_d79_4 := x_d79.c 4 _ rfl
            have f_d79_4 := x_d79.f 4 _ rfl
            have c_d79_5 := x_d79.c 5 _ rfl
            have f_d79_5 := x_d79.f 5 _ rfl
            have x_back79 : Box w79 (w66.heap.size) [.int .i64 5, .int .i64 2, .int .i64 3, .int .i64 0, .int .i64 0, .int .u64 7] := (by refine Box.below ?_ hb; repeat (first | (with_reducible assumption) | (with_reducible refine Box.drew ?_) | (with_reducible refine Box.drewN ?_ _) | ((with_reducible refine Box.new ?_); simp; done) | (with_reducible apply Box.set2) | ((with_reducible apply Box.put); (with_reducible assumption); rfl) | (with_reducible refine Box.alloc ?_ _) | (with_reducible refine Box.other ?_ (by first | (dsimp only; omega) | omega) _)))
            have z_back79 := x_back79.lt
            have c_back79_0 := x_back79.c 0 _ rfl
            have f_back79_0 := x_back79.f 0 _ rfl
            have c_back79_1 := x_back79.c 1 _ rfl
            have f_back79_1 := x_back79.f 1 _ rfl
            have c_back79_2 := x_back79.c 2 _ rfl
            have f_back79_2 := x_back79.f 2 _ rfl
            have c_back79_3 := x_back79.c 3 _ rfl
            have f_back79_3 := x_back79.f 3 _ rfl
            have c_back79_4 := x_back79.c 4 _ rfl
            have f_back79_4 := x_back79.f 4 _ rfl
            have c_back79_5 := x_back79.c 5 _ rfl
            have f_back79_5 := x_back79.f 5 _ rfl
            have c_l079 := cell_below hB79 l0
            have c_l179 := cell_below hB79 l1
            have c_l279 := cell_below hB79 l2
            have t79 := hb.size
            try simp at t79
            clear hb hB78 hs78 c_l078 c_l178 c_l278 x_same78 z_same78 c_same78_0 c_same78_1 c_same78_2 c_same78_3 c_same78_4 c_same78_5 f_same78_0 f_same78_1 f_same78_2 f_same78_3 f_same78_4 f_same78_5 x_n78 z_n78 c_n78_0 c_n78_1 c_n78_2 c_n78_3 c_n78_4 c_n78_5 f_n78_0 f_n78_1 f_n78_2 f_n78_3 f_n78_4 f_n78_5 x_s78 z_s78 c_s78_0 c_s78_1 c_s78_2 c_s78_3 c_s78_4 c_s78_5 f_s78_0 f_s78_1 f_s78_2 f_s78_3 f_s78_4 f_s78_5 x_u78 z_u78 c_u78_0 c_u78_1 c_u78_2 c_u78_3 c_u78_4 c_u78_5 f_u78_0 f_u78_1 f_u78_2 f_u78_3 f_u78_4 f_u78_5 x_d78 z_d78 c_d78_0 c_d78_1 c_d78_2 c_d78_3 c_d78_4 c_d78_5 f_d78_0 f_d78_1 f_d78_2 f_d78_3 f_d78_4 f_d78_5 x_back78 z_back78 c_back78_0 c_back78_1 c_back78_2 c_back78_3 c_back78_4 c_back78_5 f_back78_0 f_back78_1 f_back78_2 f_back78_3 f_back78_4 f_back78_5
            go_wp2_with fail
            refine (waits_yes B_d.out (by omega) n6 _).mono ?_
            rintro e w80 ⟨rfl, hb⟩
            have hB80 : Below W2.heap.size W2 w80 := below_thru (by go_grown) hb
            have hs80 : W2.heap.size ≤ w80.heap.size := hB80.size
            have x_same80 : Box w80 (w60.heap.size) [.int .i64 10, .int .i64 3, .int .i64 2, .int .i64 1, .int .i64 0, .int .u64 0] := (by refine Box.below ?_ hb; repeat (first | (with_reducible assumption) | (with_reducible refine Box.drew ?_) | (with_reducible refine Box.drewN ?_ _) | ((with_reducible refine Box.new ?_); simp; done) | (with_reducible apply Box.set2) | ((with_reducible apply Box.put); (with_reducible assumption); rfl) | (with_reducible refine Box.alloc ?_ _) | (with_reducible refine Box.other ?_ (by first | (dsimp only; omega) | omega) _)))
            have z_same80 := x_same80.lt
            have c_same80_0 := x_same80.c 0 _ rfl
            have f_same80_0 := x_same80.f 0 _ rfl
            have c_same80_1 := x_same80.c 1 _ rfl
            have f_same80_1 := x_same80.f 1 _ rfl
            have c_same80_2 := x_same80.c 2 _ rfl
            have f_same80_2 := x_same80.f 2 _ rfl
            have c_same80_3 := x_same80.c 3 _ rfl
            have f_same80_3 := x_same80.f 3 _ rfl
            have c_same80_4 := x_same80.c 4 _ rfl
            have f_same80_4 := x_same80.f 4 _ rfl
            have c_same80_5 := x_same80.c 5 _ rfl
            have f_same80_5 := x_same80.f 5 _ rfl
            have x_n80 : Box w80 (w61.heap.size) [.int .i64 1000000000, .int .i64 0, .int .i64 1000000000, .int .i64 0, .int .i64 0, .int .u64 0] := (by refine Box.below ?_ hb; repeat (first | (with_reducible assumption) | (with_reducible refine Box.drew ?_) | (with_reducible refine Box.drewN ?_ _) | ((with_reducible refine Box.new ?_); simp; done) | (with_reducible apply Box.set2) | ((with_reducible apply Box.put); (with_reducible assumption); rfl) | (with_reducible refine Box.alloc ?_ _) | (with_reducible refine Box.other ?_ (by first | (dsimp only; omega) | omega) _)))
            have z_n80 := x_n80.lt
            have c_n80_0 := x_n80.c 0 _ rfl
            have f_n80_0 := x_n80.f 0 _ rfl
            have c_n80_1 := x_n80.c 1 _ rfl
            have f_n80_1 := x_n80.f 1 _ rfl
            have c_n80_2 := x_n80.c 2 _ rfl
            have f_n80_2 := x_n80.f 2 _ rfl
            have c_n80_3 := x_n80.c 3 _ rfl
            have f_n80_3 := x_n80.f 3 _ rfl
            have c_n80_4 := x_n80.c 4 _ rfl
            have f_n80_4 := x_n80.f 4 _ rfl
            have c_n80_5 := x_n80.c 5 _ rfl
            have f_n80_5 := x_n80.f 5 _ rfl
            have x_s80 : Box w80 (w62.heap.size) [.int .i64 1000000000, .int .i64 1, .int .i64 1000000000, .int .i64 0, .int .i64 0, .int .u64 0] := (by refine Box.below ?_ hb; repeat (first | (with_reducible assumption) | (with_reducible refine Box.drew ?_) | (with_reducible refine Box.drewN ?_ _) | ((with_reducible refine Box.new ?_); simp; done) | (with_reducible apply Box.set2) | ((with_reducible apply Box.put); (with_reducible assumption); rfl) | (with_reducible refine Box.alloc ?_ _) | (with_reducible refine Box.other ?_ (by first | (dsimp only; omega) | omega) _)))
            have z_s80 := x_s80.lt
            have c_s80_0 := x_s80.c 0 _ rfl
            have f_s80_0 := x_s80.f 0 _ rfl
            have c_s80_1 := x_s80.c 1 _ rfl
            have f_s80_1 := x_s80.f 1 _ rfl
            have c_s80_2 := x_s80.c 2 _ rfl
            have f_s80_2 := x_s80.f 2 _ rfl
            have c_s80_3 := x_s80.c 3 _ rfl
            have f_s80_3 := x_s80.f 3 _ rfl
            have c_s80_4 := x_s80.c 4 _ rfl
            have f_s80_4 := x_s80.f 4 _ rfl
            have c_s80_5 := x_s80.c 5 _ rfl
            have f_s80_5 := x_s80.f 5 _ rfl
            have x_u80 : Box w80 (w63.heap.size) [.int .i64 1000000000, .int .i64 1000000000, .int .i64 1, .int .i64 0, .int .i64 0, .int .u64 0] := (by refine Box.below ?_ hb; repeat (first | (with_reducible assumption) | (with_reducible refine Box.drew ?_) | (with_reducible refine Box.drewN ?_ _) | ((with_reducible refine Box.new ?_); simp; done) | (with_reducible apply Box.set2) | ((with_reducible apply Box.put); (with_reducible assumption); rfl) | (with_reducible refine Box.alloc ?_ _) | (with_reducible refine Box.other ?_ (by first | (dsimp only; omega) | omega) _)))
            have z_u80 := x_u80.lt
            have c_u80_0 := x_u80.c 0 _ rfl
            have f_u80_0 := x_u80.f 0 _ rfl
            have c_u80_1 := x_u80.c 1 _ rfl
            have f_u80_1 := x_u80.f 1 _ rfl
            have c_u80_2 := x_u80.c 2 _ rfl
            have f_u80_2 := x_u80.f 2 _ rfl
            have c_u80_3 := x_u80.c 3 _ rfl
            have f_u80_3 := x_u80.f 3 _ rfl
            have c_u80_4 := x_u80.c 4 _ rfl
            have f_u80_4 := x_u80.f 4 _ rfl
            have c_u80_5 := x_u80.c 5 _ rfl
            have f_u80_5 := x_u80.f 5 _ rfl
            have x_d80 : Box w80 (w64.heap.size) [.int .i64 3, .int .i64 1, .int .i64 2, .int .i64 0, .int .i64 0, .int .u64 18446744073709551612] := (by refine Box.below ?_ hb; repeat (first | (with_reducible assumption) | (with_reducible refine Box.drew ?_) | (with_reducible refine Box.drewN ?_ _) | ((with_reducible refine Box.new ?_); simp; done) | (with_reducible apply Box.set2) | ((with_reducible apply Box.put); (with_reducible assumption); rfl) | (with_reducible refine Box.alloc ?_ _) | (with_reducible refine Box.other ?_ (by first | (dsimp only; omega) | omega) _)))
            have z_d80 := x_d80.lt
            have c_d80_0 := x_d80.c 0 _ rfl
            have f_d80_0 := x_d80.f 0 _ rfl
            have c_d80_1 := x_d80.c 1 _ rfl
            have f_d80_1 := x_d80.f 1 _ rfl
            have c_d80_2 := x_d80.c 2 _ rfl
            have f_d80_2 := x_d80.f 2 _ rfl
            have c_d80_3 := x_d80.c 3 _ rfl
            have f_d80_3 := x_d80.f 3 _ rfl
            have c_d80_4 := x_d80.c 4 _ rfl
            have f_d80_4 := x_d80.f 4 _ rfl
            have c_d80_5 := x_d80.c 5 _ rfl
            have f_d80_5 := x_d80.f 5 _ rfl
            have x_back80 : Box w80 (w66.heap.size) [.int .i64 5, .int .i64 2, .int .i64 3, .int .i64 0, .int .i64 0, .int .u64 7] := (by refine Box.below ?_ hb; repeat (first | (with_reducible assumption) | (with_reducible refine Box.drew ?_) | (with_reducible refine Box.drewN ?_ _) | ((with_reducible refine Box.new ?_); simp; done) | (with_reducible apply Box.set2) | ((with_reducible apply Box.put); (with_reducible assumption); rfl) | (with_reducible refine Box.alloc ?_ _) | (with_reducible refine Box.other ?_ (by first | (dsimp only; omega) | omega) _)))
            have z_back80 := x_back80.lt
            have c_back80_0 := x_back80.c 0 _ rfl
            have f_back80_0 := x_back80.f 0 _ rfl
            have c_back80_1 := x_back80.c 1 _ rfl
            have f_back80_1 := x_back80.f 1 _ rfl
            have c_back80_2 := x_back80.c 2 _ rfl
            have f_back80_2 := x_back80.f 2 _ rfl
            have c_back80_3 := x_back80.c 3 _ rfl
            have f_back80_3 := x_back80.f 3 _ rfl
            have c_back80_4 := x_back80.c 4 _ rfl
            have f_back80_4 := x_back80.f 4 _ rfl
            have c_back80_5 := x_back80.c 5 _ rfl
            have f_back80_5 := x_back80.f 5 _ rfl
            have c_l080 := cell_below hB80 l0
            have c_l180 := cell_below hB80 l1
            have c_l280 := cell_below hB80 l2
            have t80 := hb.size
            try simp at t80
            clear hb hB79 hs79 c_l079 c_l179 c_l279 x_same79 z_same79 c_same79_0 c_same79_1 c_same79_2 c_same79_3 c_same79_4 c_same79_5 f_same79_0 f_same79_1 f_same79_2 f_same79_3 f_same79_4 f_same79_5 x_n79 z_n79 c_n79_0 c_n79_1 c_n79_2 c_n79_3 c_n79_4 c_n79_5 f_n79_0 f_n79_1 f_n79_2 f_n79_3 f_n79_4 f_n79_5 x_s79 z_s79 c_s79_0 c_s79_1 c_s79_2 c_s79_3 c_s79_4 c_s79_5 f_s79_0 f_s79_1 f_s79_2 f_s79_3 f_s79_4 f_s79_5 x_u79 z_u79 c_u79_0 c_u79_1 c_u79_2 c_u79_3 c_u79_4 c_u79_5 f_u79_0 f_u79_1 f_u79_2 f_u79_3 f_u79_4 f_u79_5 x_d79 z_d79 c_d79_0 c_d79_1 c_d79_2 c_d79_3 c_d79_4 c_d79_5 f_d79_0 f_d79_1 f_d79_2 f_d79_3 f_d79_4 f_d79_5 x_back79 z_back79 c_back79_0 c_back79_1 c_back79_2 c_back79_3 c_back79_4 c_back79_5 f_back79_0 f_back79_1 f_back79_2 f_back79_3 f_back79_4 f_back79_5
            clear x_n80 z_n80 c_n80_0 c_n80_1 c_n80_2 c_n80_3 c_n80_4 c_n80_5 f_n80_0 f_n80_1 f_n80_2 f_n80_3 f_n80_4 f_n80_5
            clear x_s80 z_s80 c_s80_0 c_s80_1 c_s80_2 c_s80_3 c_s80_4 c_s80_5 f_s80_0 f_s80_1 f_s80_2 f_s80_3 f_s80_4 f_s80_5
            clear x_u80 z_u80 c_u80_0 c_u80_1 c_u80_2 c_u80_3 c_u80_4 c_u80_5 f_u80_0 f_u80_1 f_u80_2 f_u80_3 f_u80_4 f_u80_5
            clear x_d80 z_d80 c_d80_0 c_d80_1 c_d80_2 c_d80_3 c_d80_4 c_d80_5 f_d80_0 f_d80_1 f_d80_2 f_d80_3 f_d80_4 f_d80_5
            go_upto_region 30 with fail
            go_cut [0] (fun q0 wx => q0 = .bool true ∧ Box wx (w60.heap.size) [.int .i64 10, .int .i64 3, .int .i64 2, .int .i64 1, .int .i64 0, .int .u64 0] ∧ Box wx (w66.heap.size) [.int .i64 5, .int .i64 2, .int .i64 3, .int .i64 0, .int .i64 0, .int .u64 7] ∧ Below W2.heap.size W2 wx)
            case first =>
              as_aux_lemma =>
                go_region_held3 (fun w' => w'.cell? ⟨w60.heap.size, 0, none⟩ = some (.int .i64 10) ∧ w'.cell? ⟨w60.heap.size, 1, none⟩ = some (.int .i64 3) ∧ w'.cell? ⟨w60.heap.size, 2, none⟩ = some (.int .i64 2) ∧ w'.cell? ⟨w60.heap.size, 3, none⟩ = some (.int .i64 1) ∧ w'.cell? ⟨w60.heap.size, 4, none⟩ = some (.int .i64 0) ∧ w'.cell? ⟨w60.heap.size, 5, none⟩ = some (.int .u64 0) ∧ w'.cell? ⟨w66.heap.size, 0, none⟩ = some (.int .i64 5) ∧ w'.cell? ⟨w66.heap.size, 1, none⟩ = some (.int .i64 2) ∧ w'.cell? ⟨w66.heap.size, 2, none⟩ = some (.int .i64 3) ∧ w'.cell? ⟨w66.heap.size, 3, none⟩ = some (.int .i64 0) ∧ w'.cell? ⟨w66.heap.size, 4, none⟩ = some (.int .i64 0) ∧ w'.cell? ⟨w66.heap.size, 5, none⟩ = some (.int .u64 7) ∧ w'.cell? ⟨wq.heap.size, 0, none⟩ = some (.int .i64 5) ∧ w'.cell? ⟨wq.heap.size, 1, none⟩ = some (.int .i64 2) ∧ w'.cell? ⟨wq.heap.size, 2, none⟩ = some (.int .i64 3)) (((repeat' apply And.intro) <;> (first | (go_keep; done) | go_cell)))
                  (first
                    | (go_at_call 12; refine (given_any _).mono ?_; rintro e v1 ⟨rfl, hv1⟩; have hV1 : Below W2.heap.size W2 v1 := below_thru (by go_grown) hv1; have hs_v1 : W2.heap.size ≤ v1.heap.size := hV1.size; have x_same_v1 : Box v1 (w60.heap.size) [.int .i64 10, .int .i64 3, .int .i64 2, .int .i64 1, .int .i64 0, .int .u64 0] := (by refine Box.below ?_ hv1; repeat (first | (with_reducible assumption) | (with_reducible refine Box.drew ?_) | (with_reducible refine Box.drewN ?_ _) | ((with_reducible refine Box.new ?_); simp; done) | (with_reducible apply Box.set2) | ((with_reducible apply Box.put); (with_reducible assumption); rfl) | (with_reducible refine Box.alloc ?_ _) | (with_reducible refine Box.other ?_ (by first | (dsimp only; omega) | omega) _))); have z_same_v1 := x_same_v1.lt; have c_same_v1_0 := x_same_v1.c 0 _ rfl; have f_same_v1_0 := x_same_v1.f 0 _ rfl; have c_same_v1_1 := x_same_v1.c 1 _ rfl; have f_same_v1_1 := x_same_v1.f 1 _ rfl; have c_same_v1_2 := x_same_v1.c 2 _ rfl; have f_same_v1_2 := x_same_v1.f 2 _ rfl; have c_same_v1_3 := x_same_v1.c 3 _ rfl; have f_same_v1_3 := x_same_v1.f 3 _ rfl; have c_same_v1_4 := x_same_v1.c 4 _ rfl; have f_same_v1_4 := x_same_v1.f 4 _ rfl; have c_same_v1_5 := x_same_v1.c 5 _ rfl; have f_same_v1_5 := x_same_v1.f 5 _ rfl; have x_back_v1 : Box v1 (w66.heap.size) [.int .i64 5, .int .i64 2, .int .i64 3, .int .i64 0, .int .i64 0, .int .u64 7] := (by refine Box.below ?_ hv1; repeat (first | (with_reducible assumption) | (with_reducible refine Box.drew ?_) | (with_reducible refine Box.drewN ?_ _) | ((with_reducible refine Box.new ?_); simp; done) | (with_reducible apply Box.set2) | ((with_reducible apply Box.put); (with_reducible assumption); rfl) | (with_reducible refine Box.alloc ?_ _) | (with_reducible refine Box.other ?_ (by first | (dsimp only; omega) | omega) _))); have z_back_v1 := x_back_v1.lt; have c_back_v1_0 := x_back_v1.c 0 _ rfl; have f_back_v1_0 := x_back_v1.f 0 _ rfl; have c_back_v1_1 := x_back_v1.c 1 _ rfl; have f_back_v1_1 := x_back_v1.f 1 _ rfl; have c_back_v1_2 := x_back_v1.c 2 _ rfl; have f_back_v1_2 := x_back_v1.f 2 _ rfl; have c_back_v1_3 := x_back_v1.c 3 _ rfl; have f_back_v1_3 := x_back_v1.f 3 _ rfl; have c_back_v1_4 := x_back_v1.c 4 _ rfl; have f_back_v1_4 := x_back_v1.f 4 _ rfl; have c_back_v1_5 := x_back_v1.c 5 _ rfl; have f_back_v1_5 := x_back_v1.f 5 _ rfl; have c_l0_v1 := cell_below hV1 l0; have c_l1_v1 := cell_below hV1 l1; have c_l2_v1 := cell_below hV1 l2)
                    | (go_at_call 20; refine (alive03_any _).mono ?_; rintro e v2 ⟨rfl, hv2⟩; have hV2 : Below W2.heap.size W2 v2 := below_thru (by go_grown) hv2; have hs_v2 : W2.heap.size ≤ v2.heap.size := hV2.size; have x_same_v2 : Box v2 (w60.heap.size) [.int .i64 10, .int .i64 3, .int .i64 2, .int .i64 1, .int .i64 0, .int .u64 0] := (by refine Box.below ?_ hv2; repeat (first | (with_reducible assumption) | (with_reducible refine Box.drew ?_) | (with_reducible refine Box.drewN ?_ _) | ((with_reducible refine Box.new ?_); simp; done) | (with_reducible apply Box.set2) | ((with_reducible apply Box.put); (with_reducible assumption); rfl) | (with_reducible refine Box.alloc ?_ _) | (with_reducible refine Box.other ?_ (by first | (dsimp only; omega) | omega) _))); have z_same_v2 := x_same_v2.lt; have c_same_v2_0 := x_same_v2.c 0 _ rfl; have f_same_v2_0 := x_same_v2.f 0 _ rfl; have c_same_v2_1 := x_same_v2.c 1 _ rfl; have f_same_v2_1 := x_same_v2.f 1 _ rfl; have c_same_v2_2 := x_same_v2.c 2 _ rfl; have f_same_v2_2 := x_same_v2.f 2 _ rfl; have c_same_v2_3 := x_same_v2.c 3 _ rfl; have f_same_v2_3 := x_same_v2.f 3 _ rfl; have c_same_v2_4 := x_same_v2.c 4 _ rfl; have f_same_v2_4 := x_same_v2.f 4 _ rfl; have c_same_v2_5 := x_same_v2.c 5 _ rfl; have f_same_v2_5 := x_same_v2.f 5 _ rfl; have x_back_v2 : Box v2 (w66.heap.size) [.int .i64 5, .int .i64 2, .int .i64 3, .int .i64 0, .int .i64 0, .int .u64 7] := (by refine Box.below ?_ hv2; repeat (first | (with_reducible assumption) | (with_reducible refine Box.drew ?_) | (with_reducible refine Box.drewN ?_ _) | ((with_reducible refine Box.new ?_); simp; done) | (with_reducible apply Box.set2) | ((with_reducible apply Box.put); (with_reducible assumption); rfl) | (with_reducible refine Box.alloc ?_ _) | (with_reducible refine Box.other ?_ (by first | (dsimp only; omega) | omega) _))); have z_back_v2 := x_back_v2.lt; have c_back_v2_0 := x_back_v2.c 0 _ rfl; have f_back_v2_0 := x_back_v2.f 0 _ rfl; have c_back_v2_1 := x_back_v2.c 1 _ rfl; have f_back_v2_1 := x_back_v2.f 1 _ rfl; have c_back_v2_2 := x_back_v2.c 2 _ rfl; have f_back_v2_2 := x_back_v2.f 2 _ rfl; have c_back_v2_3 := x_back_v2.c 3 _ rfl; have f_back_v2_3 := x_back_v2.f 3 _ rfl; have c_back_v2_4 := x_back_v2.c 4 _ rfl; have f_back_v2_4 := x_back_v2.f 4 _ rfl; have c_back_v2_5 := x_back_v2.c 5 _ rfl; have f_back_v2_5 := x_back_v2.f 5 _ rfl; have c_l0_v2 := cell_below hV2 l0; have c_l1_v2 := cell_below hV2 l1; have c_l2_v2 := cell_below hV2 l2))
                all_goals
                  go_wp2_with fail
                  go_meet
                  refine ⟨rfl, ?_, ?_, ?_⟩
                  all_goals first
                    | ((repeat (first | (with_reducible assumption) | (with_reducible refine Box.drew ?_) | (with_reducible refine Box.drewN ?_ _) | ((with_reducible refine Box.new ?_); simp; done) | (with_reducible apply Box.set2) | (with_reducible refine Box.alloc ?_ _) | (with_reducible refine Box.other ?_ (by first | (dsimp only; omega) | omega) _))); done)
                    | (go_grown; done)
            case rest =>
              as_aux_lemma =>
                obtain ⟨rfl, x_same81, x_back81, hB81⟩ := hcut
                obtain ⟨w81, rfl⟩ : ∃ u : World, u = wc := ⟨_, rfl⟩
                clear hB80 hs80 c_l080 c_l180 c_l280 x_same80 z_same80 c_same80_0 c_same80_1 c_same80_2 c_same80_3 c_same80_4 c_same80_5 f_same80_0 f_same80_1 f_same80_2 f_same80_3 f_same80_4 f_same80_5 x_back80 z_back80 c_back80_0 c_back80_1 c_back80_2 c_back80_3 c_back80_4 c_back80_5 f_back80_0 f_back80_1 f_back80_2 f_back80_3 f_back80_4 f_back80_5
                have c_l081 := cell_below hB81 l0
                have c_l181 := cell_below hB81 l1
                have c_l281 := cell_below hB81 l2
                have hs81 : W2.heap.size ≤ w81.heap.size := hB81.size
                have z_same81 := x_same81.lt
                have c_same81_0 := x_same81.c 0 _ rfl; have f_same81_0 := x_same81.f 0 _ rfl
                have c_same81_1 := x_same81.c 1 _ rfl; have f_same81_1 := x_same81.f 1 _ rfl
                have c_same81_2 := x_same81.c 2 _ rfl; have f_same81_2 := x_same81.f 2 _ rfl
                have c_same81_3 := x_same81.c 3 _ rfl; have f_same81_3 := x_same81.f 3 _ rfl
                have c_same81_4 := x_same81.c 4 _ rfl; have f_same81_4 := x_same81.f 4 _ rfl
                have c_same81_5 := x_same81.c 5 _ rfl; have f_same81_5 := x_same81.f 5 _ rfl
                have z_back81 := x_back81.lt
                have c_back81_0 := x_back81.c 0 _ rfl; have f_back81_0 := x_back81.f 0 _ rfl
                have c_back81_1 := x_back81.c 1 _ rfl; have f_back81_1 := x_back81.f 1 _ rfl
                have c_back81_2 := x_back81.c 2 _ rfl; have f_back81_2 := x_back81.f 2 _ rfl
                have c_back81_3 := x_back81.c 3 _ rfl; have f_back81_3 := x_back81.f 3 _ rfl
                have c_back81_4 := x_back81.c 4 _ rfl; have f_back81_4 := x_back81.f 4 _ rfl
                have c_back81_5 := x_back81.c 5 _ rfl; have f_back81_5 := x_back81.f 5 _ rfl
                go_wp2_with fail
                go_returns
                exact ⟨rfl, below_thru hBW hB81⟩

end Go.Proofs.Ytikhdfmdbpcajaa
