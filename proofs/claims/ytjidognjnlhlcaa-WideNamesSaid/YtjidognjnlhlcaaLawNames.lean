/-
  WideNames returns true: the examples of the chapter, its limits and its errors. Conditions: none.
-/
import Derived.Test.YtjidognjnlhlcaaLawSums
namespace Go.Proofs.Ytjidognjnlhlcaa
open Go.ChangeShapes Go.WideShapes Go.ChangeAt Go.RowKit Go.Joins

theorem un2 : isU 2 := by unfold isU; omega
theorem un7 : isU 7 := by unfold isU; omega
theorem unH : isU 9223372036854775808 := by unfold isU; omega

set_option maxRecDepth 100000 in
set_option maxHeartbeats 6400000 in
theorem names_any (w : World) : Calls Try.prog 3 #[] w fun e w' => e = .returned (.bool true) ∧ Below w.heap.size w w' := by
  go_enter Try.func3, Try.ntmps3
  go_upto_region 2 with fail
  go_cut [2, 3] (fun p q0 wx => ∃ b : Nat, p = .pointer (some ⟨b, 0, none⟩) ∧ q0 = .int .i64 16 ∧ Box wx b [.int .u64 0, .int .u64 0] ∧ Box wx (w.heap.size) [.int .u64 18446744073709551615, .int .u64 18446744073709551615] ∧ Below w.heap.size w wx)
  case first =>
    as_aux_lemma =>
      go_region_held3 (fun w' => w'.cell? ⟨w.heap.size, 0, none⟩ = some (.int .u64 18446744073709551615) ∧ w'.cell? ⟨w.heap.size, 1, none⟩ = some (.int .u64 18446744073709551615)) (((repeat' apply And.intro) <;> (first | (go_keep; done) | go_cell)))
        (first
          | (go_at_call 10; refine (of_any _ _).mono ?_; rintro e v1 ⟨rfl, hv1⟩; have hV1 : Below w.heap.size w v1 := below_thru (by go_grown) hv1; have hs_v1 : w.heap.size ≤ v1.heap.size := hV1.size; have x_top_v1 : Box v1 (w.heap.size) [.int .u64 18446744073709551615, .int .u64 18446744073709551615] := (by refine Box.below ?_ hv1; repeat (first | (with_reducible assumption) | (with_reducible refine Box.drew ?_) | (with_reducible refine Box.drewN ?_ _) | ((with_reducible refine Box.new ?_); simp; done) | (with_reducible apply Box.set2) | (with_reducible refine Box.alloc ?_ _) | (with_reducible refine Box.other ?_ (by first | (dsimp only; omega) | omega) _))); have z_top_v1 := x_top_v1.lt; have c_top_v1_0 := x_top_v1.c 0 _ rfl; have f_top_v1_0 := x_top_v1.f 0 _ rfl; have c_top_v1_1 := x_top_v1.c 1 _ rfl; have f_top_v1_1 := x_top_v1.f 1 _ rfl; (first | (with_reducible have y := Box.below (Box.drew (Box.new rfl)) hv1) | (with_reducible have y := Box.below (Box.new rfl) hv1) | (with_reducible have y := Box.below y hv1) | (have y := trivial)); (try simp only [World.size_alloc] at y); try (have yz := Box.lt y; have y0 := Box.c y 0 _ rfl; have yf0 := Box.f y 0 _ rfl; have y1 := Box.c y 1 _ rfl; have yf1 := Box.f y 1 _ rfl))
          | (go_at_call 9; refine (add_no _ uMax uMax u0 u1 (by decide)).mono ?_; rintro e v2 ⟨rfl, hv2⟩; have hV2 : Below w.heap.size w v2 := below_thru (by go_grown) hv2; have hs_v2 : w.heap.size ≤ v2.heap.size := hV2.size; have x_top_v2 : Box v2 (w.heap.size) [.int .u64 18446744073709551615, .int .u64 18446744073709551615] := (by refine Box.below ?_ hv2; repeat (first | (with_reducible assumption) | (with_reducible refine Box.drew ?_) | (with_reducible refine Box.drewN ?_ _) | ((with_reducible refine Box.new ?_); simp; done) | (with_reducible apply Box.set2) | (with_reducible refine Box.alloc ?_ _) | (with_reducible refine Box.other ?_ (by first | (dsimp only; omega) | omega) _))); have z_top_v2 := x_top_v2.lt; have c_top_v2_0 := x_top_v2.c 0 _ rfl; have f_top_v2_0 := x_top_v2.f 0 _ rfl; have c_top_v2_1 := x_top_v2.c 1 _ rfl; have f_top_v2_1 := x_top_v2.f 1 _ rfl; (first | (with_reducible have y := Box.below (Box.drew (Box.new rfl)) hv2) | (with_reducible have y := Box.below (Box.new rfl) hv2) | (with_reducible have y := Box.below y hv2) | (have y := trivial)); (try simp only [World.size_alloc] at y); try (have yz := Box.lt y; have y0 := Box.c y 0 _ rfl; have yf0 := Box.f y 0 _ rfl; have y1 := Box.c y 1 _ rfl; have yf1 := Box.f y 1 _ rfl)))
      all_goals
        go_wp2_with fail
        go_meet
        refine ⟨_, rfl, rfl, ?_, ?_, ?_⟩
        all_goals first
          | ((repeat (first | (with_reducible assumption) | (with_reducible refine Box.drew ?_) | (with_reducible refine Box.drewN ?_ _) | ((with_reducible refine Box.new ?_); simp; done) | (with_reducible apply Box.set2) | (with_reducible refine Box.alloc ?_ _) | (with_reducible refine Box.other ?_ (by first | (dsimp only; omega) | omega) _))); done)
          | (go_grown; done)
  case rest =>
    as_aux_lemma =>
      obtain ⟨b1, rfl, rfl, x_z1, x_top1, hB1⟩ := hcut
      obtain ⟨w1, rfl⟩ : ∃ u : World, u = wc := ⟨_, rfl⟩
      have hs1 : w.heap.size ≤ w1.heap.size := hB1.size
      have z_top1 := x_top1.lt
      have c_top1_0 := x_top1.c 0 _ rfl; have f_top1_0 := x_top1.f 0 _ rfl
      have c_top1_1 := x_top1.c 1 _ rfl; have f_top1_1 := x_top1.f 1 _ rfl
      have z_z1 := x_z1.lt
      have c_z1_0 := x_z1.c 0 _ rfl; have f_z1_0 := x_z1.f 0 _ rfl
      have c_z1_1 := x_z1.c 1 _ rfl; have f_z1_1 := x_z1.f 1 _ rfl
      clear x_z1 z_z1 c_z1_0 c_z1_1 f_z1_0 f_z1_1
      go_wp2_with fail
      refine (add_no _ uMax u0 u1 u0 (by decide)).mono ?_
      rintro e w2 ⟨rfl, hb⟩
      have hB2 : Below w.heap.size w w2 := below_thru (by go_grown) hb
      have hs2 : w.heap.size ≤ w2.heap.size := hB2.size
      have x_top2 : Box w2 (w.heap.size) [.int .u64 18446744073709551615, .int .u64 18446744073709551615] := (by refine Box.below ?_ hb; repeat (first | (with_reducible assumption) | (with_reducible refine Box.drew ?_) | (with_reducible refine Box.drewN ?_ _) | ((with_reducible refine Box.new ?_); simp; done) | (with_reducible apply Box.set2) | (with_reducible refine Box.alloc ?_ _) | (with_reducible refine Box.other ?_ (by first | (dsimp only; omega) | omega) _)))
      have z_top2 := x_top2.lt
      have c_top2_0 := x_top2.c 0 _ rfl
      have f_top2_0 := x_top2.f 0 _ rfl
      have c_top2_1 := x_top2.c 1 _ rfl
      have f_top2_1 := x_top2.f 1 _ rfl
      clear hb hB1 hs1 x_top1 z_top1 c_top1_0 c_top1_1 f_top1_0 f_top1_1
      go_upto_region 4 with fail
      go_cut [6, 7] (fun p q0 wx => ∃ b : Nat, p = .pointer (some ⟨b, 0, none⟩) ∧ q0 = .int .i64 0 ∧ Box wx b [.int .u64 18446744073709551615, .int .u64 18446744073709551615] ∧ Box wx (w.heap.size) [.int .u64 18446744073709551615, .int .u64 18446744073709551615] ∧ Below w.heap.size w wx)
      case first =>
        as_aux_lemma =>
          go_region_held3 (fun w' => w'.cell? ⟨w.heap.size, 0, none⟩ = some (.int .u64 18446744073709551615) ∧ w'.cell? ⟨w.heap.size, 1, none⟩ = some (.int .u64 18446744073709551615)) (((repeat' apply And.intro) <;> (first | (go_keep; done) | go_cell)))
            (first
              | (go_at_call 10; refine (of_any _ _).mono ?_; rintro e v1 ⟨rfl, hv1⟩; have hV1 : Below w.heap.size w v1 := below_thru (by go_grown) hv1; have hs_v1 : w.heap.size ≤ v1.heap.size := hV1.size; have x_top_v1 : Box v1 (w.heap.size) [.int .u64 18446744073709551615, .int .u64 18446744073709551615] := (by refine Box.below ?_ hv1; repeat (first | (with_reducible assumption) | (with_reducible refine Box.drew ?_) | (with_reducible refine Box.drewN ?_ _) | ((with_reducible refine Box.new ?_); simp; done) | (with_reducible apply Box.set2) | (with_reducible refine Box.alloc ?_ _) | (with_reducible refine Box.other ?_ (by first | (dsimp only; omega) | omega) _))); have z_top_v1 := x_top_v1.lt; have c_top_v1_0 := x_top_v1.c 0 _ rfl; have f_top_v1_0 := x_top_v1.f 0 _ rfl; have c_top_v1_1 := x_top_v1.c 1 _ rfl; have f_top_v1_1 := x_top_v1.f 1 _ rfl; (first | (with_reducible have y := Box.below (Box.drew (Box.new rfl)) hv1) | (with_reducible have y := Box.below (Box.new rfl) hv1) | (with_reducible have y := Box.below y hv1) | (have y := trivial)); (try simp only [World.size_alloc] at y); try (have yz := Box.lt y; have y0 := Box.c y 0 _ rfl; have yf0 := Box.f y 0 _ rfl; have y1 := Box.c y 1 _ rfl; have yf1 := Box.f y 1 _ rfl))
              | (go_at_call 9; refine (add_ok _ uMax uMax u0 u0 uMax uMax (by decide)).mono ?_; rintro e v2 ⟨rfl, hv2⟩; have hV2 : Below w.heap.size w v2 := below_thru (by go_grown) hv2; have hs_v2 : w.heap.size ≤ v2.heap.size := hV2.size; have x_top_v2 : Box v2 (w.heap.size) [.int .u64 18446744073709551615, .int .u64 18446744073709551615] := (by refine Box.below ?_ hv2; repeat (first | (with_reducible assumption) | (with_reducible refine Box.drew ?_) | (with_reducible refine Box.drewN ?_ _) | ((with_reducible refine Box.new ?_); simp; done) | (with_reducible apply Box.set2) | (with_reducible refine Box.alloc ?_ _) | (with_reducible refine Box.other ?_ (by first | (dsimp only; omega) | omega) _))); have z_top_v2 := x_top_v2.lt; have c_top_v2_0 := x_top_v2.c 0 _ rfl; have f_top_v2_0 := x_top_v2.f 0 _ rfl; have c_top_v2_1 := x_top_v2.c 1 _ rfl; have f_top_v2_1 := x_top_v2.f 1 _ rfl; (first | (with_reducible have y := Box.below (Box.drew (Box.new rfl)) hv2) | (with_reducible have y := Box.below (Box.new rfl) hv2) | (with_reducible have y := Box.below y hv2) | (have y := trivial)); (try simp only [World.size_alloc] at y); try (have yz := Box.lt y; have y0 := Box.c y 0 _ rfl; have yf0 := Box.f y 0 _ rfl; have y1 := Box.c y 1 _ rfl; have yf1 := Box.f y 1 _ rfl)))
          all_goals
            go_wp2_with fail
            go_meet
            refine ⟨_, rfl, rfl, ?_, ?_, ?_⟩
            all_goals first
              | ((repeat (first | (with_reducible assumption) | (with_reducible refine Box.drew ?_) | (with_reducible refine Box.drewN ?_ _) | ((with_reducible refine Box.new ?_); simp; done) | (with_reducible apply Box.set2) | (with_reducible refine Box.alloc ?_ _) | (with_reducible refine Box.other ?_ (by first | (dsimp only; omega) | omega) _))); done)
              | (go_grown; done)
      case rest =>
        as_aux_lemma =>
          obtain ⟨b3, rfl, rfl, x_c3, x_top3, hB3⟩ := hcut
          obtain ⟨w3, rfl⟩ : ∃ u : World, u = wc := ⟨_, rfl⟩
          clear hB2 hs2 x_top2 z_top2 c_top2_0 c_top2_1 f_top2_0 f_top2_1
          have hs3 : w.heap.size ≤ w3.heap.size := hB3.size
          have z_top3 := x_top3.lt
          have c_top3_0 := x_top3.c 0 _ rfl; have f_top3_0 := x_top3.f 0 _ rfl
          have c_top3_1 := x_top3.c 1 _ rfl; have f_top3_1 := x_top3.f 1 _ rfl
          have z_c3 := x_c3.lt
          have c_c3_0 := x_c3.c 0 _ rfl; have f_c3_0 := x_c3.f 0 _ rfl
          have c_c3_1 := x_c3.c 1 _ rfl; have f_c3_1 := x_c3.f 1 _ rfl
          go_wp2_with fail
          refine (sub_ok _ uMax uMax uMax uMax u0 u0 (by decide)).mono ?_
          rintro e w4 ⟨rfl, hb⟩
          have hB4 : Below w.heap.size w w4 := below_thru (by go_grown) hb
          have hs4 : w.heap.size ≤ w4.heap.size := hB4.size
          have x_top4 : Box w4 (w.heap.size) [.int .u64 18446744073709551615, .int .u64 18446744073709551615] := (by refine Box.below ?_ hb; repeat (first | (with_reducible assumption) | (with_reducible refine Box.drew ?_) | (with_reducible refine Box.drewN ?_ _) | ((with_reducible refine Box.new ?_); simp; done) | (with_reducible apply Box.set2) | (with_reducible refine Box.alloc ?_ _) | (with_reducible refine Box.other ?_ (by first | (dsimp only; omega) | omega) _)))
          have z_top4 := x_top4.lt
          have c_top4_0 := x_top4.c 0 _ rfl
          have f_top4_0 := x_top4.f 0 _ rfl
          have c_top4_1 := x_top4.c 1 _ rfl
          have f_top4_1 := x_top4.f 1 _ rfl
          have x_c4 : Box w4 (b3) [.int .u64 18446744073709551615, .int .u64 18446744073709551615] := (by refine Box.below ?_ hb; repeat (first | (with_reducible assumption) | (with_reducible refine Box.drew ?_) | (with_reducible refine Box.drewN ?_ _) | ((with_reducible refine Box.new ?_); simp; done) | (with_reducible apply Box.set2) | (with_reducible refine Box.alloc ?_ _) | (with_reducible refine Box.other ?_ (by first | (dsimp only; omega) | omega) _)))
          have z_c4 := x_c4.lt
          have c_c4_0 := x_c4.c 0 _ rfl
          have f_c4_0 := x_c4.f 0 _ rfl
          have c_c4_1 := x_c4.c 1 _ rfl
          have f_c4_1 := x_c4.f 1 _ rfl
          clear hb hB3 hs3 x_top3 z_top3 c_top3_0 c_top3_1 f_top3_0 f_top3_1 x_c3 z_c3 c_c3_0 c_c3_1 f_c3_0 f_c3_1
          go_wp2_with fail
          refine (sub_no _ u1 u0 u1 u1 (by decide)).mono ?_
          rintro e w5 ⟨rfl, hb⟩
          have hB5 : Below w.heap.size w w5 := below_thru (by go_grown) hb
          have hs5 : w.heap.size ≤ w5.heap.size := hB5.size
          have x_top5 : Box w5 (w.heap.size) [.int .u64 18446744073709551615, .int .u64 18446744073709551615] := (by refine Box.below ?_ hb; repeat (first | (with_reducible assumption) | (with_reducible refine Box.drew ?_) | (with_reducible refine Box.drewN ?_ _) | ((with_reducible refine Box.new ?_); simp; done) | (with_reducible apply Box.set2) | (with_reducible refine Box.alloc ?_ _) | (with_reducible refine Box.other ?_ (by first | (dsimp only; omega) | omega) _)))
          have z_top5 := x_top5.lt
          have c_top5_0 := x_top5.c 0 _ rfl
          have f_top5_0 := x_top5.f 0 _ rfl
          have c_top5_1 := x_top5.c 1 _ rfl
          have f_top5_1 := x_top5.f 1 _ rfl
          have x_c5 : Box w5 (b3) [.int .u64 18446744073709551615, .int .u64 18446744073709551615] := (by refine Box.below ?_ hb; repeat (first | (with_reducible assumption) | (with_reducible refine Box.drew ?_) | (with_reducible refine Box.drewN ?_ _) | ((with_reducible refine Box.new ?_); simp; done) | (with_reducible apply Box.set2) | (with_reducible refine Box.alloc ?_ _) | (with_reducible refine Box.other ?_ (by first | (dsimp only; omega) | omega) _)))
          have z_c5 := x_c5.lt
          have c_c5_0 := x_c5.c 0 _ rfl
          have f_c5_0 := x_c5.f 0 _ rfl
          have c_c5_1 := x_c5.c 1 _ rfl
          have f_c5_1 := x_c5.f 1 _ rfl
          have x_e5 : Box w5 (w4.heap.size) [.int .u64 0, .int .u64 0] := (by refine Box.below ?_ hb; repeat (first | (with_reducible assumption) | (with_reducible refine Box.drew ?_) | (with_reducible refine Box.drewN ?_ _) | ((with_reducible refine Box.new ?_); simp; done) | (with_reducible apply Box.set2) | (with_reducible refine Box.alloc ?_ _) | (with_reducible refine Box.other ?_ (by first | (dsimp only; omega) | omega) _)))
          have z_e5 := x_e5.lt
          have c_e5_0 := x_e5.c 0 _ rfl
          have f_e5_0 := x_e5.f 0 _ rfl
          have c_e5_1 := x_e5.c 1 _ rfl
          have f_e5_1 := x_e5.f 1 _ rfl
          clear hb hB4 hs4 x_top4 z_top4 c_top4_0 c_top4_1 f_top4_0 f_top4_1 x_c4 z_c4 c_c4_0 c_c4_1 f_c4_0 f_c4_1
          go_wp2_with fail
          refine (of_any _ _).mono ?_
          rintro e w6 ⟨rfl, hb⟩
          have hB6 : Below w.heap.size w w6 := below_thru (by go_grown) hb
          have hs6 : w.heap.size ≤ w6.heap.size := hB6.size
          have x_top6 : Box w6 (w.heap.size) [.int .u64 18446744073709551615, .int .u64 18446744073709551615] := (by refine Box.below ?_ hb; repeat (first | (with_reducible assumption) | (with_reducible refine Box.drew ?_) | (with_reducible refine Box.drewN ?_ _) | ((with_reducible refine Box.new ?_); simp; done) | (with_reducible apply Box.set2) | (with_reducible refine Box.alloc ?_ _) | (with_reducible refine Box.other ?_ (by first | (dsimp only; omega) | omega) _)))
          have z_top6 := x_top6.lt
          have c_top6_0 := x_top6.c 0 _ rfl
          have f_top6_0 := x_top6.f 0 _ rfl
          have c_top6_1 := x_top6.c 1 _ rfl
          have f_top6_1 := x_top6.f 1 _ rfl
          have x_c6 : Box w6 (b3) [.int .u64 18446744073709551615, .int .u64 18446744073709551615] := (by refine Box.below ?_ hb; repeat (first | (with_reducible assumption) | (with_reducible refine Box.drew ?_) | (with_reducible refine Box.drewN ?_ _) | ((with_reducible refine Box.new ?_); simp; done) | (with_reducible apply Box.set2) | (with_reducible refine Box.alloc ?_ _) | (with_reducible refine Box.other ?_ (by first | (dsimp only; omega) | omega) _)))
          have z_c6 := x_c6.lt
          have c_c6_0 := x_c6.c 0 _ rfl
          have f_c6_0 := x_c6.f 0 _ rfl
          have c_c6_1 := x_c6.c 1 _ rfl
          have f_c6_1 := x_c6.f 1 _ rfl
          have x_e6 : Box w6 (w4.heap.size) [.int .u64 0, .int .u64 0] := (by refine Box.below ?_ hb; repeat (first | (with_reducible assumption) | (with_reducible refine Box.drew ?_) | (with_reducible refine Box.drewN ?_ _) | ((with_reducible refine Box.new ?_); simp; done) | (with_reducible apply Box.set2) | (with_reducible refine Box.alloc ?_ _) | (with_reducible refine Box.other ?_ (by first | (dsimp only; omega) | omega) _)))
          have z_e6 := x_e6.lt
          have c_e6_0 := x_e6.c 0 _ rfl
          have f_e6_0 := x_e6.f 0 _ rfl
          have c_e6_1 := x_e6.c 1 _ rfl
          have f_e6_1 := x_e6.f 1 _ rfl
          clear hb hB5 hs5 x_top5 z_top5 c_top5_0 c_top5_1 f_top5_0 f_top5_1 x_c5 z_c5 c_c5_0 c_c5_1 f_c5_0 f_c5_1 x_e5 z_e5 c_e5_0 c_e5_1 f_e5_0 f_e5_1
          go_wp2_with fail
          refine (sub_ok _ u1 u0 u0 u1 u0 uMax (by decide)).mono ?_
          rintro e w7 ⟨rfl, hb⟩
          have hB7 : Below w.heap.size w w7 := below_thru (by go_grown) hb
          have hs7 : w.heap.size ≤ w7.heap.size := hB7.size
          have x_top7 : Box w7 (w.heap.size) [.int .u64 18446744073709551615, .int .u64 18446744073709551615] := (by refine Box.below ?_ hb; repeat (first | (with_reducible assumption) | (with_reducible refine Box.drew ?_) | (with_reducible refine Box.drewN ?_ _) | ((with_reducible refine Box.new ?_); simp; done) | (with_reducible apply Box.set2) | (with_reducible refine Box.alloc ?_ _) | (with_reducible refine Box.other ?_ (by first | (dsimp only; omega) | omega) _)))
          have z_top7 := x_top7.lt
          have c_top7_0 := x_top7.c 0 _ rfl
          have f_top7_0 := x_top7.f 0 _ rfl
          have c_top7_1 := x_top7.c 1 _ rfl
          have f_top7_1 := x_top7.f 1 _ rfl
          have x_c7 : Box w7 (b3) [.int .u64 18446744073709551615, .int .u64 18446744073709551615] := (by refine Box.below ?_ hb; repeat (first | (with_reducible assumption) | (with_reducible refine Box.drew ?_) | (with_reducible refine Box.drewN ?_ _) | ((with_reducible refine Box.new ?_); simp; done) | (with_reducible apply Box.set2) | (with_reducible refine Box.alloc ?_ _) | (with_reducible refine Box.other ?_ (by first | (dsimp only; omega) | omega) _)))
          have z_c7 := x_c7.lt
          have c_c7_0 := x_c7.c 0 _ rfl
          have f_c7_0 := x_c7.f 0 _ rfl
          have c_c7_1 := x_c7.c 1 _ rfl
          have f_c7_1 := x_c7.f 1 _ rfl
          have x_e7 : Box w7 (w4.heap.size) [.int .u64 0, .int .u64 0] := (by refine Box.below ?_ hb; repeat (first | (with_reducible assumption) | (with_reducible refine Box.drew ?_) | (with_reducible refine Box.drewN ?_ _) | ((with_reducible refine Box.new ?_); simp; done) | (with_reducible apply Box.set2) | (with_reducible refine Box.alloc ?_ _) | (with_reducible refine Box.other ?_ (by first | (dsimp only; omega) | omega) _)))
          have z_e7 := x_e7.lt
          have c_e7_0 := x_e7.c 0 _ rfl
          have f_e7_0 := x_e7.f 0 _ rfl
          have c_e7_1 := x_e7.c 1 _ rfl
          have f_e7_1 := x_e7.f 1 _ rfl
          clear hb hB6 hs6 x_top6 z_top6 c_top6_0 c_top6_1 f_top6_0 f_top6_1 x_c6 z_c6 c_c6_0 c_c6_1 f_c6_0 f_c6_1 x_e6 z_e6 c_e6_0 c_e6_1 f_e6_0 f_e6_1
          as_aux_lemma =>
            go_wp2_with fail
            refine (small_nm (v := 0) (e := 16) _ (by decide) (by decide)).mono ?_
            rintro e w8 ⟨rfl, hb⟩
            have hB8 : Below w.heap.size w w8 := below_thru (by go_grown) hb
            have hs8 : w.heap.size ≤ w8.heap.size := hB8.size
            have x_top8 : Box w8 (w.heap.size) [.int .u64 18446744073709551615, .int .u64 18446744073709551615] := (by refine Box.below ?_ hb; repeat (first | (with_reducible assumption) | (with_reducible refine Box.drew ?_) | (with_reducible refine Box.drewN ?_ _) | ((with_reducible refine Box.new ?_); simp; done) | (with_reducible apply Box.set2) | (with_reducible refine Box.alloc ?_ _) | (with_reducible refine Box.other ?_ (by first | (dsimp only; omega) | omega) _)))
            have z_top8 := x_top8.lt
            have c_top8_0 := x_top8.c 0 _ rfl
            have f_top8_0 := x_top8.f 0 _ rfl
            have c_top8_1 := x_top8.c 1 _ rfl
            have f_top8_1 := x_top8.f 1 _ rfl
            have x_c8 : Box w8 (b3) [.int .u64 18446744073709551615, .int .u64 18446744073709551615] := (by refine Box.below ?_ hb; repeat (first | (with_reducible assumption) | (with_reducible refine Box.drew ?_) | (with_reducible refine Box.drewN ?_ _) | ((with_reducible refine Box.new ?_); simp; done) | (with_reducible apply Box.set2) | (with_reducible refine Box.alloc ?_ _) | (with_reducible refine Box.other ?_ (by first | (dsimp only; omega) | omega) _)))
            have z_c8 := x_c8.lt
            have c_c8_0 := x_c8.c 0 _ rfl
            have f_c8_0 := x_c8.f 0 _ rfl
            have c_c8_1 := x_c8.c 1 _ rfl
            have f_c8_1 := x_c8.f 1 _ rfl
            have x_e8 : Box w8 (w4.heap.size) [.int .u64 0, .int .u64 0] := (by refine Box.below ?_ hb; repeat (first | (with_reducible assumption) | (with_reducible refine Box.drew ?_) | (with_reducible refine Box.drewN ?_ _) | ((with_reducible refine Box.new ?_); simp; done) | (with_reducible apply Box.set2) | (with_reducible refine Box.alloc ?_ _) | (with_reducible refine Box.other ?_ (by first | (dsimp only; omega) | omega) _)))
            have z_e8 := x_e8.lt
            have c_e8_0 := x_e8.c 0 _ rfl
            have f_e8_0 := x_e8.f 0 _ rfl
            have c_e8_1 := x_e8.c 1 _ rfl
            have f_e8_1 := x_e8.f 1 _ rfl
            have x_h8 : Box w8 (w7.heap.size) [.int .u64 0, .int .u64 18446744073709551615] := (by refine Box.below ?_ hb; repeat (first | (with_reducible assumption) | (with_reducible refine Box.drew ?_) | (with_reducible refine Box.drewN ?_ _) | ((with_reducible refine Box.new ?_); simp; done) | (with_reducible apply Box.set2) | (with_reducible refine Box.alloc ?_ _) | (with_reducible refine Box.other ?_ (by first | (dsimp only; omega) | omega) _)))
            have z_h8 := x_h8.lt
            have c_h8_0 := x_h8.c 0 _ rfl
            have f_h8_0 := x_h8.f 0 _ rfl
            have c_h8_1 := x_h8.c 1 _ rfl
            have f_h8_1 := x_h8.f 1 _ rfl
            clear hb hB7 hs7 x_top7 z_top7 c_top7_0 c_top7_1 f_top7_0 f_top7_1 x_c7 z_c7 c_c7_0 c_c7_1 f_c7_0 f_c7_1 x_e7 z_e7 c_e7_0 c_e7_1 f_e7_0 f_e7_1
            go_wp2_with fail
            refine (of_any _ _).mono ?_
            rintro e w9 ⟨rfl, hb⟩
            have hB9 : Below w.heap.size w w9 := below_thru (by go_grown) hb
            have hs9 : w.heap.size ≤ w9.heap.size := hB9.size
            have x_top9 : Box w9 (w.heap.size) [.int .u64 18446744073709551615, .int .u64 18446744073709551615] := (by refine Box.below ?_ hb; repeat (first | (with_reducible assumption) | (with_reducible refine Box.drew ?_) | (with_reducible refine Box.drewN ?_ _) | ((with_reducible refine Box.new ?_); simp; done) | (with_reducible apply Box.set2) | (with_reducible refine Box.alloc ?_ _) | (with_reducible refine Box.other ?_ (by first | (dsimp only; omega) | omega) _)))
            have z_top9 := x_top9.lt
            have c_top9_0 := x_top9.c 0 _ rfl
            have f_top9_0 := x_top9.f 0 _ rfl
            have c_top9_1 := x_top9.c 1 _ rfl
            have f_top9_1 := x_top9.f 1 _ rfl
            have x_c9 : Box w9 (b3) [.int .u64 18446744073709551615, .int .u64 18446744073709551615] := (by refine Box.below ?_ hb; repeat (first | (with_reducible assumption) | (with_reducible refine Box.drew ?_) | (with_reducible refine Box.drewN ?_ _) | ((with_reducible refine Box.new ?_); simp; done) | (with_reducible apply Box.set2) | (with_reducible refine Box.alloc ?_ _) | (with_reducible refine Box.other ?_ (by first | (dsimp only; omega) | omega) _)))
            have z_c9 := x_c9.lt
            have c_c9_0 := x_c9.c 0 _ rfl
            have f_c9_0 := x_c9.f 0 _ rfl
            have c_c9_1 := x_c9.c 1 _ rfl
            have f_c9_1 := x_c9.f 1 _ rfl
            have x_e9 : Box w9 (w4.heap.size) [.int .u64 0, .int .u64 0] := (by refine Box.below ?_ hb; repeat (first | (with_reducible assumption) | (with_reducible refine Box.drew ?_) | (with_reducible refine Box.drewN ?_ _) | ((with_reducible refine Box.new ?_); simp; done) | (with_reducible apply Box.set2) | (with_reducible refine Box.alloc ?_ _) | (with_reducible refine Box.other ?_ (by first | (dsimp only; omega) | omega) _)))
            have z_e9 := x_e9.lt
            have c_e9_0 := x_e9.c 0 _ rfl
            have f_e9_0 := x_e9.f 0 _ rfl
            have c_e9_1 := x_e9.c 1 _ rfl
            have f_e9_1 := x_e9.f 1 _ rfl
            have x_h9 : Box w9 (w7.heap.size) [.int .u64 0, .int .u64 18446744073709551615] := (by refine Box.below ?_ hb; repeat (first | (with_reducible assumption) | (with_reducible refine Box.drew ?_) | (with_reducible refine Box.drewN ?_ _) | ((with_reducible refine Box.new ?_); simp; done) | (with_reducible apply Box.set2) | (with_reducible refine Box.alloc ?_ _) | (with_reducible refine Box.other ?_ (by first | (dsimp only; omega) | omega) _)))
            have z_h9 := x_h9.lt
            have c_h9_0 := x_h9.c 0 _ rfl
            have f_h9_0 := x_h9.f 0 _ rfl
            have c_h9_1 := x_h9.c 1 _ rfl
            have f_h9_1 := x_h9.f 1 _ rfl
            clear hb hB8 hs8 x_top8 z_top8 c_top8_0 c_top8_1 f_top8_0 f_top8_1 x_c8 z_c8 c_c8_0 c_c8_1 f_c8_0 f_c8_1 x_e8 z_e8 c_e8_0 c_e8_1 f_e8_0 f_e8_1 x_h8 z_h8 c_h8_0 c_h8_1 f_h8_0 f_h8_1
            go_wp2_with fail
            refine (small_nm (v := 18446744073709551615) (e := 0) _ (by decide) (by decide)).mono ?_
            rintro e w10 ⟨rfl, hb⟩
            have hB10 : Below w.heap.size w w10 := below_thru (by go_grown) hb
            have hs10 : w.heap.size ≤ w10.heap.size := hB10.size
            have x_top10 : Box w10 (w.heap.size) [.int .u64 18446744073709551615, .int .u64 18446744073709551615] := (by refine Box.below ?_ hb; repeat (first | (with_reducible assumption) | (with_reducible refine Box.drew ?_) | (with_reducible refine Box.drewN ?_ _) | ((with_reducible refine Box.new ?_); simp; done) | (with_reducible apply Box.set2) | (with_reducible refine Box.alloc ?_ _) | (with_reducible refine Box.other ?_ (by first | (dsimp only; omega) | omega) _)))
            have z_top10 := x_top10.lt
            have c_top10_0 := x_top10.c 0 _ rfl
            have f_top10_0 := x_top10.f 0 _ rfl
            have c_top10_1 := x_top10.c 1 _ rfl
            have f_top10_1 := x_top10.f 1 _ rfl
            have x_c10 : Box w10 (b3) [.int .u64 18446744073709551615, .int .u64 18446744073709551615] := (by refine Box.below ?_ hb; repeat (first | (with_reducible assumption) | (with_reducible refine Box.drew ?_) | (with_reducible refine Box.drewN ?_ _) | ((with_reducible refine Box.new ?_); simp; done) | (with_reducible apply Box.set2) | (with_reducible refine Box.alloc ?_ _) | (with_reducible refine Box.other ?_ (by first | (dsimp only; omega) | omega) _)))
            have z_c10 := x_c10.lt
            have c_c10_0 := x_c10.c 0 _ rfl
            have f_c10_0 := x_c10.f 0 _ rfl
            have c_c10_1 := x_c10.c 1 _ rfl
            have f_c10_1 := x_c10.f 1 _ rfl
            have x_e10 : Box w10 (w4.heap.size) [.int .u64 0, .int .u64 0] := (by refine Box.below ?_ hb; repeat (first | (with_reducible assumption) | (with_reducible refine Box.drew ?_) | (with_reducible refine Box.drewN ?_ _) | ((with_reducible refine Box.new ?_); simp; done) | (with_reducible apply Box.set2) | (with_reducible refine Box.alloc ?_ _) | (with_reducible refine Box.other ?_ (by first | (dsimp only; omega) | omega) _)))
            have z_e10 := x_e10.lt
            have c_e10_0 := x_e10.c 0 _ rfl
            have f_e10_0 := x_e10.f 0 _ rfl
            have c_e10_1 := x_e10.c 1 _ rfl
            have f_e10_1 := x_e10.f 1 _ rfl
            have x_h10 : Box w10 (w7.heap.size) [.int .u64 0, .int .u64 18446744073709551615] := (by refine Box.below ?_ hb; repeat (first | (with_reducible assumption) | (with_reducible refine Box.drew ?_) | (with_reducible refine Box.drewN ?_ _) | ((with_reducible refine Box.new ?_); simp; done) | (with_reducible apply Box.set2) | (with_reducible refine Box.alloc ?_ _) | (with_reducible refine Box.other ?_ (by first | (dsimp only; omega) | omega) _)))
            have z_h10 := x_h10.lt
            have c_h10_0 := x_h10.c 0 _ rfl
            have f_h10_0 := x_h10.f 0 _ rfl
            have c_h10_1 := x_h10.c 1 _ rfl
            have f_h10_1 := x_h10.f 1 _ rfl
            clear hb hB9 hs9 x_top9 z_top9 c_top9_0 c_top9_1 f_top9_0 f_top9_1 x_c9 z_c9 c_c9_0 c_c9_1 f_c9_0 f_c9_1 x_e9 z_e9 c_e9_0 c_e9_1 f_e9_0 f_e9_1 x_h9 z_h9 c_h9_0 c_h9_1 f_h9_0 f_h9_1
            go_wp2_with fail
            refine (div_no _ uMax uMax).mono ?_
            rintro e w11 ⟨rfl, hb⟩
            have hB11 : Below w.heap.size w w11 := below_thru (by go_grown) hb
            have hs11 : w.heap.size ≤ w11.heap.size := hB11.size
            have x_top11 : Box w11 (w.heap.size) [.int .u64 18446744073709551615, .int .u64 18446744073709551615] := (by refine Box.below ?_ hb; repeat (first | (with_reducible assumption) | (with_reducible refine Box.drew ?_) | (with_reducible refine Box.drewN ?_ _) | ((with_reducible refine Box.new ?_); simp; done) | (with_reducible apply Box.set2) | (with_reducible refine Box.alloc ?_ _) | (with_reducible refine Box.other ?_ (by first | (dsimp only; omega) | omega) _)))
            have z_top11 := x_top11.lt
            have c_top11_0 := x_top11.c 0 _ rfl
            have f_top11_0 := x_top11.f 0 _ rfl
            have c_top11_1 := x_top11.c 1 _ rfl
            have f_top11_1 := x_top11.f 1 _ rfl
            have x_c11 : Box w11 (b3) [.int .u64 18446744073709551615, .int .u64 18446744073709551615] := (by refine Box.below ?_ hb; repeat (first | (with_reducible assumption) | (with_reducible refine Box.drew ?_) | (with_reducible refine Box.drewN ?_ _) | ((with_reducible refine Box.new ?_); simp; done) | (with_reducible apply Box.set2) | (with_reducible refine Box.alloc ?_ _) | (with_reducible refine Box.other ?_ (by first | (dsimp only; omega) | omega) _)))
            have z_c11 := x_c11.lt
            have c_c11_0 := x_c11.c 0 _ rfl
            have f_c11_0 := x_c11.f 0 _ rfl
            have c_c11_1 := x_c11.c 1 _ rfl
            have f_c11_1 := x_c11.f 1 _ rfl
            have x_e11 : Box w11 (w4.heap.size) [.int .u64 0, .int .u64 0] := (by refine Box.below ?_ hb; repeat (first | (with_reducible assumption) | (with_reducible refine Box.drew ?_) | (with_reducible refine Box.drewN ?_ _) | ((with_reducible refine Box.new ?_); simp; done) | (with_reducible apply Box.set2) | (with_reducible refine Box.alloc ?_ _) | (with_reducible refine Box.other ?_ (by first | (dsimp only; omega) | omega) _)))
            have z_e11 := x_e11.lt
            have c_e11_0 := x_e11.c 0 _ rfl
            have f_e11_0 := x_e11.f 0 _ rfl
            have c_e11_1 := x_e11.c 1 _ rfl
            have f_e11_1 := x_e11.f 1 _ rfl
            have x_h11 : Box w11 (w7.heap.size) [.int .u64 0, .int .u64 18446744073709551615] := (by refine Box.below ?_ hb; repeat (first | (with_reducible assumption) | (with_reducible refine Box.drew ?_) | (with_reducible refine Box.drewN ?_ _) | ((with_reducible refine Box.new ?_); simp; done) | (with_reducible apply Box.set2) | (with_reducible refine Box.alloc ?_ _) | (with_reducible refine Box.other ?_ (by first | (dsimp only; omega) | omega) _)))
            have z_h11 := x_h11.lt
            have c_h11_0 := x_h11.c 0 _ rfl
            have f_h11_0 := x_h11.f 0 _ rfl
            have c_h11_1 := x_h11.c 1 _ rfl
            have f_h11_1 := x_h11.f 1 _ rfl
            clear hb hB10 hs10 x_top10 z_top10 c_top10_0 c_top10_1 f_top10_0 f_top10_1 x_c10 z_c10 c_c10_0 c_c10_1 f_c10_0 f_c10_1 x_e10 z_e10 c_e10_0 c_e10_1 f_e10_0 f_e10_1 x_h10 z_h10 c_h10_0 c_h10_1 f_h10_0 f_h10_1
            go_wp2_with fail
            refine (of_any _ _).mono ?_
            rintro e w12 ⟨rfl, hb⟩
            have hB12 : Below w.heap.size w w12 := below_thru (by go_grown) hb
            have hs12 : w.heap.size ≤ w12.heap.size := hB12.size
            have x_top12 : Box w12 (w.heap.size) [.int .u64 18446744073709551615, .int .u64 18446744073709551615] := (by refine Box.below ?_ hb; repeat (first | (with_reducible assumption) | (with_reducible refine Box.drew ?_) | (with_reducible refine Box.drewN ?_ _) | ((with_reducible refine Box.new ?_); simp; done) | (with_reducible apply Box.set2) | (with_reducible refine Box.alloc ?_ _) | (with_reducible refine Box.other ?_ (by first | (dsimp only; omega) | omega) _)))
            have z_top12 := x_top12.lt
            have c_top12_0 := x_top12.c 0 _ rfl
            have f_top12_0 := x_top12.f 0 _ rfl
            have c_top12_1 := x_top12.c 1 _ rfl
            have f_top12_1 := x_top12.f 1 _ rfl
            have x_c12 : Box w12 (b3) [.int .u64 18446744073709551615, .int .u64 18446744073709551615] := (by refine Box.below ?_ hb; repeat (first | (with_reducible assumption) | (with_reducible refine Box.drew ?_) | (with_reducible refine Box.drewN ?_ _) | ((with_reducible refine Box.new ?_); simp; done) | (with_reducible apply Box.set2) | (with_reducible refine Box.alloc ?_ _) | (with_reducible refine Box.other ?_ (by first | (dsimp only; omega) | omega) _)))
            have z_c12 := x_c12.lt
            have c_c12_0 := x_c12.c 0 _ rfl
            have f_c12_0 := x_c12.f 0 _ rfl
            have c_c12_1 := x_c12.c 1 _ rfl
            have f_c12_1 := x_c12.f 1 _ rfl
            have x_e12 : Box w12 (w4.heap.size) [.int .u64 0, .int .u64 0] := (by refine Box.below ?_ hb; repeat (first | (with_reducible assumption) | (with_reducible refine Box.drew ?_) | (with_reducible refine Box.drewN ?_ _) | ((with_reducible refine Box.new ?_); simp; done) | (with_reducible apply Box.set2) | (with_reducible refine Box.alloc ?_ _) | (with_reducible refine Box.other ?_ (by first | (dsimp only; omega) | omega) _)))
            have z_e12 := x_e12.lt
            have c_e12_0 := x_e12.c 0 _ rfl
            have f_e12_0 := x_e12.f 0 _ rfl
            have c_e12_1 := x_e12.c 1 _ rfl
            have f_e12_1 := x_e12.f 1 _ rfl
            have x_h12 : Box w12 (w7.heap.size) [.int .u64 0, .int .u64 18446744073709551615] := (by refine Box.below ?_ hb; repeat (first | (with_reducible assumption) | (with_reducible refine Box.drew ?_) | (with_reducible refine Box.drewN ?_ _) | ((with_reducible refine Box.new ?_); simp; done) | (with_reducible apply Box.set2) | (with_reducible refine Box.alloc ?_ _) | (with_reducible refine Box.other ?_ (by first | (dsimp only; omega) | omega) _)))
            have z_h12 := x_h12.lt
            have c_h12_0 := x_h12.c 0 _ rfl
            have f_h12_0 := x_h12.f 0 _ rfl
            have c_h12_1 := x_h12.c 1 _ rfl
            have f_h12_1 := x_h12.f 1 _ rfl
            clear hb hB11 hs11 x_top11 z_top11 c_top11_0 c_top11_1 f_top11_0 f_top11_1 x_c11 z_c11 c_c11_0 c_c11_1 f_c11_0 f_c11_1 x_e11 z_e11 c_e11_0 c_e11_1 f_e11_0 f_e11_1 x_h11 z_h11 c_h11_0 c_h11_1 f_h11_0 f_h11_1
            go_wp2_with fail
            refine (up_no _ u0 u0).mono ?_
            rintro e w13 ⟨rfl, hb⟩
            have hB13 : Below w.heap.size w w13 := below_thru (by go_grown) hb
            have hs13 : w.heap.size ≤ w13.heap.size := hB13.size
            have x_top13 : Box w13 (w.heap.size) [.int .u64 18446744073709551615, .int .u64 18446744073709551615] := (by refine Box.below ?_ hb; repeat (first | (with_reducible assumption) | (with_reducible refine Box.drew ?_) | (with_reducible refine Box.drewN ?_ _) | ((with_reducible refine Box.new ?_); simp; done) | (with_reducible apply Box.set2) | (with_reducible refine Box.alloc ?_ _) | (with_reducible refine Box.other ?_ (by first | (dsimp only; omega) | omega) _)))
            have z_top13 := x_top13.lt
            have c_top13_0 := x_top13.c 0 _ rfl
            have f_top13_0 := x_top13.f 0 _ rfl
            have c_top13_1 := x_top13.c 1 _ rfl
            have f_top13_1 := x_top13.f 1 _ rfl
            have x_c13 : Box w13 (b3) [.int .u64 18446744073709551615, .int .u64 18446744073709551615] := (by refine Box.below ?_ hb; repeat (first | (with_reducible assumption) | (with_reducible refine Box.drew ?_) | (with_reducible refine Box.drewN ?_ _) | ((with_reducible refine Box.new ?_); simp; done) | (with_reducible apply Box.set2) | (with_reducible refine Box.alloc ?_ _) | (with_reducible refine Box.other ?_ (by first | (dsimp only; omega) | omega) _)))
            have z_c13 := x_c13.lt
            have c_c13_0 := x_c13.c 0 _ rfl
            have f_c13_0 := x_c13.f 0 _ rfl
            have c_c13_1 := x_c13.c 1 _ rfl
            have f_c13_1 := x_c13.f 1 _ rfl
            have x_e13 : Box w13 (w4.heap.size) [.int .u64 0, .int .u64 0] := (by refine Box.below ?_ hb; repeat (first | (with_reducible assumption) | (with_reducible refine Box.drew ?_) | (with_reducible refine Box.drewN ?_ _) | ((with_reducible refine Box.new ?_); simp; done) | (with_reducible apply Box.set2) | (with_reducible refine Box.alloc ?_ _) | (with_reducible refine Box.other ?_ (by first | (dsimp only; omega) | omega) _)))
            have z_e13 := x_e13.lt
            have c_e13_0 := x_e13.c 0 _ rfl
            have f_e13_0 := x_e13.f 0 _ rfl
            have c_e13_1 := x_e13.c 1 _ rfl
            have f_e13_1 := x_e13.f 1 _ rfl
            have x_h13 : Box w13 (w7.heap.size) [.int .u64 0, .int .u64 18446744073709551615] := (by refine Box.below ?_ hb; repeat (first | (with_reducible assumption) | (with_reducible refine Box.drew ?_) | (with_reducible refine Box.drewN ?_ _) | ((with_reducible refine Box.new ?_); simp; done) | (with_reducible apply Box.set2) | (with_reducible refine Box.alloc ?_ _) | (with_reducible refine Box.other ?_ (by first | (dsimp only; omega) | omega) _)))
            have z_h13 := x_h13.lt
            have c_h13_0 := x_h13.c 0 _ rfl
            have f_h13_0 := x_h13.f 0 _ rfl
            have c_h13_1 := x_h13.c 1 _ rfl
            have f_h13_1 := x_h13.f 1 _ rfl
            clear hb hB12 hs12 x_top12 z_top12 c_top12_0 c_top12_1 f_top12_0 f_top12_1 x_c12 z_c12 c_c12_0 c_c12_1 f_c12_0 f_c12_1 x_e12 z_e12 c_e12_0 c_e12_1 f_e12_0 f_e12_1 x_h12 z_h12 c_h12_0 c_h12_1 f_h12_0 f_h12_1
            as_aux_lemma =>
              go_wp2_with fail
              refine (div_ok (h := 18446744073709551615) (l := 18446744073709551615) (r := 0) _ uMax uMax u1 (by decide) uMax (by decide) (by decide)).mono ?_
              rintro e w14 ⟨rfl, hb⟩
              have hB14 : Below w.heap.size w w14 := below_thru (by go_grown) hb
              have hs14 : w.heap.size ≤ w14.heap.size := hB14.size
              have x_top14 : Box w14 (w.heap.size) [.int .u64 18446744073709551615, .int .u64 18446744073709551615] := (by refine Box.below ?_ hb; repeat (first | (with_reducible assumption) | (with_reducible refine Box.drew ?_) | (with_reducible refine Box.drewN ?_ _) | ((with_reducible refine Box.new ?_); simp; done) | (with_reducible apply Box.set2) | (with_reducible refine Box.alloc ?_ _) | (with_reducible refine Box.other ?_ (by first | (dsimp only; omega) | omega) _)))
              have z_top14 := x_top14.lt
              have c_top14_0 := x_top14.c 0 _ rfl
              have f_top14_0 := x_top14.f 0 _ rfl
              have c_top14_1 := x_top14.c 1 _ rfl
              have f_top14_1 := x_top14.f 1 _ rfl
              have x_c14 : Box w14 (b3) [.int .u64 18446744073709551615, .int .u64 18446744073709551615] := (by refine Box.below ?_ hb; repeat (first | (with_reducible assumption) | (with_reducible refine Box.drew ?_) | (with_reducible refine Box.drewN ?_ _) | ((with_reducible refine Box.new ?_); simp; done) | (with_reducible apply Box.set2) | (with_reducible refine Box.alloc ?_ _) | (with_reducible refine Box.other ?_ (by first | (dsimp only; omega) | omega) _)))
              have z_c14 := x_c14.lt
              have c_c14_0 := x_c14.c 0 _ rfl
              have f_c14_0 := x_c14.f 0 _ rfl
              have c_c14_1 := x_c14.c 1 _ rfl
              have f_c14_1 := x_c14.f 1 _ rfl
              have x_e14 : Box w14 (w4.heap.size) [.int .u64 0, .int .u64 0] := (by refine Box.below ?_ hb; repeat (first | (with_reducible assumption) | (with_reducible refine Box.drew ?_) | (with_reducible refine Box.drewN ?_ _) | ((with_reducible refine Box.new ?_); simp; done) | (with_reducible apply Box.set2) | (with_reducible refine Box.alloc ?_ _) | (with_reducible refine Box.other ?_ (by first | (dsimp only; omega) | omega) _)))
              have z_e14 := x_e14.lt
              have c_e14_0 := x_e14.c 0 _ rfl
              have f_e14_0 := x_e14.f 0 _ rfl
              have c_e14_1 := x_e14.c 1 _ rfl
              have f_e14_1 := x_e14.f 1 _ rfl
              have x_h14 : Box w14 (w7.heap.size) [.int .u64 0, .int .u64 18446744073709551615] := (by refine Box.below ?_ hb; repeat (first | (with_reducible assumption) | (with_reducible refine Box.drew ?_) | (with_reducible refine Box.drewN ?_ _) | ((with_reducible refine Box.new ?_); simp; done) | (with_reducible apply Box.set2) | (with_reducible refine Box.alloc ?_ _) | (with_reducible refine Box.other ?_ (by first | (dsimp only; omega) | omega) _)))
              have z_h14 := x_h14.lt
              have c_h14_0 := x_h14.c 0 _ rfl
              have f_h14_0 := x_h14.f 0 _ rfl
              have c_h14_1 := x_h14.c 1 _ rfl
              have f_h14_1 := x_h14.f 1 _ rfl
              clear hb hB13 hs13 x_top13 z_top13 c_top13_0 c_top13_1 f_top13_0 f_top13_1 x_c13 z_c13 c_c13_0 c_c13_1 f_c13_0 f_c13_1 x_e13 z_e13 c_e13_0 c_e13_1 f_e13_0 f_e13_1 x_h13 z_h13 c_h13_0 c_h13_1 f_h13_0 f_h13_1
              go_wp2_with fail
              refine (div_ok (h := 1) (l := 1) (r := 0) _ uMax uMax uMax (by decide) u1 (by decide) (by decide)).mono ?_
              rintro e w15 ⟨rfl, hb⟩
              have hB15 : Below w.heap.size w w15 := below_thru (by go_grown) hb
              have hs15 : w.heap.size ≤ w15.heap.size := hB15.size
              have x_top15 : Box w15 (w.heap.size) [.int .u64 18446744073709551615, .int .u64 18446744073709551615] := (by refine Box.below ?_ hb; repeat (first | (with_reducible assumption) | (with_reducible refine Box.drew ?_) | (with_reducible refine Box.drewN ?_ _) | ((with_reducible refine Box.new ?_); simp; done) | (with_reducible apply Box.set2) | (with_reducible refine Box.alloc ?_ _) | (with_reducible refine Box.other ?_ (by first | (dsimp only; omega) | omega) _)))
              have z_top15 := x_top15.lt
              have c_top15_0 := x_top15.c 0 _ rfl
              have f_top15_0 := x_top15.f 0 _ rfl
              have c_top15_1 := x_top15.c 1 _ rfl
              have f_top15_1 := x_top15.f 1 _ rfl
              have x_c15 : Box w15 (b3) [.int .u64 18446744073709551615, .int .u64 18446744073709551615] := (by refine Box.below ?_ hb; repeat (first | (with_reducible assumption) | (with_reducible refine Box.drew ?_) | (with_reducible refine Box.drewN ?_ _) | ((with_reducible refine Box.new ?_); simp; done) | (with_reducible apply Box.set2) | (with_reducible refine Box.alloc ?_ _) | (with_reducible refine Box.other ?_ (by first | (dsimp only; omega) | omega) _)))
              have z_c15 := x_c15.lt
              have c_c15_0 := x_c15.c 0 _ rfl
              have f_c15_0 := x_c15.f 0 _ rfl
              have c_c15_1 := x_c15.c 1 _ rfl
              have f_c15_1 := x_c15.f 1 _ rfl
              have x_e15 : Box w15 (w4.heap.size) [.int .u64 0, .int .u64 0] := (by refine Box.below ?_ hb; repeat (first | (with_reducible assumption) | (with_reducible refine Box.drew ?_) | (with_reducible refine Box.drewN ?_ _) | ((with_reducible refine Box.new ?_); simp; done) | (with_reducible apply Box.set2) | (with_reducible refine Box.alloc ?_ _) | (with_reducible refine Box.other ?_ (by first | (dsimp only; omega) | omega) _)))
              have z_e15 := x_e15.lt
              have c_e15_0 := x_e15.c 0 _ rfl
              have f_e15_0 := x_e15.f 0 _ rfl
              have c_e15_1 := x_e15.c 1 _ rfl
              have f_e15_1 := x_e15.f 1 _ rfl
              have x_h15 : Box w15 (w7.heap.size) [.int .u64 0, .int .u64 18446744073709551615] := (by refine Box.below ?_ hb; repeat (first | (with_reducible assumption) | (with_reducible refine Box.drew ?_) | (with_reducible refine Box.drewN ?_ _) | ((with_reducible refine Box.new ?_); simp; done) | (with_reducible apply Box.set2) | (with_reducible refine Box.alloc ?_ _) | (with_reducible refine Box.other ?_ (by first | (dsimp only; omega) | omega) _)))
              have z_h15 := x_h15.lt
              have c_h15_0 := x_h15.c 0 _ rfl
              have f_h15_0 := x_h15.f 0 _ rfl
              have c_h15_1 := x_h15.c 1 _ rfl
              have f_h15_1 := x_h15.f 1 _ rfl
              have x_o15 : Box w15 (w14.heap.size) [.int .u64 18446744073709551615, .int .u64 18446744073709551615] := (by refine Box.below ?_ hb; repeat (first | (with_reducible assumption) | (with_reducible refine Box.drew ?_) | (with_reducible refine Box.drewN ?_ _) | ((with_reducible refine Box.new ?_); simp; done) | (with_reducible apply Box.set2) | (with_reducible refine Box.alloc ?_ _) | (with_reducible refine Box.other ?_ (by first | (dsimp only; omega) | omega) _)))
              have z_o15 := x_o15.lt
              have c_o15_0 := x_o15.c 0 _ rfl
              have f_o15_0 := x_o15.f 0 _ rfl
              have c_o15_1 := x_o15.c 1 _ rfl
              have f_o15_1 := x_o15.f 1 _ rfl
              clear hb hB14 hs14 x_top14 z_top14 c_top14_0 c_top14_1 f_top14_0 f_top14_1 x_c14 z_c14 c_c14_0 c_c14_1 f_c14_0 f_c14_1 x_e14 z_e14 c_e14_0 c_e14_1 f_e14_0 f_e14_1 x_h14 z_h14 c_h14_0 c_h14_1 f_h14_0 f_h14_1
              go_wp2_with fail
              refine (up_ok (h := 1) (l := 1) _ uMax uMax uMax (by decide) u1 (by decide)).mono ?_
              rintro e w16 ⟨rfl, hb⟩
              have hB16 : Below w.heap.size w w16 := below_thru (by go_grown) hb
              have hs16 : w.heap.size ≤ w16.heap.size := hB16.size
              have x_top16 : Box w16 (w.heap.size) [.int .u64 18446744073709551615, .int .u64 18446744073709551615] := (by refine Box.below ?_ hb; repeat (first | (with_reducible assumption) | (with_reducible refine Box.drew ?_) | (with_reducible refine Box.drewN ?_ _) | ((with_reducible refine Box.new ?_); simp; done) | (with_reducible apply Box.set2) | (with_reducible refine Box.alloc ?_ _) | (with_reducible refine Box.other ?_ (by first | (dsimp only; omega) | omega) _)))
              have z_top16 := x_top16.lt
              have c_top16_0 := x_top16.c 0 _ rfl
              have f_top16_0 := x_top16.f 0 _ rfl
              have c_top16_1 := x_top16.c 1 _ rfl
              have f_top16_1 := x_top16.f 1 _ rfl
              have x_c16 : Box w16 (b3) [.int .u64 18446744073709551615, .int .u64 18446744073709551615] := (by refine Box.below ?_ hb; repeat (first | (with_reducible assumption) | (with_reducible refine Box.drew ?_) | (with_reducible refine Box.drewN ?_ _) | ((with_reducible refine Box.new ?_); simp; done) | (with_reducible apply Box.set2) | (with_reducible refine Box.alloc ?_ _) | (with_reducible refine Box.other ?_ (by first | (dsimp only; omega) | omega) _)))
              have z_c16 := x_c16.lt
              have c_c16_0 := x_c16.c 0 _ rfl
              have f_c16_0 := x_c16.f 0 _ rfl
              have c_c16_1 := x_c16.c 1 _ rfl
              have f_c16_1 := x_c16.f 1 _ rfl
              have x_e16 : Box w16 (w4.heap.size) [.int .u64 0, .int .u64 0] := (by refine Box.below ?_ hb; repeat (first | (with_reducible assumption) | (with_reducible refine Box.drew ?_) | (with_reducible refine Box.drewN ?_ _) | ((with_reducible refine Box.new ?_); simp; done) | (with_reducible apply Box.set2) | (with_reducible refine Box.alloc ?_ _) | (with_reducible refine Box.other ?_ (by first | (dsimp only; omega) | omega) _)))
              have z_e16 := x_e16.lt
              have c_e16_0 := x_e16.c 0 _ rfl
              have f_e16_0 := x_e16.f 0 _ rfl
              have c_e16_1 := x_e16.c 1 _ rfl
              have f_e16_1 := x_e16.f 1 _ rfl
              have x_h16 : Box w16 (w7.heap.size) [.int .u64 0, .int .u64 18446744073709551615] := (by refine Box.below ?_ hb; repeat (first | (with_reducible assumption) | (with_reducible refine Box.drew ?_) | (with_reducible refine Box.drewN ?_ _) | ((with_reducible refine Box.new ?_); simp; done) | (with_reducible apply Box.set2) | (with_reducible refine Box.alloc ?_ _) | (with_reducible refine Box.other ?_ (by first | (dsimp only; omega) | omega) _)))
              have z_h16 := x_h16.lt
              have c_h16_0 := x_h16.c 0 _ rfl
              have f_h16_0 := x_h16.f 0 _ rfl
              have c_h16_1 := x_h16.c 1 _ rfl
              have f_h16_1 := x_h16.f 1 _ rfl
              have x_o16 : Box w16 (w14.heap.size) [.int .u64 18446744073709551615, .int .u64 18446744073709551615] := (by refine Box.below ?_ hb; repeat (first | (with_reducible assumption) | (with_reducible refine Box.drew ?_) | (with_reducible refine Box.drewN ?_ _) | ((with_reducible refine Box.new ?_); simp; done) | (with_reducible apply Box.set2) | (with_reducible refine Box.alloc ?_ _) | (with_reducible refine Box.other ?_ (by first | (dsimp only; omega) | omega) _)))
              have z_o16 := x_o16.lt
              have c_o16_0 := x_o16.c 0 _ rfl
              have f_o16_0 := x_o16.f 0 _ rfl
              have c_o16_1 := x_o16.c 1 _ rfl
              have f_o16_1 := x_o16.f 1 _ rfl
              have x_r16 : Box w16 (w15.heap.size) [.int .u64 1, .int .u64 1] := (by refine Box.below ?_ hb; repeat (first | (with_reducible assumption) | (with_reducible refine Box.drew ?_) | (with_reducible refine Box.drewN ?_ _) | ((with_reducible refine Box.new ?_); simp; done) | (with_reducible apply Box.set2) | (with_reducible refine Box.alloc ?_ _) | (with_reducible refine Box.other ?_ (by first | (dsimp only; omega) | omega) _)))
              have z_r16 := x_r16.lt
              have c_r16_0 := x_r16.c 0 _ rfl
              have f_r16_0 := x_r16.f 0 _ rfl
              have c_r16_1 := x_r16.c 1 _ rfl
              have f_r16_1 := x_r16.f 1 _ rfl
              clear hb hB15 hs15 x_top15 z_top15 c_top15_0 c_top15_1 f_top15_0 f_top15_1 x_c15 z_c15 c_c15_0 c_c15_1 f_c15_0 f_c15_1 x_e15 z_e15 c_e15_0 c_e15_1 f_e15_0 f_e15_1 x_h15 z_h15 c_h15_0 c_h15_1 f_h15_0 f_h15_1 x_o15 z_o15 c_o15_0 c_o15_1 f_o15_0 f_o15_1
              as_aux_lemma =>
                go_wp2_with fail
                refine (up_ok (h := 9223372036854775808) (l := 0) _ uMax uMax un2 (by decide) u0 (by decide)).mono ?_
                rintro e w17 ⟨rfl, hb⟩
                have hB17 : Below w.heap.size w w17 := below_thru (by go_grown) hb
                have hs17 : w.heap.size ≤ w17.heap.size := hB17.size
                have x_top17 : Box w17 (w.heap.size) [.int .u64 18446744073709551615, .int .u64 18446744073709551615] := (by refine Box.below ?_ hb; repeat (first | (with_reducible assumption) | (with_reducible refine Box.drew ?_) | (with_reducible refine Box.drewN ?_ _) | ((with_reducible refine Box.new ?_); simp; done) | (with_reducible apply Box.set2) | (with_reducible refine Box.alloc ?_ _) | (with_reducible refine Box.other ?_ (by first | (dsimp only; omega) | omega) _)))
                have z_top17 := x_top17.lt
                have c_top17_0 := x_top17.c 0 _ rfl
                have f_top17_0 := x_top17.f 0 _ rfl
                have c_top17_1 := x_top17.c 1 _ rfl
                have f_top17_1 := x_top17.f 1 _ rfl
                have x_c17 : Box w17 (b3) [.int .u64 18446744073709551615, .int .u64 18446744073709551615] := (by refine Box.below ?_ hb; repeat (first | (with_reducible assumption) | (with_reducible refine Box.drew ?_) | (with_reducible refine Box.drewN ?_ _) | ((with_reducible refine Box.new ?_); simp; done) | (with_reducible apply Box.set2) | (with_reducible refine Box.alloc ?_ _) | (with_reducible refine Box.other ?_ (by first | (dsimp only; omega) | omega) _)))
                have z_c17 := x_c17.lt
                have c_c17_0 := x_c17.c 0 _ rfl
                have f_c17_0 := x_c17.f 0 _ rfl
                have c_c17_1 := x_c17.c 1 _ rfl
                have f_c17_1 := x_c17.f 1 _ rfl
                have x_e17 : Box w17 (w4.heap.size) [.int .u64 0, .int .u64 0] := (by refine Box.below ?_ hb; repeat (first | (with_reducible assumption) | (with_reducible refine Box.drew ?_) | (with_reducible refine Box.drewN ?_ _) | ((with_reducible refine Box.new ?_); simp; done) | (with_reducible apply Box.set2) | (with_reducible refine Box.alloc ?_ _) | (with_reducible refine Box.other ?_ (by first | (dsimp only; omega) | omega) _)))
                have z_e17 := x_e17.lt
                have c_e17_0 := x_e17.c 0 _ rfl
                have f_e17_0 := x_e17.f 0 _ rfl
                have c_e17_1 := x_e17.c 1 _ rfl
                have f_e17_1 := x_e17.f 1 _ rfl
                have x_h17 : Box w17 (w7.heap.size) [.int .u64 0, .int .u64 18446744073709551615] := (by refine Box.below ?_ hb; repeat (first | (with_reducible assumption) | (with_reducible refine Box.drew ?_) | (with_reducible refine Box.drewN ?_ _) | ((with_reducible refine Box.new ?_); simp; done) | (with_reducible apply Box.set2) | (with_reducible refine Box.alloc ?_ _) | (with_reducible refine Box.other ?_ (by first | (dsimp only; omega) | omega) _)))
                have z_h17 := x_h17.lt
                have c_h17_0 := x_h17.c 0 _ rfl
                have f_h17_0 := x_h17.f 0 _ rfl
                have c_h17_1 := x_h17.c 1 _ rfl
                have f_h17_1 := x_h17.f 1 _ rfl
                have x_o17 : Box w17 (w14.heap.size) [.int .u64 18446744073709551615, .int .u64 18446744073709551615] := (by refine Box.below ?_ hb; repeat (first | (with_reducible assumption) | (with_reducible refine Box.drew ?_) | (with_reducible refine Box.drewN ?_ _) | ((with_reducible refine Box.new ?_); simp; done) | (with_reducible apply Box.set2) | (with_reducible refine Box.alloc ?_ _) | (with_reducible refine Box.other ?_ (by first | (dsimp only; omega) | omega) _)))
                have z_o17 := x_o17.lt
                have c_o17_0 := x_o17.c 0 _ rfl
                have f_o17_0 := x_o17.f 0 _ rfl
                have c_o17_1 := x_o17.c 1 _ rfl
                have f_o17_1 := x_o17.f 1 _ rfl
                have x_r17 : Box w17 (w15.heap.size) [.int .u64 1, .int .u64 1] := (by refine Box.below ?_ hb; repeat (first | (with_reducible assumption) | (with_reducible refine Box.drew ?_) | (with_reducible refine Box.drewN ?_ _) | ((with_reducible refine Box.new ?_); simp; done) | (with_reducible apply Box.set2) | (with_reducible refine Box.alloc ?_ _) | (with_reducible refine Box.other ?_ (by first | (dsimp only; omega) | omega) _)))
                have z_r17 := x_r17.lt
                have c_r17_0 := x_r17.c 0 _ rfl
                have f_r17_0 := x_r17.f 0 _ rfl
                have c_r17_1 := x_r17.c 1 _ rfl
                have f_r17_1 := x_r17.f 1 _ rfl
                have x_u17 : Box w17 (w16.heap.size) [.int .u64 1, .int .u64 1] := (by refine Box.below ?_ hb; repeat (first | (with_reducible assumption) | (with_reducible refine Box.drew ?_) | (with_reducible refine Box.drewN ?_ _) | ((with_reducible refine Box.new ?_); simp; done) | (with_reducible apply Box.set2) | (with_reducible refine Box.alloc ?_ _) | (with_reducible refine Box.other ?_ (by first | (dsimp only; omega) | omega) _)))
                have z_u17 := x_u17.lt
                have c_u17_0 := x_u17.c 0 _ rfl
                have f_u17_0 := x_u17.f 0 _ rfl
                have c_u17_1 := x_u17.c 1 _ rfl
                have f_u17_1 := x_u17.f 1 _ rfl
                clear hb hB16 hs16 x_top16 z_top16 c_top16_0 c_top16_1 f_top16_0 f_top16_1 x_c16 z_c16 c_c16_0 c_c16_1 f_c16_0 f_c16_1 x_e16 z_e16 c_e16_0 c_e16_1 f_e16_0 f_e16_1 x_h16 z_h16 c_h16_0 c_h16_1 f_h16_0 f_h16_1 x_o16 z_o16 c_o16_0 c_o16_1 f_o16_0 f_o16_1 x_r16 z_r16 c_r16_0 c_r16_1 f_r16_0 f_r16_1
                go_wp2_with fail
                refine (of_any _ _).mono ?_
                rintro e w18 ⟨rfl, hb⟩
                have hB18 : Below w.heap.size w w18 := below_thru (by go_grown) hb
                have hs18 : w.heap.size ≤ w18.heap.size := hB18.size
                have x_top18 : Box w18 (w.heap.size) [.int .u64 18446744073709551615, .int .u64 18446744073709551615] := (by refine Box.below ?_ hb; repeat (first | (with_reducible assumption) | (with_reducible refine Box.drew ?_) | (with_reducible refine Box.drewN ?_ _) | ((with_reducible refine Box.new ?_); simp; done) | (with_reducible apply Box.set2) | (with_reducible refine Box.alloc ?_ _) | (with_reducible refine Box.other ?_ (by first | (dsimp only; omega) | omega) _)))
                have z_top18 := x_top18.lt
                have c_top18_0 := x_top18.c 0 _ rfl
                have f_top18_0 := x_top18.f 0 _ rfl
                have c_top18_1 := x_top18.c 1 _ rfl
                have f_top18_1 := x_top18.f 1 _ rfl
                have x_c18 : Box w18 (b3) [.int .u64 18446744073709551615, .int .u64 18446744073709551615] := (by refine Box.below ?_ hb; repeat (first | (with_reducible assumption) | (with_reducible refine Box.drew ?_) | (with_reducible refine Box.drewN ?_ _) | ((with_reducible refine Box.new ?_); simp; done) | (with_reducible apply Box.set2) | (with_reducible refine Box.alloc ?_ _) | (with_reducible refine Box.other ?_ (by first | (dsimp only; omega) | omega) _)))
                have z_c18 := x_c18.lt
                have c_c18_0 := x_c18.c 0 _ rfl
                have f_c18_0 := x_c18.f 0 _ rfl
                have c_c18_1 := x_c18.c 1 _ rfl
                have f_c18_1 := x_c18.f 1 _ rfl
                have x_e18 : Box w18 (w4.heap.size) [.int .u64 0, .int .u64 0] := (by refine Box.below ?_ hb; repeat (first | (with_reducible assumption) | (with_reducible refine Box.drew ?_) | (with_reducible refine Box.drewN ?_ _) | ((with_reducible refine Box.new ?_); simp; done) | (with_reducible apply Box.set2) | (with_reducible refine Box.alloc ?_ _) | (with_reducible refine Box.other ?_ (by first | (dsimp only; omega) | omega) _)))
                have z_e18 := x_e18.lt
                have c_e18_0 := x_e18.c 0 _ rfl
                have f_e18_0 := x_e18.f 0 _ rfl
                have c_e18_1 := x_e18.c 1 _ rfl
                have f_e18_1 := x_e18.f 1 _ rfl
                have x_h18 : Box w18 (w7.heap.size) [.int .u64 0, .int .u64 18446744073709551615] := (by refine Box.below ?_ hb; repeat (first | (with_reducible assumption) | (with_reducible refine Box.drew ?_) | (with_reducible refine Box.drewN ?_ _) | ((with_reducible refine Box.new ?_); simp; done) | (with_reducible apply Box.set2) | (with_reducible refine Box.alloc ?_ _) | (with_reducible refine Box.other ?_ (by first | (dsimp only; omega) | omega) _)))
                have z_h18 := x_h18.lt
                have c_h18_0 := x_h18.c 0 _ rfl
                have f_h18_0 := x_h18.f 0 _ rfl
                have c_h18_1 := x_h18.c 1 _ rfl
                have f_h18_1 := x_h18.f 1 _ rfl
                have x_o18 : Box w18 (w14.heap.size) [.int .u64 18446744073709551615, .int .u64 18446744073709551615] := (by refine Box.below ?_ hb; repeat (first | (with_reducible assumption) | (with_reducible refine Box.drew ?_) | (with_reducible refine Box.drewN ?_ _) | ((with_reducible refine Box.new ?_); simp; done) | (with_reducible apply Box.set2) | (with_reducible refine Box.alloc ?_ _) | (with_reducible refine Box.other ?_ (by first | (dsimp only; omega) | omega) _)))
                have z_o18 := x_o18.lt
                have c_o18_0 := x_o18.c 0 _ rfl
                have f_o18_0 := x_o18.f 0 _ rfl
                have c_o18_1 := x_o18.c 1 _ rfl
                have f_o18_1 := x_o18.f 1 _ rfl
                have x_r18 : Box w18 (w15.heap.size) [.int .u64 1, .int .u64 1] := (by refine Box.below ?_ hb; repeat (first | (with_reducible assumption) | (with_reducible refine Box.drew ?_) | (with_reducible refine Box.drewN ?_ _) | ((with_reducible refine Box.new ?_); simp; done) | (with_reducible apply Box.set2) | (with_reducible refine Box.alloc ?_ _) | (with_reducible refine Box.other ?_ (by first | (dsimp only; omega) | omega) _)))
                have z_r18 := x_r18.lt
                have c_r18_0 := x_r18.c 0 _ rfl
                have f_r18_0 := x_r18.f 0 _ rfl
                have c_r18_1 := x_r18.c 1 _ rfl
                have f_r18_1 := x_r18.f 1 _ rfl
                have x_u18 : Box w18 (w16.heap.size) [.int .u64 1, .int .u64 1] := (by refine Box.below ?_ hb; repeat (first | (with_reducible assumption) | (with_reducible refine Box.drew ?_) | (with_reducible refine Box.drewN ?_ _) | ((with_reducible refine Box.new ?_); simp; done) | (with_reducible apply Box.set2) | (with_reducible refine Box.alloc ?_ _) | (with_reducible refine Box.other ?_ (by first | (dsimp only; omega) | omega) _)))
                have z_u18 := x_u18.lt
                have c_u18_0 := x_u18.c 0 _ rfl
                have f_u18_0 := x_u18.f 0 _ rfl
                have c_u18_1 := x_u18.c 1 _ rfl
                have f_u18_1 := x_u18.f 1 _ rfl
                have x_x18 : Box w18 (w17.heap.size) [.int .u64 9223372036854775808, .int .u64 0] := (by refine Box.below ?_ hb; repeat (first | (with_reducible assumption) | (with_reducible refine Box.drew ?_) | (with_reducible refine Box.drewN ?_ _) | ((with_reducible refine Box.new ?_); simp; done) | (with_reducible apply Box.set2) | (with_reducible refine Box.alloc ?_ _) | (with_reducible refine Box.other ?_ (by first | (dsimp only; omega) | omega) _)))
                have z_x18 := x_x18.lt
                have c_x18_0 := x_x18.c 0 _ rfl
                have f_x18_0 := x_x18.f 0 _ rfl
                have c_x18_1 := x_x18.c 1 _ rfl
                have f_x18_1 := x_x18.f 1 _ rfl
                clear hb hB17 hs17 x_top17 z_top17 c_top17_0 c_top17_1 f_top17_0 f_top17_1 x_c17 z_c17 c_c17_0 c_c17_1 f_c17_0 f_c17_1 x_e17 z_e17 c_e17_0 c_e17_1 f_e17_0 f_e17_1 x_h17 z_h17 c_h17_0 c_h17_1 f_h17_0 f_h17_1 x_o17 z_o17 c_o17_0 c_o17_1 f_o17_0 f_o17_1 x_r17 z_r17 c_r17_0 c_r17_1 f_r17_0 f_r17_1 x_u17 z_u17 c_u17_0 c_u17_1 f_u17_0 f_u17_1
                go_wp2_with fail
                refine (up_ok (h := 0) (l := 0) _ u0 u0 un7 (by decide) u0 (by decide)).mono ?_
                rintro e w19 ⟨rfl, hb⟩
                have hB19 : Below w.heap.size w w19 := below_thru (by go_grown) hb
                have hs19 : w.heap.size ≤ w19.heap.size := hB19.size
                have x_top19 : Box w19 (w.heap.size) [.int .u64 18446744073709551615, .int .u64 18446744073709551615] := (by refine Box.below ?_ hb; repeat (first | (with_reducible assumption) | (with_reducible refine Box.drew ?_) | (with_reducible refine Box.drewN ?_ _) | ((with_reducible refine Box.new ?_); simp; done) | (with_reducible apply Box.set2) | (with_reducible refine Box.alloc ?_ _) | (with_reducible refine Box.other ?_ (by first | (dsimp only; omega) | omega) _)))
                have z_top19 := x_top19.lt
                have c_top19_0 := x_top19.c 0 _ rfl
                have f_top19_0 := x_top19.f 0 _ rfl
                have c_top19_1 := x_top19.c 1 _ rfl
                have f_top19_1 := x_top19.f 1 _ rfl
                have x_c19 : Box w19 (b3) [.int .u64 18446744073709551615, .int .u64 18446744073709551615] := (by refine Box.below ?_ hb; repeat (first | (with_reducible assumption) | (with_reducible refine Box.drew ?_) | (with_reducible refine Box.drewN ?_ _) | ((with_reducible refine Box.new ?_); simp; done) | (with_reducible apply Box.set2) | (with_reducible refine Box.alloc ?_ _) | (with_reducible refine Box.other ?_ (by first | (dsimp only; omega) | omega) _)))
                have z_c19 := x_c19.lt
                have c_c19_0 := x_c19.c 0 _ rfl
                have f_c19_0 := x_c19.f 0 _ rfl
                have c_c19_1 := x_c19.c 1 _ rfl
                have f_c19_1 := x_c19.f 1 _ rfl
                have x_e19 : Box w19 (w4.heap.size) [.int .u64 0, .int .u64 0] := (by refine Box.below ?_ hb; repeat (first | (with_reducible assumption) | (with_reducible refine Box.drew ?_) | (with_reducible refine Box.drewN ?_ _) | ((with_reducible refine Box.new ?_); simp; done) | (with_reducible apply Box.set2) | (with_reducible refine Box.alloc ?_ _) | (with_reducible refine Box.other ?_ (by first | (dsimp only; omega) | omega) _)))
                have z_e19 := x_e19.lt
                have c_e19_0 := x_e19.c 0 _ rfl
                have f_e19_0 := x_e19.f 0 _ rfl
                have c_e19_1 := x_e19.c 1 _ rfl
                have f_e19_1 := x_e19.f 1 _ rfl
                have x_h19 : Box w19 (w7.heap.size) [.int .u64 0, .int .u64 18446744073709551615] := (by refine Box.below ?_ hb; repeat (first | (with_reducible assumption) | (with_reducible refine Box.drew ?_) | (with_reducible refine Box.drewN ?_ _) | ((with_reducible refine Box.new ?_); simp; done) | (with_reducible apply Box.set2) | (with_reducible refine Box.alloc ?_ _) | (with_reducible refine Box.other ?_ (by first | (dsimp only; omega) | omega) _)))
                have z_h19 := x_h19.lt
                have c_h19_0 := x_h19.c 0 _ rfl
                have f_h19_0 := x_h19.f 0 _ rfl
                have c_h19_1 := x_h19.c 1 _ rfl
                have f_h19_1 := x_h19.f 1 _ rfl
                have x_o19 : Box w19 (w14.heap.size) [.int .u64 18446744073709551615, .int .u64 18446744073709551615] := (by refine Box.below ?_ hb; repeat (first | (with_reducible assumption) | (with_reducible refine Box.drew ?_) | (with_reducible refine Box.drewN ?_ _) | ((with_reducible refine Box.new ?_); simp; done) | (with_reducible apply Box.set2) | (with_reducible refine Box.alloc ?_ _) | (with_reducible refine Box.other ?_ (by first | (dsimp only; omega) | omega) _)))
                have z_o19 := x_o19.lt
                have c_o19_0 := x_o19.c 0 _ rfl
                have f_o19_0 := x_o19.f 0 _ rfl
                have c_o19_1 := x_o19.c 1 _ rfl
                have f_o19_1 := x_o19.f 1 _ rfl
                have x_r19 : Box w19 (w15.heap.size) [.int .u64 1, .int .u64 1] := (by refine Box.below ?_ hb; repeat (first | (with_reducible assumption) | (with_reducible refine Box.drew ?_) | (with_reducible refine Box.drewN ?_ _) | ((with_reducible refine Box.new ?_); simp; done) | (with_reducible apply Box.set2) | (with_reducible refine Box.alloc ?_ _) | (with_reducible refine Box.other ?_ (by first | (dsimp only; omega) | omega) _)))
                have z_r19 := x_r19.lt
                have c_r19_0 := x_r19.c 0 _ rfl
                have f_r19_0 := x_r19.f 0 _ rfl
                have c_r19_1 := x_r19.c 1 _ rfl
                have f_r19_1 := x_r19.f 1 _ rfl
                have x_u19 : Box w19 (w16.heap.size) [.int .u64 1, .int .u64 1] := (by refine Box.below ?_ hb; repeat (first | (with_reducible assumption) | (with_reducible refine Box.drew ?_) | (with_reducible refine Box.drewN ?_ _) | ((with_reducible refine Box.new ?_); simp; done) | (with_reducible apply Box.set2) | (with_reducible refine Box.alloc ?_ _) | (with_reducible refine Box.other ?_ (by first | (dsimp only; omega) | omega) _)))
                have z_u19 := x_u19.lt
                have c_u19_0 := x_u19.c 0 _ rfl
                have f_u19_0 := x_u19.f 0 _ rfl
                have c_u19_1 := x_u19.c 1 _ rfl
                have f_u19_1 := x_u19.f 1 _ rfl
                have x_x19 : Box w19 (w17.heap.size) [.int .u64 9223372036854775808, .int .u64 0] := (by refine Box.below ?_ hb; repeat (first | (with_reducible assumption) | (with_reducible refine Box.drew ?_) | (with_reducible refine Box.drewN ?_ _) | ((with_reducible refine Box.new ?_); simp; done) | (with_reducible apply Box.set2) | (with_reducible refine Box.alloc ?_ _) | (with_reducible refine Box.other ?_ (by first | (dsimp only; omega) | omega) _)))
                have z_x19 := x_x19.lt
                have c_x19_0 := x_x19.c 0 _ rfl
                have f_x19_0 := x_x19.f 0 _ rfl
                have c_x19_1 := x_x19.c 1 _ rfl
                have f_x19_1 := x_x19.f 1 _ rfl
                clear hb hB18 hs18 x_top18 z_top18 c_top18_0 c_top18_1 f_top18_0 f_top18_1 x_c18 z_c18 c_c18_0 c_c18_1 f_c18_0 f_c18_1 x_e18 z_e18 c_e18_0 c_e18_1 f_e18_0 f_e18_1 x_h18 z_h18 c_h18_0 c_h18_1 f_h18_0 f_h18_1 x_o18 z_o18 c_o18_0 c_o18_1 f_o18_0 f_o18_1 x_r18 z_r18 c_r18_0 c_r18_1 f_r18_0 f_r18_1 x_u18 z_u18 c_u18_0 c_u18_1 f_u18_0 f_u18_1 x_x18 z_x18 c_x18_0 c_x18_1 f_x18_0 f_x18_1
                go_upto_region 17 with fail
                go_cut [35] (fun q0 wx => q0 = .bool true ∧ Box wx (w.heap.size) [.int .u64 18446744073709551615, .int .u64 18446744073709551615] ∧ Box wx (b3) [.int .u64 18446744073709551615, .int .u64 18446744073709551615] ∧ Box wx (w4.heap.size) [.int .u64 0, .int .u64 0] ∧ Box wx (w7.heap.size) [.int .u64 0, .int .u64 18446744073709551615] ∧ Box wx (w14.heap.size) [.int .u64 18446744073709551615, .int .u64 18446744073709551615] ∧ Box wx (w15.heap.size) [.int .u64 1, .int .u64 1] ∧ Box wx (w16.heap.size) [.int .u64 1, .int .u64 1] ∧ Box wx (w17.heap.size) [.int .u64 9223372036854775808, .int .u64 0] ∧ Box wx (w19.heap.size) [.int .u64 0, .int .u64 0] ∧ Below w.heap.size w wx)
                case first =>
                  as_aux_lemma =>
                    go_region_held3 (fun w' => w'.cell? ⟨w.heap.size, 0, none⟩ = some (.int .u64 18446744073709551615) ∧ w'.cell? ⟨w.heap.size, 1, none⟩ = some (.int .u64 18446744073709551615) ∧ w'.cell? ⟨b3, 0, none⟩ = some (.int .u64 18446744073709551615) ∧ w'.cell? ⟨b3, 1, none⟩ = some (.int .u64 18446744073709551615) ∧ w'.cell? ⟨w4.heap.size, 0, none⟩ = some (.int .u64 0) ∧ w'.cell? ⟨w4.heap.size, 1, none⟩ = some (.int .u64 0) ∧ w'.cell? ⟨w7.heap.size, 0, none⟩ = some (.int .u64 0) ∧ w'.cell? ⟨w7.heap.size, 1, none⟩ = some (.int .u64 18446744073709551615)) (((repeat' apply And.intro) <;> (first | (go_keep; done) | go_cell)))
                      (first
                        | (go_at_call 10; refine (of_any _ _).mono ?_; rintro e v1 ⟨rfl, hv1⟩; have hV1 : Below w.heap.size w v1 := below_thru (by go_grown) hv1; have hs_v1 : w.heap.size ≤ v1.heap.size := hV1.size; have x_top_v1 : Box v1 (w.heap.size) [.int .u64 18446744073709551615, .int .u64 18446744073709551615] := (by refine Box.below ?_ hv1; repeat (first | (with_reducible assumption) | (with_reducible refine Box.drew ?_) | (with_reducible refine Box.drewN ?_ _) | ((with_reducible refine Box.new ?_); simp; done) | (with_reducible apply Box.set2) | (with_reducible refine Box.alloc ?_ _) | (with_reducible refine Box.other ?_ (by first | (dsimp only; omega) | omega) _))); have z_top_v1 := x_top_v1.lt; have c_top_v1_0 := x_top_v1.c 0 _ rfl; have f_top_v1_0 := x_top_v1.f 0 _ rfl; have c_top_v1_1 := x_top_v1.c 1 _ rfl; have f_top_v1_1 := x_top_v1.f 1 _ rfl; have x_c_v1 : Box v1 (b3) [.int .u64 18446744073709551615, .int .u64 18446744073709551615] := (by refine Box.below ?_ hv1; repeat (first | (with_reducible assumption) | (with_reducible refine Box.drew ?_) | (with_reducible refine Box.drewN ?_ _) | ((with_reducible refine Box.new ?_); simp; done) | (with_reducible apply Box.set2) | (with_reducible refine Box.alloc ?_ _) | (with_reducible refine Box.other ?_ (by first | (dsimp only; omega) | omega) _))); have z_c_v1 := x_c_v1.lt; have c_c_v1_0 := x_c_v1.c 0 _ rfl; have f_c_v1_0 := x_c_v1.f 0 _ rfl; have c_c_v1_1 := x_c_v1.c 1 _ rfl; have f_c_v1_1 := x_c_v1.f 1 _ rfl; have x_e_v1 : Box v1 (w4.heap.size) [.int .u64 0, .int .u64 0] := (by refine Box.below ?_ hv1; repeat (first | (with_reducible assumption) | (with_reducible refine Box.drew ?_) | (with_reducible refine Box.drewN ?_ _) | ((with_reducible refine Box.new ?_); simp; done) | (with_reducible apply Box.set2) | (with_reducible refine Box.alloc ?_ _) | (with_reducible refine Box.other ?_ (by first | (dsimp only; omega) | omega) _))); have z_e_v1 := x_e_v1.lt; have c_e_v1_0 := x_e_v1.c 0 _ rfl; have f_e_v1_0 := x_e_v1.f 0 _ rfl; have c_e_v1_1 := x_e_v1.c 1 _ rfl; have f_e_v1_1 := x_e_v1.f 1 _ rfl; have x_h_v1 : Box v1 (w7.heap.size) [.int .u64 0, .int .u64 18446744073709551615] := (by refine Box.below ?_ hv1; repeat (first | (with_reducible assumption) | (with_reducible refine Box.drew ?_) | (with_reducible refine Box.drewN ?_ _) | ((with_reducible refine Box.new ?_); simp; done) | (with_reducible apply Box.set2) | (with_reducible refine Box.alloc ?_ _) | (with_reducible refine Box.other ?_ (by first | (dsimp only; omega) | omega) _))); have z_h_v1 := x_h_v1.lt; have c_h_v1_0 := x_h_v1.c 0 _ rfl; have f_h_v1_0 := x_h_v1.f 0 _ rfl; have c_h_v1_1 := x_h_v1.c 1 _ rfl; have f_h_v1_1 := x_h_v1.f 1 _ rfl; have x_o_v1 : Box v1 (w14.heap.size) [.int .u64 18446744073709551615, .int .u64 18446744073709551615] := (by refine Box.below ?_ hv1; repeat (first | (with_reducible assumption) | (with_reducible refine Box.drew ?_) | (with_reducible refine Box.drewN ?_ _) | ((with_reducible refine Box.new ?_); simp; done) | (with_reducible apply Box.set2) | (with_reducible refine Box.alloc ?_ _) | (with_reducible refine Box.other ?_ (by first | (dsimp only; omega) | omega) _))); have z_o_v1 := x_o_v1.lt; have c_o_v1_0 := x_o_v1.c 0 _ rfl; have f_o_v1_0 := x_o_v1.f 0 _ rfl; have c_o_v1_1 := x_o_v1.c 1 _ rfl; have f_o_v1_1 := x_o_v1.f 1 _ rfl; have x_r_v1 : Box v1 (w15.heap.size) [.int .u64 1, .int .u64 1] := (by refine Box.below ?_ hv1; repeat (first | (with_reducible assumption) | (with_reducible refine Box.drew ?_) | (with_reducible refine Box.drewN ?_ _) | ((with_reducible refine Box.new ?_); simp; done) | (with_reducible apply Box.set2) | (with_reducible refine Box.alloc ?_ _) | (with_reducible refine Box.other ?_ (by first | (dsimp only; omega) | omega) _))); have z_r_v1 := x_r_v1.lt; have c_r_v1_0 := x_r_v1.c 0 _ rfl; have f_r_v1_0 := x_r_v1.f 0 _ rfl; have c_r_v1_1 := x_r_v1.c 1 _ rfl; have f_r_v1_1 := x_r_v1.f 1 _ rfl; have x_u_v1 : Box v1 (w16.heap.size) [.int .u64 1, .int .u64 1] := (by refine Box.below ?_ hv1; repeat (first | (with_reducible assumption) | (with_reducible refine Box.drew ?_) | (with_reducible refine Box.drewN ?_ _) | ((with_reducible refine Box.new ?_); simp; done) | (with_reducible apply Box.set2) | (with_reducible refine Box.alloc ?_ _) | (with_reducible refine Box.other ?_ (by first | (dsimp only; omega) | omega) _))); have z_u_v1 := x_u_v1.lt; have c_u_v1_0 := x_u_v1.c 0 _ rfl; have f_u_v1_0 := x_u_v1.f 0 _ rfl; have c_u_v1_1 := x_u_v1.c 1 _ rfl; have f_u_v1_1 := x_u_v1.f 1 _ rfl; have x_x_v1 : Box v1 (w17.heap.size) [.int .u64 9223372036854775808, .int .u64 0] := (by refine Box.below ?_ hv1; repeat (first | (with_reducible assumption) | (with_reducible refine Box.drew ?_) | (with_reducible refine Box.drewN ?_ _) | ((with_reducible refine Box.new ?_); simp; done) | (with_reducible apply Box.set2) | (with_reducible refine Box.alloc ?_ _) | (with_reducible refine Box.other ?_ (by first | (dsimp only; omega) | omega) _))); have z_x_v1 := x_x_v1.lt; have c_x_v1_0 := x_x_v1.c 0 _ rfl; have f_x_v1_0 := x_x_v1.f 0 _ rfl; have c_x_v1_1 := x_x_v1.c 1 _ rfl; have f_x_v1_1 := x_x_v1.f 1 _ rfl; have x_y_v1 : Box v1 (w19.heap.size) [.int .u64 0, .int .u64 0] := (by refine Box.below ?_ hv1; repeat (first | (with_reducible assumption) | (with_reducible refine Box.drew ?_) | (with_reducible refine Box.drewN ?_ _) | ((with_reducible refine Box.new ?_); simp; done) | (with_reducible apply Box.set2) | (with_reducible refine Box.alloc ?_ _) | (with_reducible refine Box.other ?_ (by first | (dsimp only; omega) | omega) _))); have z_y_v1 := x_y_v1.lt; have c_y_v1_0 := x_y_v1.c 0 _ rfl; have f_y_v1_0 := x_y_v1.f 0 _ rfl; have c_y_v1_1 := x_y_v1.c 1 _ rfl; have f_y_v1_1 := x_y_v1.f 1 _ rfl))
                    all_goals
                      go_wp2_with fail
                      go_meet
                      refine ⟨rfl, ?_, ?_, ?_, ?_, ?_, ?_, ?_, ?_, ?_, ?_⟩
                      all_goals first
                        | ((repeat (first | (with_reducible assumption) | (with_reducible refine Box.drew ?_) | (with_reducible refine Box.drewN ?_ _) | ((with_reducible refine Box.new ?_); simp; done) | (with_reducible apply Box.set2) | (with_reducible refine Box.alloc ?_ _) | (with_reducible refine Box.other ?_ (by first | (dsimp only; omega) | omega) _))); done)
                        | (go_grown; done)
                case rest =>
                  as_aux_lemma =>
                    obtain ⟨rfl, x_top20, x_c20, x_e20, x_h20, x_o20, x_r20, x_u20, x_x20, x_y20, hB20⟩ := hcut
                    obtain ⟨w20, rfl⟩ : ∃ u : World, u = wc := ⟨_, rfl⟩
                    clear hB19 hs19 x_top19 z_top19 c_top19_0 c_top19_1 f_top19_0 f_top19_1 x_c19 z_c19 c_c19_0 c_c19_1 f_c19_0 f_c19_1 x_e19 z_e19 c_e19_0 c_e19_1 f_e19_0 f_e19_1 x_h19 z_h19 c_h19_0 c_h19_1 f_h19_0 f_h19_1 x_o19 z_o19 c_o19_0 c_o19_1 f_o19_0 f_o19_1 x_r19 z_r19 c_r19_0 c_r19_1 f_r19_0 f_r19_1 x_u19 z_u19 c_u19_0 c_u19_1 f_u19_0 f_u19_1 x_x19 z_x19 c_x19_0 c_x19_1 f_x19_0 f_x19_1
                    have hs20 : w.heap.size ≤ w20.heap.size := hB20.size
                    have z_top20 := x_top20.lt
                    have c_top20_0 := x_top20.c 0 _ rfl; have f_top20_0 := x_top20.f 0 _ rfl
                    have c_top20_1 := x_top20.c 1 _ rfl; have f_top20_1 := x_top20.f 1 _ rfl
                    have z_c20 := x_c20.lt
                    have c_c20_0 := x_c20.c 0 _ rfl; have f_c20_0 := x_c20.f 0 _ rfl
                    have c_c20_1 := x_c20.c 1 _ rfl; have f_c20_1 := x_c20.f 1 _ rfl
                    have z_e20 := x_e20.lt
                    have c_e20_0 := x_e20.c 0 _ rfl; have f_e20_0 := x_e20.f 0 _ rfl
                    have c_e20_1 := x_e20.c 1 _ rfl; have f_e20_1 := x_e20.f 1 _ rfl
                    have z_h20 := x_h20.lt
                    have c_h20_0 := x_h20.c 0 _ rfl; have f_h20_0 := x_h20.f 0 _ rfl
                    have c_h20_1 := x_h20.c 1 _ rfl; have f_h20_1 := x_h20.f 1 _ rfl
                    have z_o20 := x_o20.lt
                    have c_o20_0 := x_o20.c 0 _ rfl; have f_o20_0 := x_o20.f 0 _ rfl
                    have c_o20_1 := x_o20.c 1 _ rfl; have f_o20_1 := x_o20.f 1 _ rfl
                    have z_r20 := x_r20.lt
                    have c_r20_0 := x_r20.c 0 _ rfl; have f_r20_0 := x_r20.f 0 _ rfl
                    have c_r20_1 := x_r20.c 1 _ rfl; have f_r20_1 := x_r20.f 1 _ rfl
                    have z_u20 := x_u20.lt
                    have c_u20_0 := x_u20.c 0 _ rfl; have f_u20_0 := x_u20.f 0 _ rfl
                    have c_u20_1 := x_u20.c 1 _ rfl; have f_u20_1 := x_u20.f 1 _ rfl
                    have z_x20 := x_x20.lt
                    have c_x20_0 := x_x20.c 0 _ rfl; have f_x20_0 := x_x20.f 0 _ rfl
                    have c_x20_1 := x_x20.c 1 _ rfl; have f_x20_1 := x_x20.f 1 _ rfl
                    have z_y20 := x_y20.lt
                    have c_y20_0 := x_y20.c 0 _ rfl; have f_y20_0 := x_y20.f 0 _ rfl
                    have c_y20_1 := x_y20.c 1 _ rfl; have f_y20_1 := x_y20.f 1 _ rfl
                    as_aux_lemma =>
                      go_wp2_with fail
                      refine (cmp_ok (n := 0) _ uMax uMax (by decide)).mono ?_
                      rintro e w21 ⟨rfl, hb⟩
                      have hB21 : Below w.heap.size w w21 := below_thru (by go_grown) hb
                      have hs21 : w.heap.size ≤ w21.heap.size := hB21.size
                      have x_top21 : Box w21 (w.heap.size) [.int .u64 18446744073709551615, .int .u64 18446744073709551615] := (by refine Box.below ?_ hb; repeat (first | (with_reducible assumption) | (with_reducible refine Box.drew ?_) | (with_reducible refine Box.drewN ?_ _) | ((with_reducible refine Box.new ?_); simp; done) | (with_reducible apply Box.set2) | (with_reducible refine Box.alloc ?_ _) | (with_reducible refine Box.other ?_ (by first | (dsimp only; omega) | omega) _)))
                      have z_top21 := x_top21.lt
                      have c_top21_0 := x_top21.c 0 _ rfl
                      have f_top21_0 := x_top21.f 0 _ rfl
                      have c_top21_1 := x_top21.c 1 _ rfl
                      have f_top21_1 := x_top21.f 1 _ rfl
                      have x_c21 : Box w21 (b3) [.int .u64 18446744073709551615, .int .u64 18446744073709551615] := (by refine Box.below ?_ hb; repeat (first | (with_reducible assumption) | (with_reducible refine Box.drew ?_) | (with_reducible refine Box.drewN ?_ _) | ((with_reducible refine Box.new ?_); simp; done) | (with_reducible apply Box.set2) | (with_reducible refine Box.alloc ?_ _) | (with_reducible refine Box.other ?_ (by first | (dsimp only; omega) | omega) _)))
                      have z_c21 := x_c21.lt
                      have c_c21_0 := x_c21.c 0 _ rfl
                      have f_c21_0 := x_c21.f 0 _ rfl
                      have c_c21_1 := x_c21.c 1 _ rfl
                      have f_c21_1 := x_c21.f 1 _ rfl
                      have x_e21 : Box w21 (w4.heap.size) [.int .u64 0, .int .u64 0] := (by refine Box.below ?_ hb; repeat (first | (with_reducible assumption) | (with_reducible refine Box.drew ?_) | (with_reducible refine Box.drewN ?_ _) | ((with_reducible refine Box.new ?_); simp; done) | (with_reducible apply Box.set2) | (with_reducible refine Box.alloc ?_ _) | (with_reducible refine Box.other ?_ (by first | (dsimp only; omega) | omega) _)))
                      have z_e21 := x_e21.lt
                      have c_e21_0 := x_e21.c 0 _ rfl
                      have f_e21_0 := x_e21.f 0 _ rfl
                      have c_e21_1 := x_e21.c 1 _ rfl
                      have f_e21_1 := x_e21.f 1 _ rfl
                      have x_h21 : Box w21 (w7.heap.size) [.int .u64 0, .int .u64 18446744073709551615] := (by refine Box.below ?_ hb; repeat (first | (with_reducible assumption) | (with_reducible refine Box.drew ?_) | (with_reducible refine Box.drewN ?_ _) | ((with_reducible refine Box.new ?_); simp; done) | (with_reducible apply Box.set2) | (with_reducible refine Box.alloc ?_ _) | (with_reducible refine Box.other ?_ (by first | (dsimp only; omega) | omega) _)))
                      have z_h21 := x_h21.lt
                      have c_h21_0 := x_h21.c 0 _ rfl
                      have f_h21_0 := x_h21.f 0 _ rfl
                      have c_h21_1 := x_h21.c 1 _ rfl
                      have f_h21_1 := x_h21.f 1 _ rfl
                      have x_o21 : Box w21 (w14.heap.size) [.int .u64 18446744073709551615, .int .u64 18446744073709551615] := (by refine Box.below ?_ hb; repeat (first | (with_reducible assumption) | (with_reducible refine Box.drew ?_) | (with_reducible refine Box.drewN ?_ _) | ((with_reducible refine Box.new ?_); simp; done) | (with_reducible apply Box.set2) | (with_reducible refine Box.alloc ?_ _) | (with_reducible refine Box.other ?_ (by first | (dsimp only; omega) | omega) _)))
                      have z_o21 := x_o21.lt
                      have c_o21_0 := x_o21.c 0 _ rfl
                      have f_o21_0 := x_o21.f 0 _ rfl
                      have c_o21_1 := x_o21.c 1 _ rfl
                      have f_o21_1 := x_o21.f 1 _ rfl
                      have x_r21 : Box w21 (w15.heap.size) [.int .u64 1, .int .u64 1] := (by refine Box.below ?_ hb; repeat (first | (with_reducible assumption) | (with_reducible refine Box.drew ?_) | (with_reducible refine Box.drewN ?_ _) | ((with_reducible refine Box.new ?_); simp; done) | (with_reducible apply Box.set2) | (with_reducible refine Box.alloc ?_ _) | (with_reducible refine Box.other ?_ (by first | (dsimp only; omega) | omega) _)))
                      have z_r21 := x_r21.lt
                      have c_r21_0 := x_r21.c 0 _ rfl
                      have f_r21_0 := x_r21.f 0 _ rfl
                      have c_r21_1 := x_r21.c 1 _ rfl
                      have f_r21_1 := x_r21.f 1 _ rfl
                      have x_u21 : Box w21 (w16.heap.size) [.int .u64 1, .int .u64 1] := (by refine Box.below ?_ hb; repeat (first | (with_reducible assumption) | (with_reducible refine Box.drew ?_) | (with_reducible refine Box.drewN ?_ _) | ((with_reducible refine Box.new ?_); simp; done) | (with_reducible apply Box.set2) | (with_reducible refine Box.alloc ?_ _) | (with_reducible refine Box.other ?_ (by first | (dsimp only; omega) | omega) _)))
                      have z_u21 := x_u21.lt
                      have c_u21_0 := x_u21.c 0 _ rfl
                      have f_u21_0 := x_u21.f 0 _ rfl
                      have c_u21_1 := x_u21.c 1 _ rfl
                      have f_u21_1 := x_u21.f 1 _ rfl
                      have x_x21 : Box w21 (w17.heap.size) [.int .u64 9223372036854775808, .int .u64 0] := (by refine Box.below ?_ hb; repeat (first | (with_reducible assumption) | (with_reducible refine Box.drew ?_) | (with_reducible refine Box.drewN ?_ _) | ((with_reducible refine Box.new ?_); simp; done) | (with_reducible apply Box.set2) | (with_reducible refine Box.alloc ?_ _) | (with_reducible refine Box.other ?_ (by first | (dsimp only; omega) | omega) _)))
                      have z_x21 := x_x21.lt
                      have c_x21_0 := x_x21.c 0 _ rfl
                      have f_x21_0 := x_x21.f 0 _ rfl
                      have c_x21_1 := x_x21.c 1 _ rfl
                      have f_x21_1 := x_x21.f 1 _ rfl
                      have x_y21 : Box w21 (w19.heap.size) [.int .u64 0, .int .u64 0] := (by refine Box.below ?_ hb; repeat (first | (with_reducible assumption) | (with_reducible refine Box.drew ?_) | (with_reducible refine Box.drewN ?_ _) | ((with_reducible refine Box.new ?_); simp; done) | (with_reducible apply Box.set2) | (with_reducible refine Box.alloc ?_ _) | (with_reducible refine Box.other ?_ (by first | (dsimp only; omega) | omega) _)))
                      have z_y21 := x_y21.lt
                      have c_y21_0 := x_y21.c 0 _ rfl
                      have f_y21_0 := x_y21.f 0 _ rfl
                      have c_y21_1 := x_y21.c 1 _ rfl
                      have f_y21_1 := x_y21.f 1 _ rfl
                      clear hb hB20 hs20 x_top20 z_top20 c_top20_0 c_top20_1 f_top20_0 f_top20_1 x_c20 z_c20 c_c20_0 c_c20_1 f_c20_0 f_c20_1 x_e20 z_e20 c_e20_0 c_e20_1 f_e20_0 f_e20_1 x_h20 z_h20 c_h20_0 c_h20_1 f_h20_0 f_h20_1 x_o20 z_o20 c_o20_0 c_o20_1 f_o20_0 f_o20_1 x_r20 z_r20 c_r20_0 c_r20_1 f_r20_0 f_r20_1 x_u20 z_u20 c_u20_0 c_u20_1 f_u20_0 f_u20_1 x_x20 z_x20 c_x20_0 c_x20_1 f_x20_0 f_x20_1 x_y20 z_y20 c_y20_0 c_y20_1 f_y20_0 f_y20_1
                      clear x_top21 z_top21 c_top21_0 c_top21_1 f_top21_0 f_top21_1
                      clear x_c21 z_c21 c_c21_0 c_c21_1 f_c21_0 f_c21_1
                      clear x_e21 z_e21 c_e21_0 c_e21_1 f_e21_0 f_e21_1
                      clear x_h21 z_h21 c_h21_0 c_h21_1 f_h21_0 f_h21_1
                      clear x_o21 z_o21 c_o21_0 c_o21_1 f_o21_0 f_o21_1
                      clear x_r21 z_r21 c_r21_0 c_r21_1 f_r21_0 f_r21_1
                      clear x_u21 z_u21 c_u21_0 c_u21_1 f_u21_0 f_u21_1
                      clear x_x21 z_x21 c_x21_0 c_x21_1 f_x21_0 f_x21_1
                      clear x_y21 z_y21 c_y21_0 c_y21_1 f_y21_0 f_y21_1
                      go_wp2_with fail
                      refine (of_any _ _).mono ?_
                      rintro e w22 ⟨rfl, hb⟩
                      have hB22 : Below w.heap.size w w22 := below_thru (by go_grown) hb
                      have hs22 : w.heap.size ≤ w22.heap.size := hB22.size
                      clear hb hB21 hs21
                      go_wp2_with fail
                      refine (cmp_ok (n := 1) _ u0 uMax (by decide)).mono ?_
                      rintro e w23 ⟨rfl, hb⟩
                      have hB23 : Below w.heap.size w w23 := below_thru (by go_grown) hb
                      have hs23 : w.heap.size ≤ w23.heap.size := hB23.size
                      clear hb hB22 hs22
                      go_wp2_with fail
                      refine (of_any _ _).mono ?_
                      rintro e w24 ⟨rfl, hb⟩
                      have hB24 : Below w.heap.size w w24 := below_thru (by go_grown) hb
                      have hs24 : w.heap.size ≤ w24.heap.size := hB24.size
                      clear hb hB23 hs23
                      go_wp2_with fail
                      refine (of_any _ _).mono ?_
                      rintro e w25 ⟨rfl, hb⟩
                      have hB25 : Below w.heap.size w w25 := below_thru (by go_grown) hb
                      have hs25 : w.heap.size ≤ w25.heap.size := hB25.size
                      clear hb hB24 hs24
                      as_aux_lemma =>
                        go_wp2_with fail
                        refine (cmp_ok (n := -1) _ u1 un2 (by decide)).mono ?_
                        rintro e w26 ⟨rfl, hb⟩
                        have hB26 : Below w.heap.size w w26 := below_thru (by go_grown) hb
                        have hs26 : w.heap.size ≤ w26.heap.size := hB26.size
                        clear hb hB25 hs25
                        go_wp2_with fail
                        refine (mul_ok (h := 0) (l := 0) _ u0 uMax u0 (by decide)).mono ?_
                        rintro e w27 ⟨rfl, hb⟩
                        have hB27 : Below w.heap.size w w27 := below_thru (by go_grown) hb
                        have hs27 : w.heap.size ≤ w27.heap.size := hB27.size
                        clear hb hB26 hs26
                        go_wp2_with fail
                        refine (alive_any _).mono ?_
                        rintro e w28 ⟨rfl, hb⟩
                        have hB28 : Below w.heap.size w w28 := below_thru (by go_grown) hb
                        have hs28 : w.heap.size ≤ w28.heap.size := hB28.size
                        clear hb hB27 hs27
                        go_wp2
                        go_returns
                        refine ⟨rfl, ?_⟩
                        go_grown

theorem names_walk : LawWalk Try.prog 3 Try.f3 := by
  intro H enc W base args ds ps hval hA _ _
  rw [Try.params3] at hA
  obtain ⟨rfl, rfl, rfl⟩ := trodAll_none hA
  exact names_any W

set_option maxRecDepth 100000 in
theorem names_lifted (os : Os) (started : os.Started) (H : Type) (enc : TypeId × Value → H) :
    ReturnsInHanded {} Try.checked os 3 .any (Rows.wideNamesSpec.pre6 enc Try.prog Try.f3 Rows.wideNamesRow.domain false) (Rows.wideNamesSpec.post enc Try.prog Try.f3 false true false false) :=
  law_lifted (C := Try.checked) (s := Rows.wideNamesSpec) (conds := Rows.wideNamesRow.domain) (tb := 4) own laidOut started (by kernel_rfl) Try.func3
    (ChangeSpec.witness6 (enc := enc) (C := Try.checked) false ⟨#[], #[], []⟩ 8 (by kernel_rfl) (by kernel_rfl) (by kernel_rfl) (by kernel_rfl))
    (by rw [show Try.f3.params = _ from Try.params3]; decide +kernel) (by kernel_rfl) Try.underlying4 rfl
    (fun ds hl => by
      rw [show Try.f3.params = _ from Try.params3] at hl
      match ds, hl with
      | [], _ => rfl) names_walk

set_option maxRecDepth 100000 in
theorem names_over : Rows.wideNamesRow.holds Try.pinned (OpenSpec.ofChange Rows.wideNamesSpec) :=
  OpenClaim.holds_of_wide 3 Try.f3 rfl rfl rfl rfl rfl rfl rfl ⟨rfl, rfl, rfl, rfl, rfl⟩ rfl rfl rfl rfl rfl (by kernel_rfl) Try.func3 (by kernel_rfl)
    (of_decide_eq_true (by kernel_rfl)) (by unfold Func.isWrapper; first | (rw [if_pos (by decide +kernel)]; kernel_rfl) | (rw [if_neg (by decide +kernel)]; exact ⟨rfl, rfl⟩))
    (fun os started H enc _ => names_lifted os started H enc)

/-- The given statement. -/
theorem names_holds : Rows.WideNamesSaid := names_over
#print axioms names_holds
end Go.Proofs.Ytjidognjnlhlcaa
