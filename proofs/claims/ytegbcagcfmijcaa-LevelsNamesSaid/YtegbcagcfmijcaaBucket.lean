/-
  Package bucket, walked: refilling, waiting, changing.
-/
import Derived.Test.YtegbcagcfmijcaaBucketA
import Derived.Test.YtegbcagcfmijcaaBucketMath
namespace Go.Proofs.Ytegbcagcfmijcaa
open Go.RowKit

theorem mul_nm {x y h l : Int} (w : World) (h1 : isU x) (h2 : isU y) (g2 : isU l) (e : Hid (x * y = wN h l)) :
    Calls Try.prog 41 #[.int .u64 x, .int .u64 y] w fun e w' => e = .returned (.agg #[.int .u64 h, .int .u64 l]) ∧ Below w.heap.size w w' := mul_ok w h1 h2 g2 e.out
theorem add_nm {ah al bh bl h l : Int} (w : World) (h1 : isU ah) (h2 : isU al) (h3 : isU bh) (h4 : isU bl) (g1 : isU h) (g2 : isU l) (e : Hid (wN ah al + wN bh bl = wN h l)) :
    Calls Try.prog 40 #[.agg #[.int .u64 ah, .int .u64 al], .agg #[.int .u64 bh, .int .u64 bl]] w fun e w' =>
      e = .returned (.tuple #[.agg #[.int .u64 h, .int .u64 l], .int .i64 0]) ∧ Below w.heap.size w w' := add_ok w h1 h2 h3 h4 g1 g2 e.out
theorem div_nm {ah al d n h l m : Int} (w : World) (h1 : isU ah) (h2 : isU al) (h3 : isU d) (hd : d ≠ 0) (en : Hid (wN ah al = n)) (e1 : Hid (wHi (n / d) = h)) (e2 : Hid (wLo (n / d) = l)) (e3 : Hid (n % d = m)) :
    Calls Try.prog 42 #[.agg #[.int .u64 ah, .int .u64 al], .int .u64 d] w fun e w' =>
      e = .returned (.tuple #[.agg #[.int .u64 h, .int .u64 l], .int .u64 m, .int .i64 0]) ∧ Below w.heap.size w w' :=
  div_ok w h1 h2 h3 hd (isU_of e2) (by rw [en.out, ← e1.out, ← e2.out, wN_parts]) (by rw [en.out]; exact e3.out)
theorem cmp_nm {ah al bh bl n : Int} (w : World) (h2 : isU al) (h4 : isU bl) (e : Hid (cmpI (wN ah al) (wN bh bl) = n)) :
    Calls Try.prog 33 #[.agg #[.int .u64 ah, .int .u64 al], .agg #[.int .u64 bh, .int .u64 bl]] w fun e w' => e = .returned (.int .i64 n) ∧ Below w.heap.size w w' := cmp_ok w h2 h4 e.out
theorem up_nm {al d n : Int} (w : World) (h2 : isU al) (h3 : isU d) (hd : d ≠ 0) (g : isU n) (e : Hid (upV al d = n)) :
    Calls Try.prog 39 #[.agg #[.int .u64 0, .int .u64 al], .int .u64 d] w fun e w' =>
      e = .returned (.tuple #[.agg #[.int .u64 0, .int .u64 n], .int .i64 0]) ∧ Below w.heap.size w w' :=
  up_ok w u0 h2 h3 hd g (by rw [show wN 0 al = al by unfold wN; omega, show wN 0 n = n by unfold wN; omega]; exact e.out)

set_option maxRecDepth 100000 in
set_option maxHeartbeats 3200000 in
theorem comein_is {bu ra pe le pt a t qh ql m : Int} (hv : limE bu ra pe = 0) (hl0 : 0 ≤ le) (hl1 : le ≤ bu) (hq0 : 0 ≤ pt) (hq1 : pt < pe) (ta : isU a) (tt : isU t) (hat : a ≤ t) (F1 : Hid (wHi (inN ra pt a t / pe) = qh)) (F2 : Hid (wLo (inN ra pt a t / pe) = ql)) (F3 : Hid (inN ra pt a t % pe = m)) (w : World) :
    Calls Try.prog 32 #[.agg #[.int .i64 bu, .int .i64 ra, .int .i64 pe, .int .i64 le, .int .i64 pt, .int .u64 a], .int .u64 t] w fun e w' => e = .returned (.tuple #[.agg #[.int .u64 qh, .int .u64 ql], .int .i64 m]) ∧ Below w.heap.size w w' := by
  have _ := hl0
  have _ := hl1
  obtain ⟨z1, z2, z3, z4, z5, z6⟩ := limE_zero hv
  obtain ⟨g0, g1⟩ := fil_range z3 z4 ta tt hat hq0 (by omega)
  obtain ⟨mh, e1⟩ : ∃ x, wHi ((t - a) * ra) = x := ⟨_, rfl⟩
  obtain ⟨ml, e2⟩ : ∃ x, wLo ((t - a) * ra) = x := ⟨_, rfl⟩
  obtain ⟨nh, e3⟩ : ∃ x, wHi ((t - a) * ra + pt) = x := ⟨_, rfl⟩
  obtain ⟨nl, e4⟩ : ∃ x, wLo ((t - a) * ra + pt) = x := ⟨_, rfl⟩
  have k1 : isU (t - a) := by unfold isU at *; omega
  have k2 : isU ra := by unfold isU; omega
  have k3 : isU pt := by unfold isU; omega
  have k4 : isU pe := by unfold isU; omega
  have m1 : isU mh := by rw [← e1]; exact isU_hi (by unfold isW; omega)
  have m2 : isU ml := by rw [← e2]; exact isU_lo _
  have m3 : isU nh := by rw [← e3]; exact isU_hi (by unfold isW; omega)
  have m4 : isU nl := by rw [← e4]; exact isU_lo _
  have E1 := Lib.hid (show (t - a) * ra = wN mh ml by rw [← e1, ← e2, wN_parts])
  have E2 := Lib.hid (show wN mh ml + wN 0 pt = wN nh nl by rw [← e1, ← e2, ← e3, ← e4, wN_parts, wN_parts]; unfold wN; omega)
  have E3 := Lib.hid (show wN nh nl = inN ra pt a t by rw [← e3, ← e4, wN_parts]; rfl)
  have u1 : IntKind.u64.wrap (t - a) = t - a := IntWalk.u64_in _ (by unfold isU at k1; omega)
  have u2 : IntKind.u64.wrap ra = ra := IntWalk.u64_in _ (by omega)
  have u3 : IntKind.u64.wrap pt = pt := IntWalk.u64_in _ (by omega)
  have u4 : IntKind.u64.wrap pe = pe := IntWalk.u64_in _ (by omega)
  have b1 : 0 ≤ m := by rw [← F3.out]; exact Int.emod_nonneg _ (by omega)
  have b2 : m < pe := by rw [← F3.out]; exact Int.emod_lt_of_pos _ (by omega)
  have u5 : IntKind.i64.wrap m = m := IntWalk.i64_in _ (by omega)
  clear e1 e2 e3 e4
  go_enter Try.func32, Try.ntmps32
  go_upto_region 1 with fail
  go_cut [6, 7] (fun p q0 wx => ∃ b : Nat, p = .pointer (some ⟨b, 0, none⟩) ∧ q0 = .int .i64 0 ∧ Box wx b [.int .u64 nh, .int .u64 nl] ∧ Box wx (w.heap.size) [.int .i64 bu, .int .i64 ra, .int .i64 pe, .int .i64 le, .int .i64 pt, .int .u64 a] ∧ Box wx (w.heap.size + 1) [.int .u64 0, .int .u64 0] ∧ Below w.heap.size w wx)
  case first =>
    go_region_held3 (fun w' => w'.cell? ⟨w.heap.size, 5, none⟩ = some (.int .u64 a) ∧ w'.cell? ⟨w.heap.size, 1, none⟩ = some (.int .i64 ra) ∧ w'.cell? ⟨w.heap.size, 4, none⟩ = some (.int .i64 pt)) (((repeat' apply And.intro) <;> (first | (go_keep; done) | go_cell)))
      (first
        | (go_at_call 41; refine (mul_nm (h := mh) (l := ml) _ k1 k2 m2 E1).mono ?_; rintro e v1 ⟨rfl, hv1⟩; have hV1 : Below w.heap.size w v1 := below_thru (by go_grown) hv1; have hs_v1 : w.heap.size ≤ v1.heap.size := hV1.size; have x_x_v1 : Box v1 (w.heap.size) [.int .i64 bu, .int .i64 ra, .int .i64 pe, .int .i64 le, .int .i64 pt, .int .u64 a] := (by refine Box.below ?_ hv1; repeat (first | (with_reducible assumption) | (with_reducible refine Box.drew ?_) | (with_reducible refine Box.drewN ?_ _) | ((with_reducible refine Box.new ?_); simp; done) | (with_reducible apply Box.set2) | ((with_reducible apply Box.put); (with_reducible assumption); rfl) | (with_reducible refine Box.alloc ?_ _) | (with_reducible refine Box.other ?_ (by first | (dsimp only; omega) | omega) _))); have z_x_v1 := x_x_v1.lt; have c_x_v1_0 := x_x_v1.c 0 _ rfl; have f_x_v1_0 := x_x_v1.f 0 _ rfl; have c_x_v1_1 := x_x_v1.c 1 _ rfl; have f_x_v1_1 := x_x_v1.f 1 _ rfl; have c_x_v1_2 := x_x_v1.c 2 _ rfl; have f_x_v1_2 := x_x_v1.f 2 _ rfl; have c_x_v1_3 := x_x_v1.c 3 _ rfl; have f_x_v1_3 := x_x_v1.f 3 _ rfl; have c_x_v1_4 := x_x_v1.c 4 _ rfl; have f_x_v1_4 := x_x_v1.f 4 _ rfl; have c_x_v1_5 := x_x_v1.c 5 _ rfl; have f_x_v1_5 := x_x_v1.f 5 _ rfl; have x_z_v1 : Box v1 (w.heap.size + 1) [.int .u64 0, .int .u64 0] := (by refine Box.below ?_ hv1; repeat (first | (with_reducible assumption) | (with_reducible refine Box.drew ?_) | (with_reducible refine Box.drewN ?_ _) | ((with_reducible refine Box.new ?_); simp; done) | (with_reducible apply Box.set2) | ((with_reducible apply Box.put); (with_reducible assumption); rfl) | (with_reducible refine Box.alloc ?_ _) | (with_reducible refine Box.other ?_ (by first | (dsimp only; omega) | omega) _))); have z_z_v1 := x_z_v1.lt; have c_z_v1_0 := x_z_v1.c 0 _ rfl; have f_z_v1_0 := x_z_v1.f 0 _ rfl; have c_z_v1_1 := x_z_v1.c 1 _ rfl; have f_z_v1_1 := x_z_v1.f 1 _ rfl; (first | (with_reducible have y := Box.below (Box.drew (Box.new rfl)) hv1) | (with_reducible have y := Box.below (Box.new rfl) hv1) | (with_reducible have y := Box.below y hv1) | (have y := trivial)); (try simp only [World.size_alloc] at y); try (have yz := Box.lt y; have y0 := Box.c y 0 _ rfl; have yf0 := Box.f y 0 _ rfl; have y1 := Box.c y 1 _ rfl; have yf1 := Box.f y 1 _ rfl))
        | (go_at_call 34; refine (of_any pt _).mono ?_; rintro e v2 ⟨rfl, hv2⟩; have hV2 : Below w.heap.size w v2 := below_thru (by go_grown) hv2; have hs_v2 : w.heap.size ≤ v2.heap.size := hV2.size; have x_x_v2 : Box v2 (w.heap.size) [.int .i64 bu, .int .i64 ra, .int .i64 pe, .int .i64 le, .int .i64 pt, .int .u64 a] := (by refine Box.below ?_ hv2; repeat (first | (with_reducible assumption) | (with_reducible refine Box.drew ?_) | (with_reducible refine Box.drewN ?_ _) | ((with_reducible refine Box.new ?_); simp; done) | (with_reducible apply Box.set2) | ((with_reducible apply Box.put); (with_reducible assumption); rfl) | (with_reducible refine Box.alloc ?_ _) | (with_reducible refine Box.other ?_ (by first | (dsimp only; omega) | omega) _))); have z_x_v2 := x_x_v2.lt; have c_x_v2_0 := x_x_v2.c 0 _ rfl; have f_x_v2_0 := x_x_v2.f 0 _ rfl; have c_x_v2_1 := x_x_v2.c 1 _ rfl; have f_x_v2_1 := x_x_v2.f 1 _ rfl; have c_x_v2_2 := x_x_v2.c 2 _ rfl; have f_x_v2_2 := x_x_v2.f 2 _ rfl; have c_x_v2_3 := x_x_v2.c 3 _ rfl; have f_x_v2_3 := x_x_v2.f 3 _ rfl; have c_x_v2_4 := x_x_v2.c 4 _ rfl; have f_x_v2_4 := x_x_v2.f 4 _ rfl; have c_x_v2_5 := x_x_v2.c 5 _ rfl; have f_x_v2_5 := x_x_v2.f 5 _ rfl; have x_z_v2 : Box v2 (w.heap.size + 1) [.int .u64 0, .int .u64 0] := (by refine Box.below ?_ hv2; repeat (first | (with_reducible assumption) | (with_reducible refine Box.drew ?_) | (with_reducible refine Box.drewN ?_ _) | ((with_reducible refine Box.new ?_); simp; done) | (with_reducible apply Box.set2) | ((with_reducible apply Box.put); (with_reducible assumption); rfl) | (with_reducible refine Box.alloc ?_ _) | (with_reducible refine Box.other ?_ (by first | (dsimp only; omega) | omega) _))); have z_z_v2 := x_z_v2.lt; have c_z_v2_0 := x_z_v2.c 0 _ rfl; have f_z_v2_0 := x_z_v2.f 0 _ rfl; have c_z_v2_1 := x_z_v2.c 1 _ rfl; have f_z_v2_1 := x_z_v2.f 1 _ rfl; (first | (with_reducible have y := Box.below (Box.drew (Box.new rfl)) hv2) | (with_reducible have y := Box.below (Box.new rfl) hv2) | (with_reducible have y := Box.below y hv2) | (have y := trivial)); (try simp only [World.size_alloc] at y); try (have yz := Box.lt y; have y0 := Box.c y 0 _ rfl; have yf0 := Box.f y 0 _ rfl; have y1 := Box.c y 1 _ rfl; have yf1 := Box.f y 1 _ rfl))
        | (go_at_call 40; refine (add_nm (h := nh) (l := nl) _ m1 m2 u0 k3 m3 m4 E2).mono ?_; rintro e v3 ⟨rfl, hv3⟩; have hV3 : Below w.heap.size w v3 := below_thru (by go_grown) hv3; have hs_v3 : w.heap.size ≤ v3.heap.size := hV3.size; have x_x_v3 : Box v3 (w.heap.size) [.int .i64 bu, .int .i64 ra, .int .i64 pe, .int .i64 le, .int .i64 pt, .int .u64 a] := (by refine Box.below ?_ hv3; repeat (first | (with_reducible assumption) | (with_reducible refine Box.drew ?_) | (with_reducible refine Box.drewN ?_ _) | ((with_reducible refine Box.new ?_); simp; done) | (with_reducible apply Box.set2) | ((with_reducible apply Box.put); (with_reducible assumption); rfl) | (with_reducible refine Box.alloc ?_ _) | (with_reducible refine Box.other ?_ (by first | (dsimp only; omega) | omega) _))); have z_x_v3 := x_x_v3.lt; have c_x_v3_0 := x_x_v3.c 0 _ rfl; have f_x_v3_0 := x_x_v3.f 0 _ rfl; have c_x_v3_1 := x_x_v3.c 1 _ rfl; have f_x_v3_1 := x_x_v3.f 1 _ rfl; have c_x_v3_2 := x_x_v3.c 2 _ rfl; have f_x_v3_2 := x_x_v3.f 2 _ rfl; have c_x_v3_3 := x_x_v3.c 3 _ rfl; have f_x_v3_3 := x_x_v3.f 3 _ rfl; have c_x_v3_4 := x_x_v3.c 4 _ rfl; have f_x_v3_4 := x_x_v3.f 4 _ rfl; have c_x_v3_5 := x_x_v3.c 5 _ rfl; have f_x_v3_5 := x_x_v3.f 5 _ rfl; have x_z_v3 : Box v3 (w.heap.size + 1) [.int .u64 0, .int .u64 0] := (by refine Box.below ?_ hv3; repeat (first | (with_reducible assumption) | (with_reducible refine Box.drew ?_) | (with_reducible refine Box.drewN ?_ _) | ((with_reducible refine Box.new ?_); simp; done) | (with_reducible apply Box.set2) | ((with_reducible apply Box.put); (with_reducible assumption); rfl) | (with_reducible refine Box.alloc ?_ _) | (with_reducible refine Box.other ?_ (by first | (dsimp only; omega) | omega) _))); have z_z_v3 := x_z_v3.lt; have c_z_v3_0 := x_z_v3.c 0 _ rfl; have f_z_v3_0 := x_z_v3.f 0 _ rfl; have c_z_v3_1 := x_z_v3.c 1 _ rfl; have f_z_v3_1 := x_z_v3.f 1 _ rfl; (first | (with_reducible have y := Box.below (Box.drew (Box.new rfl)) hv3) | (with_reducible have y := Box.below (Box.new rfl) hv3) | (with_reducible have y := Box.below y hv3) | (have y := trivial)); (try simp only [World.size_alloc] at y); try (have yz := Box.lt y; have y0 := Box.c y 0 _ rfl; have yf0 := Box.f y 0 _ rfl; have y1 := Box.c y 1 _ rfl; have yf1 := Box.f y 1 _ rfl)))
    all_goals
      go_wp2_with fail
      go_meet
      refine ⟨_, rfl, rfl, ?_, ?_, ?_, ?_⟩
      all_goals first
        | ((repeat (first | (with_reducible assumption) | (with_reducible refine Box.drew ?_) | (with_reducible refine Box.drewN ?_ _) | ((with_reducible refine Box.new ?_); simp; done) | (with_reducible apply Box.set2) | (with_reducible refine Box.alloc ?_ _) | (with_reducible refine Box.other ?_ (by first | (dsimp only; omega) | omega) _))); done)
        | (go_grown; done)
  case rest =>
    obtain ⟨b1, rfl, rfl, x_n1, x_x1, x_z1, hB1⟩ := hcut
    obtain ⟨w1, rfl⟩ : ∃ u : World, u = wc := ⟨_, rfl⟩
    have hs1 : w.heap.size ≤ w1.heap.size := hB1.size
    have z_x1 := x_x1.lt
    have c_x1_0 := x_x1.c 0 _ rfl; have f_x1_0 := x_x1.f 0 _ rfl
    have c_x1_1 := x_x1.c 1 _ rfl; have f_x1_1 := x_x1.f 1 _ rfl
    have c_x1_2 := x_x1.c 2 _ rfl; have f_x1_2 := x_x1.f 2 _ rfl
    have c_x1_3 := x_x1.c 3 _ rfl; have f_x1_3 := x_x1.f 3 _ rfl
    have c_x1_4 := x_x1.c 4 _ rfl; have f_x1_4 := x_x1.f 4 _ rfl
    have c_x1_5 := x_x1.c 5 _ rfl; have f_x1_5 := x_x1.f 5 _ rfl
    have z_z1 := x_z1.lt
    have c_z1_0 := x_z1.c 0 _ rfl; have f_z1_0 := x_z1.f 0 _ rfl
    have c_z1_1 := x_z1.c 1 _ rfl; have f_z1_1 := x_z1.f 1 _ rfl
    have z_n1 := x_n1.lt
    have c_n1_0 := x_n1.c 0 _ rfl; have f_n1_0 := x_n1.f 0 _ rfl
    have c_n1_1 := x_n1.c 1 _ rfl; have f_n1_1 := x_n1.f 1 _ rfl
    go_wp2_with fail
    refine (div_nm _ m3 m4 k4 (by omega) E3 F1 F2 F3).mono ?_
    rintro e w2 ⟨rfl, hb⟩
    have hB2 : Below w.heap.size w w2 := below_thru (by go_grown) hb
    have hs2 : w.heap.size ≤ w2.heap.size := hB2.size
    have x_x2 : Box w2 (w.heap.size) [.int .i64 bu, .int .i64 ra, .int .i64 pe, .int .i64 le, .int .i64 pt, .int .u64 a] := (by refine Box.below ?_ hb; repeat (first | (with_reducible assumption) | (with_reducible refine Box.drew ?_) | (with_reducible refine Box.drewN ?_ _) | ((with_reducible refine Box.new ?_); simp; done) | (with_reducible apply Box.set2) | ((with_reducible apply Box.put); (with_reducible assumption); rfl) | (with_reducible refine Box.alloc ?_ _) | (with_reducible refine Box.other ?_ (by first | (dsimp only; omega) | omega) _)))
    have z_x2 := x_x2.lt
    have c_x2_0 := x_x2.c 0 _ rfl
    have f_x2_0 := x_x2.f 0 _ rfl
    have c_x2_1 := x_x2.c 1 _ rfl
    have f_x2_1 := x_x2.f 1 _ rfl
    have c_x2_2 := x_x2.c 2 _ rfl
    have f_x2_2 := x_x2.f 2 _ rfl
    have c_x2_3 := x_x2.c 3 _ rfl
    have f_x2_3 := x_x2.f 3 _ rfl
    have c_x2_4 := x_x2.c 4 _ rfl
    have f_x2_4 := x_x2.f 4 _ rfl
    have c_x2_5 := x_x2.c 5 _ rfl
    have f_x2_5 := x_x2.f 5 _ rfl
    have x_z2 : Box w2 (w.heap.size + 1) [.int .u64 0, .int .u64 0] := (by refine Box.below ?_ hb; repeat (first | (with_reducible assumption) | (with_reducible refine Box.drew ?_) | (with_reducible refine Box.drewN ?_ _) | ((with_reducible refine Box.new ?_); simp; done) | (with_reducible apply Box.set2) | ((with_reducible apply Box.put); (with_reducible assumption); rfl) | (with_reducible refine Box.alloc ?_ _) | (with_reducible refine Box.other ?_ (by first | (dsimp only; omega) | omega) _)))
    have z_z2 := x_z2.lt
    have c_z2_0 := x_z2.c 0 _ rfl
    have f_z2_0 := x_z2.f 0 _ rfl
    have c_z2_1 := x_z2.c 1 _ rfl
    have f_z2_1 := x_z2.f 1 _ rfl
    have x_n2 : Box w2 (b1) [.int .u64 nh, .int .u64 nl] := (by refine Box.below ?_ hb; repeat (first | (with_reducible assumption) | (with_reducible refine Box.drew ?_) | (with_reducible refine Box.drewN ?_ _) | ((with_reducible refine Box.new ?_); simp; done) | (with_reducible apply Box.set2) | ((with_reducible apply Box.put); (with_reducible assumption); rfl) | (with_reducible refine Box.alloc ?_ _) | (with_reducible refine Box.other ?_ (by first | (dsimp only; omega) | omega) _)))
    have z_n2 := x_n2.lt
    have c_n2_0 := x_n2.c 0 _ rfl
    have f_n2_0 := x_n2.f 0 _ rfl
    have c_n2_1 := x_n2.c 1 _ rfl
    have f_n2_1 := x_n2.f 1 _ rfl
    have t2 := hb.size
    try simp at t2
    clear hb hB1 hs1 x_x1 z_x1 c_x1_0 c_x1_1 c_x1_2 c_x1_3 c_x1_4 c_x1_5 f_x1_0 f_x1_1 f_x1_2 f_x1_3 f_x1_4 f_x1_5 x_z1 z_z1 c_z1_0 c_z1_1 f_z1_0 f_z1_1 x_n1 z_n1 c_n1_0 c_n1_1 f_n1_0 f_n1_1
    go_wp2_with fail
    refine bodyPost_ret (v := .tuple #[.agg #[.int .u64 qh, .int .u64 ql], .int .i64 m]) (by simp [results, Try.results32, go_sem, z_z2, c_z2_0, c_z2_1]) rfl ⟨rfl, ?_⟩
    go_grown

set_option maxRecDepth 100000 in
set_option maxHeartbeats 3200000 in
theorem ticks_is {bu ra pe le pt a c n : Int} (hb : Buc bu ra pe le pt a) (hc : c ≤ bu) (hl : le < c) (hr : ra ≠ 0) (F1 : Hid (upV ((c - le) * pe - pt) ra = n)) (hn : isU n) (w : World) :
    Calls Try.prog 29 #[.agg #[.int .i64 bu, .int .i64 ra, .int .i64 pe, .int .i64 le, .int .i64 pt, .int .u64 a], .int .i64 c] w fun e w' => e = .returned (.int .u64 n) ∧ Below w.heap.size w w' := by
  obtain ⟨z1, z2, z3, z4, z5, z6⟩ := hb.nums
  have hl0 := hb.l0
  have hq0 := hb.q0
  have hq1 := hb.q1
  have g0 : 0 ≤ (c - le) * pe := Int.mul_nonneg (by omega) (by omega)
  have g1 : (c - le) * pe ≤ 1000000000 * 1000000000 := Int.mul_le_mul (by omega) (by omega) (by omega) (by omega)
  have g2 : 1 * pe ≤ (c - le) * pe := Int.mul_le_mul_of_nonneg_right (by omega) (by omega)
  have u1 : IntKind.i64.wrap (c - le) = c - le := IntWalk.i64_in _ (by omega)
  have u2 : IntKind.i64.wrap ((c - le) * pe) = (c - le) * pe := IntWalk.i64_in _ (by omega)
  have u3 : IntKind.i64.wrap ((c - le) * pe - pt) = (c - le) * pe - pt := IntWalk.i64_in _ (by omega)
  have u4 : IntKind.u64.wrap ((c - le) * pe - pt) = (c - le) * pe - pt := IntWalk.u64_in _ (by omega)
  have u5 : IntKind.u64.wrap ra = ra := IntWalk.u64_in _ (by omega)
  have k1 : isU ((c - le) * pe - pt) := by unfold isU; omega
  have k2 : isU ra := by unfold isU; omega
  clear hb
  go_enter Try.func29, Try.ntmps29
  go_upto_region 2 with fail
  go_cut [6, 7] (fun p q0 wx => ∃ b : Nat, p = .pointer (some ⟨b, 0, none⟩) ∧ q0 = .int .i64 0 ∧ Box wx b [.int .u64 0, .int .u64 n] ∧ Box wx (w.heap.size) [.int .i64 bu, .int .i64 ra, .int .i64 pe, .int .i64 le, .int .i64 pt, .int .u64 a] ∧ Below w.heap.size w wx)
  case first =>
    go_region_held3 (fun w' => w'.cell? ⟨w.heap.size, 1, none⟩ = some (.int .i64 ra)) (((repeat' apply And.intro) <;> (first | (go_keep; done) | go_cell)))
      (first
        | (go_at_call 34; refine (of_any _ _).mono ?_; rintro e v1 ⟨rfl, hv1⟩; have hV1 : Below w.heap.size w v1 := below_thru (by go_grown) hv1; have hs_v1 : w.heap.size ≤ v1.heap.size := hV1.size; have x_x_v1 : Box v1 (w.heap.size) [.int .i64 bu, .int .i64 ra, .int .i64 pe, .int .i64 le, .int .i64 pt, .int .u64 a] := (by refine Box.below ?_ hv1; repeat (first | (with_reducible assumption) | (with_reducible refine Box.drew ?_) | (with_reducible refine Box.drewN ?_ _) | ((with_reducible refine Box.new ?_); simp; done) | (with_reducible apply Box.set2) | ((with_reducible apply Box.put); (with_reducible assumption); rfl) | (with_reducible refine Box.alloc ?_ _) | (with_reducible refine Box.other ?_ (by first | (dsimp only; omega) | omega) _))); have z_x_v1 := x_x_v1.lt; have c_x_v1_0 := x_x_v1.c 0 _ rfl; have f_x_v1_0 := x_x_v1.f 0 _ rfl; have c_x_v1_1 := x_x_v1.c 1 _ rfl; have f_x_v1_1 := x_x_v1.f 1 _ rfl; have c_x_v1_2 := x_x_v1.c 2 _ rfl; have f_x_v1_2 := x_x_v1.f 2 _ rfl; have c_x_v1_3 := x_x_v1.c 3 _ rfl; have f_x_v1_3 := x_x_v1.f 3 _ rfl; have c_x_v1_4 := x_x_v1.c 4 _ rfl; have f_x_v1_4 := x_x_v1.f 4 _ rfl; have c_x_v1_5 := x_x_v1.c 5 _ rfl; have f_x_v1_5 := x_x_v1.f 5 _ rfl; (first | (with_reducible have y := Box.below (Box.drew (Box.new rfl)) hv1) | (with_reducible have y := Box.below (Box.new rfl) hv1) | (with_reducible have y := Box.below y hv1) | (have y := trivial)); (try simp only [World.size_alloc] at y); try (have yz := Box.lt y; have y0 := Box.c y 0 _ rfl; have yf0 := Box.f y 0 _ rfl; have y1 := Box.c y 1 _ rfl; have yf1 := Box.f y 1 _ rfl))
        | (go_at_call 39; refine (up_nm _ k1 k2 hr hn F1).mono ?_; rintro e v2 ⟨rfl, hv2⟩; have hV2 : Below w.heap.size w v2 := below_thru (by go_grown) hv2; have hs_v2 : w.heap.size ≤ v2.heap.size := hV2.size; have x_x_v2 : Box v2 (w.heap.size) [.int .i64 bu, .int .i64 ra, .int .i64 pe, .int .i64 le, .int .i64 pt, .int .u64 a] := (by refine Box.below ?_ hv2; repeat (first | (with_reducible assumption) | (with_reducible refine Box.drew ?_) | (with_reducible refine Box.drewN ?_ _) | ((with_reducible refine Box.new ?_); simp; done) | (with_reducible apply Box.set2) | ((with_reducible apply Box.put); (with_reducible assumption); rfl) | (with_reducible refine Box.alloc ?_ _) | (with_reducible refine Box.other ?_ (by first | (dsimp only; omega) | omega) _))); have z_x_v2 := x_x_v2.lt; have c_x_v2_0 := x_x_v2.c 0 _ rfl; have f_x_v2_0 := x_x_v2.f 0 _ rfl; have c_x_v2_1 := x_x_v2.c 1 _ rfl; have f_x_v2_1 := x_x_v2.f 1 _ rfl; have c_x_v2_2 := x_x_v2.c 2 _ rfl; have f_x_v2_2 := x_x_v2.f 2 _ rfl; have c_x_v2_3 := x_x_v2.c 3 _ rfl; have f_x_v2_3 := x_x_v2.f 3 _ rfl; have c_x_v2_4 := x_x_v2.c 4 _ rfl; have f_x_v2_4 := x_x_v2.f 4 _ rfl; have c_x_v2_5 := x_x_v2.c 5 _ rfl; have f_x_v2_5 := x_x_v2.f 5 _ rfl; (first | (with_reducible have y := Box.below (Box.drew (Box.new rfl)) hv2) | (with_reducible have y := Box.below (Box.new rfl) hv2) | (with_reducible have y := Box.below y hv2) | (have y := trivial)); (try simp only [World.size_alloc] at y); try (have yz := Box.lt y; have y0 := Box.c y 0 _ rfl; have yf0 := Box.f y 0 _ rfl; have y1 := Box.c y 1 _ rfl; have yf1 := Box.f y 1 _ rfl)))
    all_goals
      go_wp2_with fail
      go_meet
      refine ⟨_, rfl, rfl, ?_, ?_, ?_⟩
      all_goals first
        | ((repeat (first | (with_reducible assumption) | (with_reducible refine Box.drew ?_) | (with_reducible refine Box.drewN ?_ _) | ((with_reducible refine Box.new ?_); simp; done) | (with_reducible apply Box.set2) | (with_reducible refine Box.alloc ?_ _) | (with_reducible refine Box.other ?_ (by first | (dsimp only; omega) | omega) _))); done)
        | (go_grown; done)
  case rest =>
    obtain ⟨b1, rfl, rfl, x_n1, x_x1, hB1⟩ := hcut
    obtain ⟨w1, rfl⟩ : ∃ u : World, u = wc := ⟨_, rfl⟩
    have hs1 : w.heap.size ≤ w1.heap.size := hB1.size
    have z_x1 := x_x1.lt
    have c_x1_0 := x_x1.c 0 _ rfl; have f_x1_0 := x_x1.f 0 _ rfl
    have c_x1_1 := x_x1.c 1 _ rfl; have f_x1_1 := x_x1.f 1 _ rfl
    have c_x1_2 := x_x1.c 2 _ rfl; have f_x1_2 := x_x1.f 2 _ rfl
    have c_x1_3 := x_x1.c 3 _ rfl; have f_x1_3 := x_x1.f 3 _ rfl
    have c_x1_4 := x_x1.c 4 _ rfl; have f_x1_4 := x_x1.f 4 _ rfl
    have c_x1_5 := x_x1.c 5 _ rfl; have f_x1_5 := x_x1.f 5 _ rfl
    have z_n1 := x_n1.lt
    have c_n1_0 := x_n1.c 0 _ rfl; have f_n1_0 := x_n1.f 0 _ rfl
    have c_n1_1 := x_n1.c 1 _ rfl; have f_n1_1 := x_n1.f 1 _ rfl
    go_wp2_with fail
    go_returns
    exact ⟨rfl, by go_grown⟩

set_option maxRecDepth 100000 in
set_option maxHeartbeats 3200000 in
theorem refill_bad {bu ra pe le pt a t : Int} (h : Hid (bucE bu ra pe le pt = 8)) (w : World) :
    Calls Try.prog 24 #[.agg #[.int .i64 bu, .int .i64 ra, .int .i64 pe, .int .i64 le, .int .i64 pt, .int .u64 a], .int .u64 t] w fun e w' => e = .returned (.tuple #[.agg #[.int .i64 0, .int .i64 0, .int .i64 0, .int .i64 0, .int .i64 0, .int .u64 0], .int .i64 8]) ∧ Below w.heap.size w w' := by
  go_enter Try.func24, Try.ntmps24
  go_wp2_with fail
  refine (check_is h _).mono ?_
  rintro e w1 ⟨rfl, hb⟩
  have hB1 : Below w.heap.size w w1 := below_thru (by go_grown) hb
  have hs1 : w.heap.size ≤ w1.heap.size := hB1.size
  have x_x1 : Box w1 (w.heap.size) [.int .i64 bu, .int .i64 ra, .int .i64 pe, .int .i64 le, .int .i64 pt, .int .u64 a] := (by refine Box.below ?_ hb; repeat (first | (with_reducible assumption) | (with_reducible refine Box.drew ?_) | (with_reducible refine Box.drewN ?_ _) | ((with_reducible refine Box.new ?_); simp; done) | (with_reducible apply Box.set2) | ((with_reducible apply Box.put); (with_reducible assumption); rfl) | (with_reducible refine Box.alloc ?_ _) | (with_reducible refine Box.other ?_ (by first | (dsimp only; omega) | omega) _)))
  have z_x1 := x_x1.lt
  have c_x1_0 := x_x1.c 0 _ rfl
  have f_x1_0 := x_x1.f 0 _ rfl
  have c_x1_1 := x_x1.c 1 _ rfl
  have f_x1_1 := x_x1.f 1 _ rfl
  have c_x1_2 := x_x1.c 2 _ rfl
  have f_x1_2 := x_x1.f 2 _ rfl
  have c_x1_3 := x_x1.c 3 _ rfl
  have f_x1_3 := x_x1.f 3 _ rfl
  have c_x1_4 := x_x1.c 4 _ rfl
  have f_x1_4 := x_x1.f 4 _ rfl
  have c_x1_5 := x_x1.c 5 _ rfl
  have f_x1_5 := x_x1.f 5 _ rfl
  have x_z1 : Box w1 (w.heap.size + 1) [.int .i64 0, .int .i64 0, .int .i64 0, .int .i64 0, .int .i64 0, .int .u64 0] := (by refine Box.below ?_ hb; repeat (first | (with_reducible assumption) | (with_reducible refine Box.drew ?_) | (with_reducible refine Box.drewN ?_ _) | ((with_reducible refine Box.new ?_); simp; done) | (with_reducible apply Box.set2) | ((with_reducible apply Box.put); (with_reducible assumption); rfl) | (with_reducible refine Box.alloc ?_ _) | (with_reducible refine Box.other ?_ (by first | (dsimp only; omega) | omega) _)))
  have z_z1 := x_z1.lt
  have c_z1_0 := x_z1.c 0 _ rfl
  have f_z1_0 := x_z1.f 0 _ rfl
  have c_z1_1 := x_z1.c 1 _ rfl
  have f_z1_1 := x_z1.f 1 _ rfl
  have c_z1_2 := x_z1.c 2 _ rfl
  have f_z1_2 := x_z1.f 2 _ rfl
  have c_z1_3 := x_z1.c 3 _ rfl
  have f_z1_3 := x_z1.f 3 _ rfl
  have c_z1_4 := x_z1.c 4 _ rfl
  have f_z1_4 := x_z1.f 4 _ rfl
  have c_z1_5 := x_z1.c 5 _ rfl
  have f_z1_5 := x_z1.f 5 _ rfl
  have t1 := hb.size
  try simp at t1
  clear hb
  go_wp2_with fail
  refine bodyPost_ret (v := .tuple #[.agg #[.int .i64 0, .int .i64 0, .int .i64 0, .int .i64 0, .int .i64 0, .int .u64 0], .int .i64 8]) (by simp [results, Try.results24, go_sem, c_z1_0, c_z1_1, c_z1_2, c_z1_3, c_z1_4, c_z1_5]) rfl ⟨rfl, ?_⟩
  go_grown

set_option maxRecDepth 100000 in
set_option maxHeartbeats 3200000 in
theorem refill_before {bu ra pe le pt a t : Int} (h : Hid (bucE bu ra pe le pt = 0)) (hat : t < a) (w : World) :
    Calls Try.prog 24 #[.agg #[.int .i64 bu, .int .i64 ra, .int .i64 pe, .int .i64 le, .int .i64 pt, .int .u64 a], .int .u64 t] w fun e w' => e = .returned (.tuple #[.agg #[.int .i64 bu, .int .i64 ra, .int .i64 pe, .int .i64 le, .int .i64 pt, .int .u64 a], .int .i64 0]) ∧ Below w.heap.size w w' := by
  have d1 : decide (t < a) = true := decide_eq_true hat
  go_enter Try.func24, Try.ntmps24
  go_wp2_with fail
  refine (check_is h _).mono ?_
  rintro e w1 ⟨rfl, hb⟩
  have hB1 : Below w.heap.size w w1 := below_thru (by go_grown) hb
  have hs1 : w.heap.size ≤ w1.heap.size := hB1.size
  have x_x1 : Box w1 (w.heap.size) [.int .i64 bu, .int .i64 ra, .int .i64 pe, .int .i64 le, .int .i64 pt, .int .u64 a] := (by refine Box.below ?_ hb; repeat (first | (with_reducible assumption) | (with_reducible refine Box.drew ?_) | (with_reducible refine Box.drewN ?_ _) | ((with_reducible refine Box.new ?_); simp; done) | (with_reducible apply Box.set2) | ((with_reducible apply Box.put); (with_reducible assumption); rfl) | (with_reducible refine Box.alloc ?_ _) | (with_reducible refine Box.other ?_ (by first | (dsimp only; omega) | omega) _)))
  have z_x1 := x_x1.lt
  have c_x1_0 := x_x1.c 0 _ rfl
  have f_x1_0 := x_x1.f 0 _ rfl
  have c_x1_1 := x_x1.c 1 _ rfl
  have f_x1_1 := x_x1.f 1 _ rfl
  have c_x1_2 := x_x1.c 2 _ rfl
  have f_x1_2 := x_x1.f 2 _ rfl
  have c_x1_3 := x_x1.c 3 _ rfl
  have f_x1_3 := x_x1.f 3 _ rfl
  have c_x1_4 := x_x1.c 4 _ rfl
  have f_x1_4 := x_x1.f 4 _ rfl
  have c_x1_5 := x_x1.c 5 _ rfl
  have f_x1_5 := x_x1.f 5 _ rfl
  have x_z1 : Box w1 (w.heap.size + 1) [.int .i64 0, .int .i64 0, .int .i64 0, .int .i64 0, .int .i64 0, .int .u64 0] := (by refine Box.below ?_ hb; repeat (first | (with_reducible assumption) | (with_reducible refine Box.drew ?_) | (with_reducible refine Box.drewN ?_ _) | ((with_reducible refine Box.new ?_); simp; done) | (with_reducible apply Box.set2) | ((with_reducible apply Box.put); (with_reducible assumption); rfl) | (with_reducible refine Box.alloc ?_ _) | (with_reducible refine Box.other ?_ (by first | (dsimp only; omega) | omega) _)))
  have z_z1 := x_z1.lt
  have c_z1_0 := x_z1.c 0 _ rfl
  have f_z1_0 := x_z1.f 0 _ rfl
  have c_z1_1 := x_z1.c 1 _ rfl
  have f_z1_1 := x_z1.f 1 _ rfl
  have c_z1_2 := x_z1.c 2 _ rfl
  have f_z1_2 := x_z1.f 2 _ rfl
  have c_z1_3 := x_z1.c 3 _ rfl
  have f_z1_3 := x_z1.f 3 _ rfl
  have c_z1_4 := x_z1.c 4 _ rfl
  have f_z1_4 := x_z1.f 4 _ rfl
  have c_z1_5 := x_z1.c 5 _ rfl
  have f_z1_5 := x_z1.f 5 _ rfl
  have t1 := hb.size
  try simp at t1
  clear hb
  go_wp2_with fail
  refine bodyPost_ret (v := .tuple #[.agg #[.int .i64 bu, .int .i64 ra, .int .i64 pe, .int .i64 le, .int .i64 pt, .int .u64 a], .int .i64 0]) (by simp [results, Try.results24, go_sem, c_z1_0, c_z1_1, c_z1_2, c_z1_3, c_z1_4, c_z1_5]) rfl ⟨rfl, ?_⟩
  go_grown

set_option maxRecDepth 100000 in
set_option maxHeartbeats 3200000 in
theorem refill_full {bu ra pe le pt a t : Int} (h : Hid (bucE bu ra pe le pt = 0)) (hv : limE bu ra pe = 0) (hl0 : 0 ≤ le) (hl1 : le ≤ bu) (hq0 : 0 ≤ pt) (hq1 : pt < pe) (ta : isU a) (tt : isU t) (hat : a ≤ t) (hf : bu - le ≤ inN ra pt a t / pe) (w : World) :
    Calls Try.prog 24 #[.agg #[.int .i64 bu, .int .i64 ra, .int .i64 pe, .int .i64 le, .int .i64 pt, .int .u64 a], .int .u64 t] w fun e w' => e = .returned (.tuple #[.agg #[.int .i64 bu, .int .i64 ra, .int .i64 pe, .int .i64 bu, .int .i64 0, .int .u64 t], .int .i64 0]) ∧ Below w.heap.size w w' := by
  obtain ⟨z1, z2, z3, z4, z5, z6⟩ := limE_zero hv
  obtain ⟨g0, g1⟩ := fil_range z3 z4 ta tt hat hq0 (by omega)
  have HV := Lib.hid hv
  have d1 : decide (t < a) = false := decide_eq_false (by omega)
  have gi : inN ra pt a t = (t - a) * ra + pt := rfl
  obtain ⟨qh, e1⟩ : ∃ x, wHi (inN ra pt a t / pe) = x := ⟨_, rfl⟩
  obtain ⟨ql, e2⟩ : ∃ x, wLo (inN ra pt a t / pe) = x := ⟨_, rfl⟩
  obtain ⟨m, e3⟩ : ∃ x, inN ra pt a t % pe = x := ⟨_, rfl⟩
  have F1 := Lib.hid e1
  have F2 := Lib.hid e2
  have F3 := Lib.hid e3
  have k2 : isU ql := by rw [← e2]; exact isU_lo _
  have k5 : isU (bu - le) := by unfold isU; omega
  have u4 : IntKind.u64.wrap (bu - le) = bu - le := IntWalk.u64_in _ (by omega)
  have u6 : IntKind.i64.wrap (bu - le) = bu - le := IntWalk.i64_in _ (by omega)
  obtain ⟨cc, e8⟩ : ∃ x, cmpI (wN qh ql) (wN 0 (bu - le)) = x := ⟨_, rfl⟩
  have E7 := Lib.hid e8
  rw [← e1, ← e2, wN_parts, show wN 0 (bu - le) = bu - le by unfold wN; omega] at e8
  have d2 : decide (0 ≤ cc) = true := decide_eq_true (by rw [← e8]; unfold cmpI; split <;> (try split) <;> omega)
  clear e1 e2 e3 e8 hf gi hv
  go_enter Try.func24, Try.ntmps24
  go_wp2_with fail
  refine (check_is h _).mono ?_
  rintro e w1 ⟨rfl, hb⟩
  have hB1 : Below w.heap.size w w1 := below_thru (by go_grown) hb
  have hs1 : w.heap.size ≤ w1.heap.size := hB1.size
  have x_x1 : Box w1 (w.heap.size) [.int .i64 bu, .int .i64 ra, .int .i64 pe, .int .i64 le, .int .i64 pt, .int .u64 a] := (by refine Box.below ?_ hb; repeat (first | (with_reducible assumption) | (with_reducible refine Box.drew ?_) | (with_reducible refine Box.drewN ?_ _) | ((with_reducible refine Box.new ?_); simp; done) | (with_reducible apply Box.set2) | ((with_reducible apply Box.put); (with_reducible assumption); rfl) | (with_reducible refine Box.alloc ?_ _) | (with_reducible refine Box.other ?_ (by first | (dsimp only; omega) | omega) _)))
  have z_x1 := x_x1.lt
  have c_x1_0 := x_x1.c 0 _ rfl
  have f_x1_0 := x_x1.f 0 _ rfl
  have c_x1_1 := x_x1.c 1 _ rfl
  have f_x1_1 := x_x1.f 1 _ rfl
  have c_x1_2 := x_x1.c 2 _ rfl
  have f_x1_2 := x_x1.f 2 _ rfl
  have c_x1_3 := x_x1.c 3 _ rfl
  have f_x1_3 := x_x1.f 3 _ rfl
  have c_x1_4 := x_x1.c 4 _ rfl
  have f_x1_4 := x_x1.f 4 _ rfl
  have c_x1_5 := x_x1.c 5 _ rfl
  have f_x1_5 := x_x1.f 5 _ rfl
  have x_z1 : Box w1 (w.heap.size + 1) [.int .i64 0, .int .i64 0, .int .i64 0, .int .i64 0, .int .i64 0, .int .u64 0] := (by refine Box.below ?_ hb; repeat (first | (with_reducible assumption) | (with_reducible refine Box.drew ?_) | (with_reducible refine Box.drewN ?_ _) | ((with_reducible refine Box.new ?_); simp; done) | (with_reducible apply Box.set2) | ((with_reducible apply Box.put); (with_reducible assumption); rfl) | (with_reducible refine Box.alloc ?_ _) | (with_reducible refine Box.other ?_ (by first | (dsimp only; omega) | omega) _)))
  have z_z1 := x_z1.lt
  have c_z1_0 := x_z1.c 0 _ rfl
  have f_z1_0 := x_z1.f 0 _ rfl
  have c_z1_1 := x_z1.c 1 _ rfl
  have f_z1_1 := x_z1.f 1 _ rfl
  have c_z1_2 := x_z1.c 2 _ rfl
  have f_z1_2 := x_z1.f 2 _ rfl
  have c_z1_3 := x_z1.c 3 _ rfl
  have f_z1_3 := x_z1.f 3 _ rfl
  have c_z1_4 := x_z1.c 4 _ rfl
  have f_z1_4 := x_z1.f 4 _ rfl
  have c_z1_5 := x_z1.c 5 _ rfl
  have f_z1_5 := x_z1.f 5 _ rfl
  have t1 := hb.size
  try simp at t1
  clear hb
  go_wp2_with fail
  refine (comein_is HV.out hl0 hl1 hq0 hq1 ta tt hat F1 F2 F3 _).mono ?_
  rintro e w2 ⟨rfl, hb⟩
  have hB2 : Below w.heap.size w w2 := below_thru (by go_grown) hb
  have hs2 : w.heap.size ≤ w2.heap.size := hB2.size
  have x_x2 : Box w2 (w.heap.size) [.int .i64 bu, .int .i64 ra, .int .i64 pe, .int .i64 le, .int .i64 pt, .int .u64 a] := (by refine Box.below ?_ hb; repeat (first | (with_reducible assumption) | (with_reducible refine Box.drew ?_) | (with_reducible refine Box.drewN ?_ _) | ((with_reducible refine Box.new ?_); simp; done) | (with_reducible apply Box.set2) | ((with_reducible apply Box.put); (with_reducible assumption); rfl) | (with_reducible refine Box.alloc ?_ _) | (with_reducible refine Box.other ?_ (by first | (dsimp only; omega) | omega) _)))
  have z_x2 := x_x2.lt
  have c_x2_0 := x_x2.c 0 _ rfl
  have f_x2_0 := x_x2.f 0 _ rfl
  have c_x2_1 := x_x2.c 1 _ rfl
  have f_x2_1 := x_x2.f 1 _ rfl
  have c_x2_2 := x_x2.c 2 _ rfl
  have f_x2_2 := x_x2.f 2 _ rfl
  have c_x2_3 := x_x2.c 3 _ rfl
  have f_x2_3 := x_x2.f 3 _ rfl
  have c_x2_4 := x_x2.c 4 _ rfl
  have f_x2_4 := x_x2.f 4 _ rfl
  have c_x2_5 := x_x2.c 5 _ rfl
  have f_x2_5 := x_x2.f 5 _ rfl
  have x_z2 : Box w2 (w.heap.size + 1) [.int .i64 0, .int .i64 0, .int .i64 0, .int .i64 0, .int .i64 0, .int .u64 0] := (by refine Box.below ?_ hb; repeat (first | (with_reducible assumption) | (with_reducible refine Box.drew ?_) | (with_reducible refine Box.drewN ?_ _) | ((with_reducible refine Box.new ?_); simp; done) | (with_reducible apply Box.set2) | ((with_reducible apply Box.put); (with_reducible assumption); rfl) | (with_reducible refine Box.alloc ?_ _) | (with_reducible refine Box.other ?_ (by first | (dsimp only; omega) | omega) _)))
  have z_z2 := x_z2.lt
  have c_z2_0 := x_z2.c 0 _ rfl
  have f_z2_0 := x_z2.f 0 _ rfl
  have c_z2_1 := x_z2.c 1 _ rfl
  have f_z2_1 := x_z2.f 1 _ rfl
  have c_z2_2 := x_z2.c 2 _ rfl
  have f_z2_2 := x_z2.f 2 _ rfl
  have c_z2_3 := x_z2.c 3 _ rfl
  have f_z2_3 := x_z2.f 3 _ rfl
  have c_z2_4 := x_z2.c 4 _ rfl
  have f_z2_4 := x_z2.f 4 _ rfl
  have c_z2_5 := x_z2.c 5 _ rfl
  have f_z2_5 := x_z2.f 5 _ rfl
  have t2 := hb.size
  try simp at t2
  clear hb hB1 hs1 x_x1 z_x1 c_x1_0 c_x1_1 c_x1_2 c_x1_3 c_x1_4 c_x1_5 f_x1_0 f_x1_1 f_x1_2 f_x1_3 f_x1_4 f_x1_5 x_z1 z_z1 c_z1_0 c_z1_1 c_z1_2 c_z1_3 c_z1_4 c_z1_5 f_z1_0 f_z1_1 f_z1_2 f_z1_3 f_z1_4 f_z1_5
  go_upto_region 7 with fail
  have x_q80 : Box (w2.alloc (.cells #[.int .u64 qh, .int .u64 ql] 69)) w2.heap.size [.int .u64 qh, .int .u64 ql] := Box.new rfl
  have x_x80 := Box.alloc x_x2 (.cells #[.int .u64 qh, .int .u64 ql] 69)
  have x_z80 := Box.alloc x_z2 (.cells #[.int .u64 qh, .int .u64 ql] 69)
  have hB80 := hB2.alloc hs2 (.cells #[.int .u64 qh, .int .u64 ql] 69)
  have hs80 := hB80.size
  obtain ⟨w80, h9⟩ : ∃ W, w2.alloc (.cells #[.int .u64 qh, .int .u64 ql] 69) = W := ⟨_, rfl⟩
  rw [h9] at x_q80 x_x80 x_z80 hB80 hs80 ⊢
  clear hB2 hs2 h9 x_x2 z_x2 c_x2_0 c_x2_1 c_x2_2 c_x2_3 c_x2_4 c_x2_5 f_x2_0 f_x2_1 f_x2_2 f_x2_3 f_x2_4 f_x2_5 x_z2 z_z2 c_z2_0 c_z2_1 c_z2_2 c_z2_3 c_z2_4 c_z2_5 f_z2_0 f_z2_1 f_z2_2 f_z2_3 f_z2_4 f_z2_5
  have z_x80 := x_x80.lt
  have c_x80_0 := x_x80.c 0 _ rfl; have f_x80_0 := x_x80.f 0 _ rfl
  have c_x80_1 := x_x80.c 1 _ rfl; have f_x80_1 := x_x80.f 1 _ rfl
  have c_x80_2 := x_x80.c 2 _ rfl; have f_x80_2 := x_x80.f 2 _ rfl
  have c_x80_3 := x_x80.c 3 _ rfl; have f_x80_3 := x_x80.f 3 _ rfl
  have c_x80_4 := x_x80.c 4 _ rfl; have f_x80_4 := x_x80.f 4 _ rfl
  have c_x80_5 := x_x80.c 5 _ rfl; have f_x80_5 := x_x80.f 5 _ rfl
  have z_z80 := x_z80.lt
  have c_z80_0 := x_z80.c 0 _ rfl; have f_z80_0 := x_z80.f 0 _ rfl
  have c_z80_1 := x_z80.c 1 _ rfl; have f_z80_1 := x_z80.f 1 _ rfl
  have c_z80_2 := x_z80.c 2 _ rfl; have f_z80_2 := x_z80.f 2 _ rfl
  have c_z80_3 := x_z80.c 3 _ rfl; have f_z80_3 := x_z80.f 3 _ rfl
  have c_z80_4 := x_z80.c 4 _ rfl; have f_z80_4 := x_z80.f 4 _ rfl
  have c_z80_5 := x_z80.c 5 _ rfl; have f_z80_5 := x_z80.f 5 _ rfl
  have z_q80 := x_q80.lt
  have c_q80_0 := x_q80.c 0 _ rfl; have f_q80_0 := x_q80.f 0 _ rfl
  have c_q80_1 := x_q80.c 1 _ rfl; have f_q80_1 := x_q80.f 1 _ rfl
  go_upto_region 7 with fail
  go_cut [36] (fun q0 wx => q0 = .bool true ∧ Box wx (w.heap.size) [.int .i64 bu, .int .i64 ra, .int .i64 pe, .int .i64 le, .int .i64 pt, .int .u64 a] ∧ Box wx (w.heap.size + 1) [.int .i64 0, .int .i64 0, .int .i64 0, .int .i64 0, .int .i64 0, .int .u64 0] ∧ Box wx (w2.heap.size) [.int .u64 qh, .int .u64 ql] ∧ Below w.heap.size w wx)
  case first =>
    go_region_held3 (fun w' => w'.cell? ⟨w.heap.size, 0, none⟩ = some (.int .i64 bu) ∧ w'.cell? ⟨w.heap.size, 3, none⟩ = some (.int .i64 le) ∧ w'.cell? ⟨w2.heap.size, 0, none⟩ = some (.int .u64 qh) ∧ w'.cell? ⟨w2.heap.size, 1, none⟩ = some (.int .u64 ql)) (((repeat' apply And.intro) <;> (first | (go_keep; done) | go_cell)))
      (first
        | (go_at_call 34; refine (of_any (bu - le) _).mono ?_; rintro e v1 ⟨rfl, hv1⟩; have hV1 : Below w.heap.size w v1 := below_thru (by go_grown) hv1; have hs_v1 : w.heap.size ≤ v1.heap.size := hV1.size; have x_x_v1 : Box v1 (w.heap.size) [.int .i64 bu, .int .i64 ra, .int .i64 pe, .int .i64 le, .int .i64 pt, .int .u64 a] := (by refine Box.below ?_ hv1; repeat (first | (with_reducible assumption) | (with_reducible refine Box.drew ?_) | (with_reducible refine Box.drewN ?_ _) | ((with_reducible refine Box.new ?_); simp; done) | (with_reducible apply Box.set2) | ((with_reducible apply Box.put); (with_reducible assumption); rfl) | (with_reducible refine Box.alloc ?_ _) | (with_reducible refine Box.other ?_ (by first | (dsimp only; omega) | omega) _))); have z_x_v1 := x_x_v1.lt; have c_x_v1_0 := x_x_v1.c 0 _ rfl; have f_x_v1_0 := x_x_v1.f 0 _ rfl; have c_x_v1_1 := x_x_v1.c 1 _ rfl; have f_x_v1_1 := x_x_v1.f 1 _ rfl; have c_x_v1_2 := x_x_v1.c 2 _ rfl; have f_x_v1_2 := x_x_v1.f 2 _ rfl; have c_x_v1_3 := x_x_v1.c 3 _ rfl; have f_x_v1_3 := x_x_v1.f 3 _ rfl; have c_x_v1_4 := x_x_v1.c 4 _ rfl; have f_x_v1_4 := x_x_v1.f 4 _ rfl; have c_x_v1_5 := x_x_v1.c 5 _ rfl; have f_x_v1_5 := x_x_v1.f 5 _ rfl; have x_z_v1 : Box v1 (w.heap.size + 1) [.int .i64 0, .int .i64 0, .int .i64 0, .int .i64 0, .int .i64 0, .int .u64 0] := (by refine Box.below ?_ hv1; repeat (first | (with_reducible assumption) | (with_reducible refine Box.drew ?_) | (with_reducible refine Box.drewN ?_ _) | ((with_reducible refine Box.new ?_); simp; done) | (with_reducible apply Box.set2) | ((with_reducible apply Box.put); (with_reducible assumption); rfl) | (with_reducible refine Box.alloc ?_ _) | (with_reducible refine Box.other ?_ (by first | (dsimp only; omega) | omega) _))); have z_z_v1 := x_z_v1.lt; have c_z_v1_0 := x_z_v1.c 0 _ rfl; have f_z_v1_0 := x_z_v1.f 0 _ rfl; have c_z_v1_1 := x_z_v1.c 1 _ rfl; have f_z_v1_1 := x_z_v1.f 1 _ rfl; have c_z_v1_2 := x_z_v1.c 2 _ rfl; have f_z_v1_2 := x_z_v1.f 2 _ rfl; have c_z_v1_3 := x_z_v1.c 3 _ rfl; have f_z_v1_3 := x_z_v1.f 3 _ rfl; have c_z_v1_4 := x_z_v1.c 4 _ rfl; have f_z_v1_4 := x_z_v1.f 4 _ rfl; have c_z_v1_5 := x_z_v1.c 5 _ rfl; have f_z_v1_5 := x_z_v1.f 5 _ rfl; have x_q_v1 : Box v1 (w2.heap.size) [.int .u64 qh, .int .u64 ql] := (by refine Box.below ?_ hv1; repeat (first | (with_reducible assumption) | (with_reducible refine Box.drew ?_) | (with_reducible refine Box.drewN ?_ _) | ((with_reducible refine Box.new ?_); simp; done) | (with_reducible apply Box.set2) | ((with_reducible apply Box.put); (with_reducible assumption); rfl) | (with_reducible refine Box.alloc ?_ _) | (with_reducible refine Box.other ?_ (by first | (dsimp only; omega) | omega) _))); have z_q_v1 := x_q_v1.lt; have c_q_v1_0 := x_q_v1.c 0 _ rfl; have f_q_v1_0 := x_q_v1.f 0 _ rfl; have c_q_v1_1 := x_q_v1.c 1 _ rfl; have f_q_v1_1 := x_q_v1.f 1 _ rfl)
        | (go_at_call 33; refine (cmp_nm _ k2 k5 E7).mono ?_; rintro e v2 ⟨rfl, hv2⟩; have hV2 : Below w.heap.size w v2 := below_thru (by go_grown) hv2; have hs_v2 : w.heap.size ≤ v2.heap.size := hV2.size; have x_x_v2 : Box v2 (w.heap.size) [.int .i64 bu, .int .i64 ra, .int .i64 pe, .int .i64 le, .int .i64 pt, .int .u64 a] := (by refine Box.below ?_ hv2; repeat (first | (with_reducible assumption) | (with_reducible refine Box.drew ?_) | (with_reducible refine Box.drewN ?_ _) | ((with_reducible refine Box.new ?_); simp; done) | (with_reducible apply Box.set2) | ((with_reducible apply Box.put); (with_reducible assumption); rfl) | (with_reducible refine Box.alloc ?_ _) | (with_reducible refine Box.other ?_ (by first | (dsimp only; omega) | omega) _))); have z_x_v2 := x_x_v2.lt; have c_x_v2_0 := x_x_v2.c 0 _ rfl; have f_x_v2_0 := x_x_v2.f 0 _ rfl; have c_x_v2_1 := x_x_v2.c 1 _ rfl; have f_x_v2_1 := x_x_v2.f 1 _ rfl; have c_x_v2_2 := x_x_v2.c 2 _ rfl; have f_x_v2_2 := x_x_v2.f 2 _ rfl; have c_x_v2_3 := x_x_v2.c 3 _ rfl; have f_x_v2_3 := x_x_v2.f 3 _ rfl; have c_x_v2_4 := x_x_v2.c 4 _ rfl; have f_x_v2_4 := x_x_v2.f 4 _ rfl; have c_x_v2_5 := x_x_v2.c 5 _ rfl; have f_x_v2_5 := x_x_v2.f 5 _ rfl; have x_z_v2 : Box v2 (w.heap.size + 1) [.int .i64 0, .int .i64 0, .int .i64 0, .int .i64 0, .int .i64 0, .int .u64 0] := (by refine Box.below ?_ hv2; repeat (first | (with_reducible assumption) | (with_reducible refine Box.drew ?_) | (with_reducible refine Box.drewN ?_ _) | ((with_reducible refine Box.new ?_); simp; done) | (with_reducible apply Box.set2) | ((with_reducible apply Box.put); (with_reducible assumption); rfl) | (with_reducible refine Box.alloc ?_ _) | (with_reducible refine Box.other ?_ (by first | (dsimp only; omega) | omega) _))); have z_z_v2 := x_z_v2.lt; have c_z_v2_0 := x_z_v2.c 0 _ rfl; have f_z_v2_0 := x_z_v2.f 0 _ rfl; have c_z_v2_1 := x_z_v2.c 1 _ rfl; have f_z_v2_1 := x_z_v2.f 1 _ rfl; have c_z_v2_2 := x_z_v2.c 2 _ rfl; have f_z_v2_2 := x_z_v2.f 2 _ rfl; have c_z_v2_3 := x_z_v2.c 3 _ rfl; have f_z_v2_3 := x_z_v2.f 3 _ rfl; have c_z_v2_4 := x_z_v2.c 4 _ rfl; have f_z_v2_4 := x_z_v2.f 4 _ rfl; have c_z_v2_5 := x_z_v2.c 5 _ rfl; have f_z_v2_5 := x_z_v2.f 5 _ rfl; have x_q_v2 : Box v2 (w2.heap.size) [.int .u64 qh, .int .u64 ql] := (by refine Box.below ?_ hv2; repeat (first | (with_reducible assumption) | (with_reducible refine Box.drew ?_) | (with_reducible refine Box.drewN ?_ _) | ((with_reducible refine Box.new ?_); simp; done) | (with_reducible apply Box.set2) | ((with_reducible apply Box.put); (with_reducible assumption); rfl) | (with_reducible refine Box.alloc ?_ _) | (with_reducible refine Box.other ?_ (by first | (dsimp only; omega) | omega) _))); have z_q_v2 := x_q_v2.lt; have c_q_v2_0 := x_q_v2.c 0 _ rfl; have f_q_v2_0 := x_q_v2.f 0 _ rfl; have c_q_v2_1 := x_q_v2.c 1 _ rfl; have f_q_v2_1 := x_q_v2.f 1 _ rfl))
    all_goals
      go_wp2_with fail
      go_meet
      refine ⟨rfl, ?_, ?_, ?_, ?_⟩
      all_goals first
        | ((repeat (first | (with_reducible assumption) | (with_reducible refine Box.drew ?_) | (with_reducible refine Box.drewN ?_ _) | ((with_reducible refine Box.new ?_); simp; done) | (with_reducible apply Box.set2) | (with_reducible refine Box.alloc ?_ _) | (with_reducible refine Box.other ?_ (by first | (dsimp only; omega) | omega) _))); done)
        | (go_grown; done)
  case rest =>
    obtain ⟨rfl, x_x81, x_z81, x_q81, hB81⟩ := hcut
    obtain ⟨w81, rfl⟩ : ∃ u : World, u = wc := ⟨_, rfl⟩
    clear hB80 hs80 x_x80 z_x80 c_x80_0 c_x80_1 c_x80_2 c_x80_3 c_x80_4 c_x80_5 f_x80_0 f_x80_1 f_x80_2 f_x80_3 f_x80_4 f_x80_5 x_z80 z_z80 c_z80_0 c_z80_1 c_z80_2 c_z80_3 c_z80_4 c_z80_5 f_z80_0 f_z80_1 f_z80_2 f_z80_3 f_z80_4 f_z80_5 x_q80 z_q80 c_q80_0 c_q80_1 f_q80_0 f_q80_1
    have hs81 : w.heap.size ≤ w81.heap.size := hB81.size
    have z_x81 := x_x81.lt
    have c_x81_0 := x_x81.c 0 _ rfl; have f_x81_0 := x_x81.f 0 _ rfl
    have c_x81_1 := x_x81.c 1 _ rfl; have f_x81_1 := x_x81.f 1 _ rfl
    have c_x81_2 := x_x81.c 2 _ rfl; have f_x81_2 := x_x81.f 2 _ rfl
    have c_x81_3 := x_x81.c 3 _ rfl; have f_x81_3 := x_x81.f 3 _ rfl
    have c_x81_4 := x_x81.c 4 _ rfl; have f_x81_4 := x_x81.f 4 _ rfl
    have c_x81_5 := x_x81.c 5 _ rfl; have f_x81_5 := x_x81.f 5 _ rfl
    have z_z81 := x_z81.lt
    have c_z81_0 := x_z81.c 0 _ rfl; have f_z81_0 := x_z81.f 0 _ rfl
    have c_z81_1 := x_z81.c 1 _ rfl; have f_z81_1 := x_z81.f 1 _ rfl
    have c_z81_2 := x_z81.c 2 _ rfl; have f_z81_2 := x_z81.f 2 _ rfl
    have c_z81_3 := x_z81.c 3 _ rfl; have f_z81_3 := x_z81.f 3 _ rfl
    have c_z81_4 := x_z81.c 4 _ rfl; have f_z81_4 := x_z81.f 4 _ rfl
    have c_z81_5 := x_z81.c 5 _ rfl; have f_z81_5 := x_z81.f 5 _ rfl
    have z_q81 := x_q81.lt
    have c_q81_0 := x_q81.c 0 _ rfl; have f_q81_0 := x_q81.f 0 _ rfl
    have c_q81_1 := x_q81.c 1 _ rfl; have f_q81_1 := x_q81.f 1 _ rfl
    go_wp2_with fail
    refine (full_ok HV _).mono ?_
    rintro e w82 ⟨rfl, hb⟩
    have hB82 : Below w.heap.size w w82 := below_thru (by go_grown) hb
    have hs82 : w.heap.size ≤ w82.heap.size := hB82.size
    have x_x82 : Box w82 (w.heap.size) [.int .i64 bu, .int .i64 ra, .int .i64 pe, .int .i64 le, .int .i64 pt, .int .u64 a] := (by refine Box.below ?_ hb; repeat (first | (with_reducible assumption) | (with_reducible refine Box.drew ?_) | (with_reducible refine Box.drewN ?_ _) | ((with_reducible refine Box.new ?_); simp; done) | (with_reducible apply Box.set2) | ((with_reducible apply Box.put); (with_reducible assumption); rfl) | (with_reducible refine Box.alloc ?_ _) | (with_reducible refine Box.other ?_ (by first | (dsimp only; omega) | omega) _)))
    have z_x82 := x_x82.lt
    have c_x82_0 := x_x82.c 0 _ rfl
    have f_x82_0 := x_x82.f 0 _ rfl
    have c_x82_1 := x_x82.c 1 _ rfl
    have f_x82_1 := x_x82.f 1 _ rfl
    have c_x82_2 := x_x82.c 2 _ rfl
    have f_x82_2 := x_x82.f 2 _ rfl
    have c_x82_3 := x_x82.c 3 _ rfl
    have f_x82_3 := x_x82.f 3 _ rfl
    have c_x82_4 := x_x82.c 4 _ rfl
    have f_x82_4 := x_x82.f 4 _ rfl
    have c_x82_5 := x_x82.c 5 _ rfl
    have f_x82_5 := x_x82.f 5 _ rfl
    have x_z82 : Box w82 (w.heap.size + 1) [.int .i64 0, .int .i64 0, .int .i64 0, .int .i64 0, .int .i64 0, .int .u64 0] := (by refine Box.below ?_ hb; repeat (first | (with_reducible assumption) | (with_reducible refine Box.drew ?_) | (with_reducible refine Box.drewN ?_ _) | ((with_reducible refine Box.new ?_); simp; done) | (with_reducible apply Box.set2) | ((with_reducible apply Box.put); (with_reducible assumption); rfl) | (with_reducible refine Box.alloc ?_ _) | (with_reducible refine Box.other ?_ (by first | (dsimp only; omega) | omega) _)))
    have z_z82 := x_z82.lt
    have c_z82_0 := x_z82.c 0 _ rfl
    have f_z82_0 := x_z82.f 0 _ rfl
    have c_z82_1 := x_z82.c 1 _ rfl
    have f_z82_1 := x_z82.f 1 _ rfl
    have c_z82_2 := x_z82.c 2 _ rfl
    have f_z82_2 := x_z82.f 2 _ rfl
    have c_z82_3 := x_z82.c 3 _ rfl
    have f_z82_3 := x_z82.f 3 _ rfl
    have c_z82_4 := x_z82.c 4 _ rfl
    have f_z82_4 := x_z82.f 4 _ rfl
    have c_z82_5 := x_z82.c 5 _ rfl
    have f_z82_5 := x_z82.f 5 _ rfl
    have x_q82 : Box w82 (w2.heap.size) [.int .u64 qh, .int .u64 ql] := (by refine Box.below ?_ hb; repeat (first | (with_reducible assumption) | (with_reducible refine Box.drew ?_) | (with_reducible refine Box.drewN ?_ _) | ((with_reducible refine Box.new ?_); simp; done) | (with_reducible apply Box.set2) | ((with_reducible apply Box.put); (with_reducible assumption); rfl) | (with_reducible refine Box.alloc ?_ _) | (with_reducible refine Box.other ?_ (by first | (dsimp only; omega) | omega) _)))
    have z_q82 := x_q82.lt
    have c_q82_0 := x_q82.c 0 _ rfl
    have f_q82_0 := x_q82.f 0 _ rfl
    have c_q82_1 := x_q82.c 1 _ rfl
    have f_q82_1 := x_q82.f 1 _ rfl
    have t82 := hb.size
    try simp at t82
    clear hb hB81 hs81 x_x81 z_x81 c_x81_0 c_x81_1 c_x81_2 c_x81_3 c_x81_4 c_x81_5 f_x81_0 f_x81_1 f_x81_2 f_x81_3 f_x81_4 f_x81_5 x_z81 z_z81 c_z81_0 c_z81_1 c_z81_2 c_z81_3 c_z81_4 c_z81_5 f_z81_0 f_z81_1 f_z81_2 f_z81_3 f_z81_4 f_z81_5 x_q81 z_q81 c_q81_0 c_q81_1 f_q81_0 f_q81_1
    go_wp2_with fail
    refine bodyPost_ret (v := .tuple #[.agg #[.int .i64 bu, .int .i64 ra, .int .i64 pe, .int .i64 bu, .int .i64 0, .int .u64 t], .int .i64 0]) (by simp [results, Try.results24, go_sem, c_z82_0, c_z82_1, c_z82_2, c_z82_3, c_z82_4, c_z82_5]) rfl ⟨rfl, ?_⟩
    go_grown

set_option maxRecDepth 100000 in
set_option maxHeartbeats 3200000 in
theorem refill_part {bu ra pe le pt a t : Int} (h : Hid (bucE bu ra pe le pt = 0)) (hv : limE bu ra pe = 0) (hl0 : 0 ≤ le) (hl1 : le ≤ bu) (hq0 : 0 ≤ pt) (hq1 : pt < pe) (ta : isU a) (tt : isU t) (hat : a ≤ t) (hf : inN ra pt a t / pe < bu - le) (w : World) :
    Calls Try.prog 24 #[.agg #[.int .i64 bu, .int .i64 ra, .int .i64 pe, .int .i64 le, .int .i64 pt, .int .u64 a], .int .u64 t] w fun e w' => e = .returned (.tuple #[.agg #[.int .i64 bu, .int .i64 ra, .int .i64 pe, .int .i64 (le + inN ra pt a t / pe), .int .i64 (inN ra pt a t % pe), .int .u64 t], .int .i64 0]) ∧ Below w.heap.size w w' := by
  obtain ⟨z1, z2, z3, z4, z5, z6⟩ := limE_zero hv
  obtain ⟨g0, g1⟩ := fil_range z3 z4 ta tt hat hq0 (by omega)
  have HV := Lib.hid hv
  have d1 : decide (t < a) = false := decide_eq_false (by omega)
  have gi : inN ra pt a t = (t - a) * ra + pt := rfl
  obtain ⟨qh, e1⟩ : ∃ x, wHi (inN ra pt a t / pe) = x := ⟨_, rfl⟩
  obtain ⟨ql, e2⟩ : ∃ x, wLo (inN ra pt a t / pe) = x := ⟨_, rfl⟩
  obtain ⟨m, e3⟩ : ∃ x, inN ra pt a t % pe = x := ⟨_, rfl⟩
  have F1 := Lib.hid e1
  have F2 := Lib.hid e2
  have F3 := Lib.hid e3
  have k2 : isU ql := by rw [← e2]; exact isU_lo _
  have k5 : isU (bu - le) := by unfold isU; omega
  have u4 : IntKind.u64.wrap (bu - le) = bu - le := IntWalk.u64_in _ (by omega)
  have u6 : IntKind.i64.wrap (bu - le) = bu - le := IntWalk.i64_in _ (by omega)
  obtain ⟨cc, e8⟩ : ∃ x, cmpI (wN qh ql) (wN 0 (bu - le)) = x := ⟨_, rfl⟩
  have E7 := Lib.hid e8
  rw [← e1, ← e2, wN_parts, show wN 0 (bu - le) = bu - le by unfold wN; omega] at e8
  have d2 : decide (0 ≤ cc) = false := decide_eq_false (by rw [← e8]; unfold cmpI; split <;> (try split) <;> omega)
  have hq : 0 ≤ inN ra pt a t / pe := Int.ediv_nonneg (by omega) (by omega)
  have hqh : qh = 0 := by rw [← e1]; unfold wHi; omega
  have hql : ql = inN ra pt a t / pe := by rw [← e2]; unfold wLo; omega
  have hm0 : 0 ≤ m := by rw [← e3]; exact Int.emod_nonneg _ (by omega)
  have hm1 : m < pe := by rw [← e3]; exact Int.emod_lt_of_pos _ (by omega)
  rw [← hql, e3]
  have b1 : 0 ≤ ql := by omega
  have b2 : ql ≤ 1000000000 := by omega
  have b3 : le + ql ≤ 1000000000 := by omega
  subst hqh
  clear e1 e2 e3 e8 hf hql hq gi hv
  go_enter Try.func24, Try.ntmps24
  go_wp2_with fail
  refine (check_is h _).mono ?_
  rintro e w1 ⟨rfl, hb⟩
  have hB1 : Below w.heap.size w w1 := below_thru (by go_grown) hb
  have hs1 : w.heap.size ≤ w1.heap.size := hB1.size
  have x_x1 : Box w1 (w.heap.size) [.int .i64 bu, .int .i64 ra, .int .i64 pe, .int .i64 le, .int .i64 pt, .int .u64 a] := (by refine Box.below ?_ hb; repeat (first | (with_reducible assumption) | (with_reducible refine Box.drew ?_) | (with_reducible refine Box.drewN ?_ _) | ((with_reducible refine Box.new ?_); simp; done) | (with_reducible apply Box.set2) | ((with_reducible apply Box.put); (with_reducible assumption); rfl) | (with_reducible refine Box.alloc ?_ _) | (with_reducible refine Box.other ?_ (by first | (dsimp only; omega) | omega) _)))
  have z_x1 := x_x1.lt
  have c_x1_0 := x_x1.c 0 _ rfl
  have f_x1_0 := x_x1.f 0 _ rfl
  have c_x1_1 := x_x1.c 1 _ rfl
  have f_x1_1 := x_x1.f 1 _ rfl
  have c_x1_2 := x_x1.c 2 _ rfl
  have f_x1_2 := x_x1.f 2 _ rfl
  have c_x1_3 := x_x1.c 3 _ rfl
  have f_x1_3 := x_x1.f 3 _ rfl
  have c_x1_4 := x_x1.c 4 _ rfl
  have f_x1_4 := x_x1.f 4 _ rfl
  have c_x1_5 := x_x1.c 5 _ rfl
  have f_x1_5 := x_x1.f 5 _ rfl
  have x_z1 : Box w1 (w.heap.size + 1) [.int .i64 0, .int .i64 0, .int .i64 0, .int .i64 0, .int .i64 0, .int .u64 0] := (by refine Box.below ?_ hb; repeat (first | (with_reducible assumption) | (with_reducible refine Box.drew ?_) | (with_reducible refine Box.drewN ?_ _) | ((with_reducible refine Box.new ?_); simp; done) | (with_reducible apply Box.set2) | ((with_reducible apply Box.put); (with_reducible assumption); rfl) | (with_reducible refine Box.alloc ?_ _) | (with_reducible refine Box.other ?_ (by first | (dsimp only; omega) | omega) _)))
  have z_z1 := x_z1.lt
  have c_z1_0 := x_z1.c 0 _ rfl
  have f_z1_0 := x_z1.f 0 _ rfl
  have c_z1_1 := x_z1.c 1 _ rfl
  have f_z1_1 := x_z1.f 1 _ rfl
  have c_z1_2 := x_z1.c 2 _ rfl
  have f_z1_2 := x_z1.f 2 _ rfl
  have c_z1_3 := x_z1.c 3 _ rfl
  have f_z1_3 := x_z1.f 3 _ rfl
  have c_z1_4 := x_z1.c 4 _ rfl
  have f_z1_4 := x_z1.f 4 _ rfl
  have c_z1_5 := x_z1.c 5 _ rfl
  have f_z1_5 := x_z1.f 5 _ rfl
  have t1 := hb.size
  try simp at t1
  clear hb
  go_wp2_with fail
  refine (comein_is HV.out hl0 hl1 hq0 hq1 ta tt hat F1 F2 F3 _).mono ?_
  rintro e w2 ⟨rfl, hb⟩
  have hB2 : Below w.heap.size w w2 := below_thru (by go_grown) hb
  have hs2 : w.heap.size ≤ w2.heap.size := hB2.size
  have x_x2 : Box w2 (w.heap.size) [.int .i64 bu, .int .i64 ra, .int .i64 pe, .int .i64 le, .int .i64 pt, .int .u64 a] := (by refine Box.below ?_ hb; repeat (first | (with_reducible assumption) | (with_reducible refine Box.drew ?_) | (with_reducible refine Box.drewN ?_ _) | ((with_reducible refine Box.new ?_); simp; done) | (with_reducible apply Box.set2) | ((with_reducible apply Box.put); (with_reducible assumption); rfl) | (with_reducible refine Box.alloc ?_ _) | (with_reducible refine Box.other ?_ (by first | (dsimp only; omega) | omega) _)))
  have z_x2 := x_x2.lt
  have c_x2_0 := x_x2.c 0 _ rfl
  have f_x2_0 := x_x2.f 0 _ rfl
  have c_x2_1 := x_x2.c 1 _ rfl
  have f_x2_1 := x_x2.f 1 _ rfl
  have c_x2_2 := x_x2.c 2 _ rfl
  have f_x2_2 := x_x2.f 2 _ rfl
  have c_x2_3 := x_x2.c 3 _ rfl
  have f_x2_3 := x_x2.f 3 _ rfl
  have c_x2_4 := x_x2.c 4 _ rfl
  have f_x2_4 := x_x2.f 4 _ rfl
  have c_x2_5 := x_x2.c 5 _ rfl
  have f_x2_5 := x_x2.f 5 _ rfl
  have x_z2 : Box w2 (w.heap.size + 1) [.int .i64 0, .int .i64 0, .int .i64 0, .int .i64 0, .int .i64 0, .int .u64 0] := (by refine Box.below ?_ hb; repeat (first | (with_reducible assumption) | (with_reducible refine Box.drew ?_) | (with_reducible refine Box.drewN ?_ _) | ((with_reducible refine Box.new ?_); simp; done) | (with_reducible apply Box.set2) | ((with_reducible apply Box.put); (with_reducible assumption); rfl) | (with_reducible refine Box.alloc ?_ _) | (with_reducible refine Box.other ?_ (by first | (dsimp only; omega) | omega) _)))
  have z_z2 := x_z2.lt
  have c_z2_0 := x_z2.c 0 _ rfl
  have f_z2_0 := x_z2.f 0 _ rfl
  have c_z2_1 := x_z2.c 1 _ rfl
  have f_z2_1 := x_z2.f 1 _ rfl
  have c_z2_2 := x_z2.c 2 _ rfl
  have f_z2_2 := x_z2.f 2 _ rfl
  have c_z2_3 := x_z2.c 3 _ rfl
  have f_z2_3 := x_z2.f 3 _ rfl
  have c_z2_4 := x_z2.c 4 _ rfl
  have f_z2_4 := x_z2.f 4 _ rfl
  have c_z2_5 := x_z2.c 5 _ rfl
  have f_z2_5 := x_z2.f 5 _ rfl
  have t2 := hb.size
  try simp at t2
  clear hb hB1 hs1 x_x1 z_x1 c_x1_0 c_x1_1 c_x1_2 c_x1_3 c_x1_4 c_x1_5 f_x1_0 f_x1_1 f_x1_2 f_x1_3 f_x1_4 f_x1_5 x_z1 z_z1 c_z1_0 c_z1_1 c_z1_2 c_z1_3 c_z1_4 c_z1_5 f_z1_0 f_z1_1 f_z1_2 f_z1_3 f_z1_4 f_z1_5
  go_upto_region 7 with fail
  have x_q80 : Box (w2.alloc (.cells #[.int .u64 0, .int .u64 ql] 69)) w2.heap.size [.int .u64 0, .int .u64 ql] := Box.new rfl
  have x_x80 := Box.alloc x_x2 (.cells #[.int .u64 0, .int .u64 ql] 69)
  have x_z80 := Box.alloc x_z2 (.cells #[.int .u64 0, .int .u64 ql] 69)
  have hB80 := hB2.alloc hs2 (.cells #[.int .u64 0, .int .u64 ql] 69)
  have hs80 := hB80.size
  obtain ⟨w80, h9⟩ : ∃ W, w2.alloc (.cells #[.int .u64 0, .int .u64 ql] 69) = W := ⟨_, rfl⟩
  rw [h9] at x_q80 x_x80 x_z80 hB80 hs80 ⊢
  clear hB2 hs2 h9 x_x2 z_x2 c_x2_0 c_x2_1 c_x2_2 c_x2_3 c_x2_4 c_x2_5 f_x2_0 f_x2_1 f_x2_2 f_x2_3 f_x2_4 f_x2_5 x_z2 z_z2 c_z2_0 c_z2_1 c_z2_2 c_z2_3 c_z2_4 c_z2_5 f_z2_0 f_z2_1 f_z2_2 f_z2_3 f_z2_4 f_z2_5
  have z_x80 := x_x80.lt
  have c_x80_0 := x_x80.c 0 _ rfl; have f_x80_0 := x_x80.f 0 _ rfl
  have c_x80_1 := x_x80.c 1 _ rfl; have f_x80_1 := x_x80.f 1 _ rfl
  have c_x80_2 := x_x80.c 2 _ rfl; have f_x80_2 := x_x80.f 2 _ rfl
  have c_x80_3 := x_x80.c 3 _ rfl; have f_x80_3 := x_x80.f 3 _ rfl
  have c_x80_4 := x_x80.c 4 _ rfl; have f_x80_4 := x_x80.f 4 _ rfl
  have c_x80_5 := x_x80.c 5 _ rfl; have f_x80_5 := x_x80.f 5 _ rfl
  have z_z80 := x_z80.lt
  have c_z80_0 := x_z80.c 0 _ rfl; have f_z80_0 := x_z80.f 0 _ rfl
  have c_z80_1 := x_z80.c 1 _ rfl; have f_z80_1 := x_z80.f 1 _ rfl
  have c_z80_2 := x_z80.c 2 _ rfl; have f_z80_2 := x_z80.f 2 _ rfl
  have c_z80_3 := x_z80.c 3 _ rfl; have f_z80_3 := x_z80.f 3 _ rfl
  have c_z80_4 := x_z80.c 4 _ rfl; have f_z80_4 := x_z80.f 4 _ rfl
  have c_z80_5 := x_z80.c 5 _ rfl; have f_z80_5 := x_z80.f 5 _ rfl
  have z_q80 := x_q80.lt
  have c_q80_0 := x_q80.c 0 _ rfl; have f_q80_0 := x_q80.f 0 _ rfl
  have c_q80_1 := x_q80.c 1 _ rfl; have f_q80_1 := x_q80.f 1 _ rfl
  go_upto_region 7 with fail
  go_cut [36] (fun q0 wx => q0 = .bool false ∧ Box wx (w.heap.size) [.int .i64 bu, .int .i64 ra, .int .i64 pe, .int .i64 le, .int .i64 pt, .int .u64 a] ∧ Box wx (w.heap.size + 1) [.int .i64 0, .int .i64 0, .int .i64 0, .int .i64 0, .int .i64 0, .int .u64 0] ∧ Box wx (w2.heap.size) [.int .u64 0, .int .u64 ql] ∧ Below w.heap.size w wx)
  case first =>
    go_region_held3 (fun w' => w'.cell? ⟨w.heap.size, 0, none⟩ = some (.int .i64 bu) ∧ w'.cell? ⟨w.heap.size, 3, none⟩ = some (.int .i64 le) ∧ w'.cell? ⟨w2.heap.size, 0, none⟩ = some (.int .u64 0) ∧ w'.cell? ⟨w2.heap.size, 1, none⟩ = some (.int .u64 ql)) (((repeat' apply And.intro) <;> (first | (go_keep; done) | go_cell)))
      (first
        | (go_at_call 34; refine (of_any (bu - le) _).mono ?_; rintro e v1 ⟨rfl, hv1⟩; have hV1 : Below w.heap.size w v1 := below_thru (by go_grown) hv1; have hs_v1 : w.heap.size ≤ v1.heap.size := hV1.size; have x_x_v1 : Box v1 (w.heap.size) [.int .i64 bu, .int .i64 ra, .int .i64 pe, .int .i64 le, .int .i64 pt, .int .u64 a] := (by refine Box.below ?_ hv1; repeat (first | (with_reducible assumption) | (with_reducible refine Box.drew ?_) | (with_reducible refine Box.drewN ?_ _) | ((with_reducible refine Box.new ?_); simp; done) | (with_reducible apply Box.set2) | ((with_reducible apply Box.put); (with_reducible assumption); rfl) | (with_reducible refine Box.alloc ?_ _) | (with_reducible refine Box.other ?_ (by first | (dsimp only; omega) | omega) _))); have z_x_v1 := x_x_v1.lt; have c_x_v1_0 := x_x_v1.c 0 _ rfl; have f_x_v1_0 := x_x_v1.f 0 _ rfl; have c_x_v1_1 := x_x_v1.c 1 _ rfl; have f_x_v1_1 := x_x_v1.f 1 _ rfl; have c_x_v1_2 := x_x_v1.c 2 _ rfl; have f_x_v1_2 := x_x_v1.f 2 _ rfl; have c_x_v1_3 := x_x_v1.c 3 _ rfl; have f_x_v1_3 := x_x_v1.f 3 _ rfl; have c_x_v1_4 := x_x_v1.c 4 _ rfl; have f_x_v1_4 := x_x_v1.f 4 _ rfl; have c_x_v1_5 := x_x_v1.c 5 _ rfl; have f_x_v1_5 := x_x_v1.f 5 _ rfl; have x_z_v1 : Box v1 (w.heap.size + 1) [.int .i64 0, .int .i64 0, .int .i64 0, .int .i64 0, .int .i64 0, .int .u64 0] := (by refine Box.below ?_ hv1; repeat (first | (with_reducible assumption) | (with_reducible refine Box.drew ?_) | (with_reducible refine Box.drewN ?_ _) | ((with_reducible refine Box.new ?_); simp; done) | (with_reducible apply Box.set2) | ((with_reducible apply Box.put); (with_reducible assumption); rfl) | (with_reducible refine Box.alloc ?_ _) | (with_reducible refine Box.other ?_ (by first | (dsimp only; omega) | omega) _))); have z_z_v1 := x_z_v1.lt; have c_z_v1_0 := x_z_v1.c 0 _ rfl; have f_z_v1_0 := x_z_v1.f 0 _ rfl; have c_z_v1_1 := x_z_v1.c 1 _ rfl; have f_z_v1_1 := x_z_v1.f 1 _ rfl; have c_z_v1_2 := x_z_v1.c 2 _ rfl; have f_z_v1_2 := x_z_v1.f 2 _ rfl; have c_z_v1_3 := x_z_v1.c 3 _ rfl; have f_z_v1_3 := x_z_v1.f 3 _ rfl; have c_z_v1_4 := x_z_v1.c 4 _ rfl; have f_z_v1_4 := x_z_v1.f 4 _ rfl; have c_z_v1_5 := x_z_v1.c 5 _ rfl; have f_z_v1_5 := x_z_v1.f 5 _ rfl; have x_q_v1 : Box v1 (w2.heap.size) [.int .u64 0, .int .u64 ql] := (by refine Box.below ?_ hv1; repeat (first | (with_reducible assumption) | (with_reducible refine Box.drew ?_) | (with_reducible refine Box.drewN ?_ _) | ((with_reducible refine Box.new ?_); simp; done) | (with_reducible apply Box.set2) | ((with_reducible apply Box.put); (with_reducible assumption); rfl) | (with_reducible refine Box.alloc ?_ _) | (with_reducible refine Box.other ?_ (by first | (dsimp only; omega) | omega) _))); have z_q_v1 := x_q_v1.lt; have c_q_v1_0 := x_q_v1.c 0 _ rfl; have f_q_v1_0 := x_q_v1.f 0 _ rfl; have c_q_v1_1 := x_q_v1.c 1 _ rfl; have f_q_v1_1 := x_q_v1.f 1 _ rfl)
        | (go_at_call 33; refine (cmp_nm _ k2 k5 E7).mono ?_; rintro e v2 ⟨rfl, hv2⟩; have hV2 : Below w.heap.size w v2 := below_thru (by go_grown) hv2; have hs_v2 : w.heap.size ≤ v2.heap.size := hV2.size; have x_x_v2 : Box v2 (w.heap.size) [.int .i64 bu, .int .i64 ra, .int .i64 pe, .int .i64 le, .int .i64 pt, .int .u64 a] := (by refine Box.below ?_ hv2; repeat (first | (with_reducible assumption) | (with_reducible refine Box.drew ?_) | (with_reducible refine Box.drewN ?_ _) | ((with_reducible refine Box.new ?_); simp; done) | (with_reducible apply Box.set2) | ((with_reducible apply Box.put); (with_reducible assumption); rfl) | (with_reducible refine Box.alloc ?_ _) | (with_reducible refine Box.other ?_ (by first | (dsimp only; omega) | omega) _))); have z_x_v2 := x_x_v2.lt; have c_x_v2_0 := x_x_v2.c 0 _ rfl; have f_x_v2_0 := x_x_v2.f 0 _ rfl; have c_x_v2_1 := x_x_v2.c 1 _ rfl; have f_x_v2_1 := x_x_v2.f 1 _ rfl; have c_x_v2_2 := x_x_v2.c 2 _ rfl; have f_x_v2_2 := x_x_v2.f 2 _ rfl; have c_x_v2_3 := x_x_v2.c 3 _ rfl; have f_x_v2_3 := x_x_v2.f 3 _ rfl; have c_x_v2_4 := x_x_v2.c 4 _ rfl; have f_x_v2_4 := x_x_v2.f 4 _ rfl; have c_x_v2_5 := x_x_v2.c 5 _ rfl; have f_x_v2_5 := x_x_v2.f 5 _ rfl; have x_z_v2 : Box v2 (w.heap.size + 1) [.int .i64 0, .int .i64 0, .int .i64 0, .int .i64 0, .int .i64 0, .int .u64 0] := (by refine Box.below ?_ hv2; repeat (first | (with_reducible assumption) | (with_reducible refine Box.drew ?_) | (with_reducible refine Box.drewN ?_ _) | ((with_reducible refine Box.new ?_); simp; done) | (with_reducible apply Box.set2) | ((with_reducible apply Box.put); (with_reducible assumption); rfl) | (with_reducible refine Box.alloc ?_ _) | (with_reducible refine Box.other ?_ (by first | (dsimp only; omega) | omega) _))); have z_z_v2 := x_z_v2.lt; have c_z_v2_0 := x_z_v2.c 0 _ rfl; have f_z_v2_0 := x_z_v2.f 0 _ rfl; have c_z_v2_1 := x_z_v2.c 1 _ rfl; have f_z_v2_1 := x_z_v2.f 1 _ rfl; have c_z_v2_2 := x_z_v2.c 2 _ rfl; have f_z_v2_2 := x_z_v2.f 2 _ rfl; have c_z_v2_3 := x_z_v2.c 3 _ rfl; have f_z_v2_3 := x_z_v2.f 3 _ rfl; have c_z_v2_4 := x_z_v2.c 4 _ rfl; have f_z_v2_4 := x_z_v2.f 4 _ rfl; have c_z_v2_5 := x_z_v2.c 5 _ rfl; have f_z_v2_5 := x_z_v2.f 5 _ rfl; have x_q_v2 : Box v2 (w2.heap.size) [.int .u64 0, .int .u64 ql] := (by refine Box.below ?_ hv2; repeat (first | (with_reducible assumption) | (with_reducible refine Box.drew ?_) | (with_reducible refine Box.drewN ?_ _) | ((with_reducible refine Box.new ?_); simp; done) | (with_reducible apply Box.set2) | ((with_reducible apply Box.put); (with_reducible assumption); rfl) | (with_reducible refine Box.alloc ?_ _) | (with_reducible refine Box.other ?_ (by first | (dsimp only; omega) | omega) _))); have z_q_v2 := x_q_v2.lt; have c_q_v2_0 := x_q_v2.c 0 _ rfl; have f_q_v2_0 := x_q_v2.f 0 _ rfl; have c_q_v2_1 := x_q_v2.c 1 _ rfl; have f_q_v2_1 := x_q_v2.f 1 _ rfl))
    all_goals
      go_wp2_with fail
      go_meet
      refine ⟨rfl, ?_, ?_, ?_, ?_⟩
      all_goals first
        | ((repeat (first | (with_reducible assumption) | (with_reducible refine Box.drew ?_) | (with_reducible refine Box.drewN ?_ _) | ((with_reducible refine Box.new ?_); simp; done) | (with_reducible apply Box.set2) | (with_reducible refine Box.alloc ?_ _) | (with_reducible refine Box.other ?_ (by first | (dsimp only; omega) | omega) _))); done)
        | (go_grown; done)
  case rest =>
    obtain ⟨rfl, x_x81, x_z81, x_q81, hB81⟩ := hcut
    obtain ⟨w81, rfl⟩ : ∃ u : World, u = wc := ⟨_, rfl⟩
    clear hB80 hs80 x_x80 z_x80 c_x80_0 c_x80_1 c_x80_2 c_x80_3 c_x80_4 c_x80_5 f_x80_0 f_x80_1 f_x80_2 f_x80_3 f_x80_4 f_x80_5 x_z80 z_z80 c_z80_0 c_z80_1 c_z80_2 c_z80_3 c_z80_4 c_z80_5 f_z80_0 f_z80_1 f_z80_2 f_z80_3 f_z80_4 f_z80_5 x_q80 z_q80 c_q80_0 c_q80_1 f_q80_0 f_q80_1
    have hs81 : w.heap.size ≤ w81.heap.size := hB81.size
    have z_x81 := x_x81.lt
    have c_x81_0 := x_x81.c 0 _ rfl; have f_x81_0 := x_x81.f 0 _ rfl
    have c_x81_1 := x_x81.c 1 _ rfl; have f_x81_1 := x_x81.f 1 _ rfl
    have c_x81_2 := x_x81.c 2 _ rfl; have f_x81_2 := x_x81.f 2 _ rfl
    have c_x81_3 := x_x81.c 3 _ rfl; have f_x81_3 := x_x81.f 3 _ rfl
    have c_x81_4 := x_x81.c 4 _ rfl; have f_x81_4 := x_x81.f 4 _ rfl
    have c_x81_5 := x_x81.c 5 _ rfl; have f_x81_5 := x_x81.f 5 _ rfl
    have z_z81 := x_z81.lt
    have c_z81_0 := x_z81.c 0 _ rfl; have f_z81_0 := x_z81.f 0 _ rfl
    have c_z81_1 := x_z81.c 1 _ rfl; have f_z81_1 := x_z81.f 1 _ rfl
    have c_z81_2 := x_z81.c 2 _ rfl; have f_z81_2 := x_z81.f 2 _ rfl
    have c_z81_3 := x_z81.c 3 _ rfl; have f_z81_3 := x_z81.f 3 _ rfl
    have c_z81_4 := x_z81.c 4 _ rfl; have f_z81_4 := x_z81.f 4 _ rfl
    have c_z81_5 := x_z81.c 5 _ rfl; have f_z81_5 := x_z81.f 5 _ rfl
    have z_q81 := x_q81.lt
    have c_q81_0 := x_q81.c 0 _ rfl; have f_q81_0 := x_q81.f 0 _ rfl
    have c_q81_1 := x_q81.c 1 _ rfl; have f_q81_1 := x_q81.f 1 _ rfl
    go_wp2_with fail
    refine bodyPost_ret (v := .tuple #[.agg #[.int .i64 bu, .int .i64 ra, .int .i64 pe, .int .i64 (le + ql), .int .i64 m, .int .u64 t], .int .i64 0]) (by simp [results, Try.results24, go_sem, c_z81_0, c_z81_1, c_z81_2, c_z81_3, c_z81_4, c_z81_5]) rfl ⟨rfl, ?_⟩
    go_grown

theorem refill_ok {bu ra pe le pt a t L P T : Int} (h : Buc bu ra pe le pt a) (ht : isU t) (h1 : Hid (filL bu ra pe le pt a t = L)) (h2 : Hid (filP bu ra pe le pt a t = P)) (h3 : Hid (filA a t = T)) (w : World) :
    Calls Try.prog 24 #[.agg #[.int .i64 bu, .int .i64 ra, .int .i64 pe, .int .i64 le, .int .i64 pt, .int .u64 a], .int .u64 t] w fun e w' =>
      e = .returned (.tuple #[.agg #[.int .i64 bu, .int .i64 ra, .int .i64 pe, .int .i64 L, .int .i64 P, .int .u64 T], .int .i64 0]) ∧ Below w.heap.size w w' := by
  rw [← h1.out, ← h2.out, ← h3.out]
  have hk := Lib.hid h.ok
  unfold filL filP filA
  by_cases c1 : t < a
  · rw [if_pos c1, if_pos c1, if_pos c1]
    exact refill_before hk c1 w
  · rw [if_neg c1, if_neg c1, if_neg c1]
    by_cases c2 : bu - le ≤ inN ra pt a t / pe
    · rw [if_pos c2, if_pos c2]
      exact refill_full hk h.lim h.l0 h.l1 h.q0 h.q1 h.tick ht (by omega) c2 w
    · rw [if_neg c2, if_neg c2]
      exact refill_part hk h.lim h.l0 h.l1 h.q0 h.q1 h.tick ht (by omega) (by omega) w

end Go.Proofs.Ytegbcagcfmijcaa
