/-
  BucketMore, walked: the loop.
-/
import Derived.Test.YtmpcpflpcfanjaaMore03
namespace Go.Proofs.Ytmpcpflpcfanjaa
open Go.RowKit

set_option maxRecDepth 100000 in
set_option maxHeartbeats 12800000 in
theorem more_main {bu ra pe le pt a bu2 ra2 pe2 le2 pt2 a2 : Int} {at0 at1 : Option Addr} {cap cap1 : Nat} {ts cs : List Int} (w : World) (hi : Ints w .u64 at0 cap ts) (hj : Ints w .i64 at1 cap1 cs) (h : Hid (bucE bu ra pe le pt = 0)) (h2 : Hid (bucE bu ra pe le2 pt2 = 0)) (h3 : Hid (moreB le2 pt2 le pt = true)) (ht : ∀ k, k < ts.length → isU (nth ts k)) (hl : ts.length ≤ 30) (hm : ts.length ≤ cs.length) (hB : Buc bu ra pe le pt a) (hC : Buc bu ra pe le2 pt2 a) :
    Calls Try.prog 3 #[.agg #[.int .i64 bu, .int .i64 ra, .int .i64 pe, .int .i64 le, .int .i64 pt, .int .u64 a], .agg #[.int .i64 bu2, .int .i64 ra2, .int .i64 pe2, .int .i64 le2, .int .i64 pt2, .int .u64 a2], .slice at0 ts.length cap, .slice at1 cs.length cap1] w fun e w' => e = .returned (.bool true) ∧ Below w.heap.size w w' := by
  have i1 := hi.room
  have i2 := hi.most
  have i3 := hj.room
  have i4 := hj.most
  have d1 : decide ((30 : Int) < (ts.length : Int)) = false := decide_eq_false (by omega)
  have d2 : decide ((cs.length : Int) < (ts.length : Int)) = false := decide_eq_false (by omega)
  have d3 : decide (cs.length < ts.length) = false := decide_eq_false (by omega)
  have d4 : decide (30 < ts.length) = false := decide_eq_false (by omega)
  have HV := Lib.hid (moreB_vol hC.q0 hC.q1 hB.q0 hB.q1 h3.out)
  have HB := Lib.hid hB
  have HC := Lib.hid hC
  clear hB hC
  go_enter Try.func3, Try.ntmps3
  go_upto_region 1 with fail
  go_cut [] (fun  wx => Box wx (w.heap.size) [.int .i64 bu, .int .i64 ra, .int .i64 pe, .int .i64 le, .int .i64 pt, .int .u64 a] ∧ Box wx (w.heap.size + 1) [.int .i64 bu, .int .i64 ra, .int .i64 pe, .int .i64 le2, .int .i64 pt2, .int .u64 a] ∧ Below w.heap.size w wx)
  case first =>
    go_region_held3 (fun w' => w'.cell? ⟨w.heap.size, 0, none⟩ = some (.int .i64 bu) ∧ w'.cell? ⟨w.heap.size, 1, none⟩ = some (.int .i64 ra) ∧ w'.cell? ⟨w.heap.size, 2, none⟩ = some (.int .i64 pe) ∧ w'.cell? ⟨w.heap.size, 5, none⟩ = some (.int .u64 a)) (((repeat' apply And.intro) <;> (first | (go_keep; done) | go_cell)))
      (fail)
    all_goals
      go_wp2_with fail
      go_meet
      refine ⟨?_, ?_, ?_⟩
      all_goals first
        | ((repeat (first | (with_reducible apply put6) | (with_reducible refine other6 ?_ (by first | (dsimp only; omega) | omega) _ _ _ _ _ _) | (with_reducible assumption) | (with_reducible refine Box.drew ?_) | (with_reducible refine Box.drewN ?_ _) | ((with_reducible refine Box.new ?_); simp; done) | (with_reducible apply Box.set2) | (with_reducible refine Box.alloc ?_ _) | (with_reducible refine Box.other ?_ (by first | (dsimp only; omega) | omega) _))); done)
        | (go_grown; done)
  case rest =>
    obtain ⟨x_x1, x_z1, hB1⟩ := hcut
    obtain ⟨w1, rfl⟩ : ∃ u : World, u = wc := ⟨_, rfl⟩
    have hs1 : w.heap.size ≤ w1.heap.size := hB1.size
    have z_x1 := x_x1.lt
    have c_x1_0 := x_x1.c 0 _ rfl; have f_x1_0 := x_x1.f 0 _ rfl
    have c_x1_1 := x_x1.c 1 _ rfl; have f_x1_1 := x_x1.f 1 _ rfl
    have c_x1_2 := x_x1.c 2 _ rfl; have f_x1_2 := x_x1.f 2 _ rfl
    have c_x1_3 := x_x1.c 3 _ rfl; have f_x1_3 := x_x1.f 3 _ rfl
    have c_x1_4 := x_x1.c 4 _ rfl; have f_x1_4 := x_x1.f 4 _ rfl
    have c_x1_5 := x_x1.c 5 _ rfl; have f_x1_5 := x_x1.f 5 _ rfl
    have z_z1 := x_z1.lt
    have c_z1_0 := x_z1.c 0 _ rfl; have f_z1_0 := x_z1.f 0 _ rfl
    have c_z1_1 := x_z1.c 1 _ rfl; have f_z1_1 := x_z1.f 1 _ rfl
    have c_z1_2 := x_z1.c 2 _ rfl; have f_z1_2 := x_z1.f 2 _ rfl
    have c_z1_3 := x_z1.c 3 _ rfl; have f_z1_3 := x_z1.f 3 _ rfl
    have c_z1_4 := x_z1.c 4 _ rfl; have f_z1_4 := x_z1.f 4 _ rfl
    have c_z1_5 := x_z1.c 5 _ rfl; have f_z1_5 := x_z1.f 5 _ rfl
    go_wp2_with fail
    refine (rcheck_is h _).mono ?_
    rintro e w2 ⟨rfl, hb⟩
    have hB2 : Below w.heap.size w w2 := below_thru (by go_grown) hb
    have hs2 : w.heap.size ≤ w2.heap.size := hB2.size
    have x_x2 : Box w2 (w.heap.size) [.int .i64 bu, .int .i64 ra, .int .i64 pe, .int .i64 le, .int .i64 pt, .int .u64 a] := (by refine Box.below ?_ hb; repeat (first | (with_reducible assumption) | (with_reducible refine Box.drew ?_) | (with_reducible refine Box.drewN ?_ _) | ((with_reducible refine Box.new ?_); simp; done) | (with_reducible apply Box.set2) | ((with_reducible apply Box.put); (with_reducible assumption); rfl) | (with_reducible refine Box.alloc ?_ _) | (with_reducible refine Box.other ?_ (by first | (dsimp only; omega) | omega) _)))
    have z_x2 := x_x2.lt
    have c_x2_0 := x_x2.c 0 _ rfl
    have f_x2_0 := x_x2.f 0 _ rfl
    have c_x2_1 := x_x2.c 1 _ rfl
    have f_x2_1 := x_x2.f 1 _ rfl
    have c_x2_2 := x_x2.c 2 _ rfl
    have f_x2_2 := x_x2.f 2 _ rfl
    have c_x2_3 := x_x2.c 3 _ rfl
    have f_x2_3 := x_x2.f 3 _ rfl
    have c_x2_4 := x_x2.c 4 _ rfl
    have f_x2_4 := x_x2.f 4 _ rfl
    have c_x2_5 := x_x2.c 5 _ rfl
    have f_x2_5 := x_x2.f 5 _ rfl
    have x_z2 : Box w2 (w.heap.size + 1) [.int .i64 bu, .int .i64 ra, .int .i64 pe, .int .i64 le2, .int .i64 pt2, .int .u64 a] := (by refine Box.below ?_ hb; repeat (first | (with_reducible assumption) | (with_reducible refine Box.drew ?_) | (with_reducible refine Box.drewN ?_ _) | ((with_reducible refine Box.new ?_); simp; done) | (with_reducible apply Box.set2) | ((with_reducible apply Box.put); (with_reducible assumption); rfl) | (with_reducible refine Box.alloc ?_ _) | (with_reducible refine Box.other ?_ (by first | (dsimp only; omega) | omega) _)))
    have z_z2 := x_z2.lt
    have c_z2_0 := x_z2.c 0 _ rfl
    have f_z2_0 := x_z2.f 0 _ rfl
    have c_z2_1 := x_z2.c 1 _ rfl
    have f_z2_1 := x_z2.f 1 _ rfl
    have c_z2_2 := x_z2.c 2 _ rfl
    have f_z2_2 := x_z2.f 2 _ rfl
    have c_z2_3 := x_z2.c 3 _ rfl
    have f_z2_3 := x_z2.f 3 _ rfl
    have c_z2_4 := x_z2.c 4 _ rfl
    have f_z2_4 := x_z2.f 4 _ rfl
    have c_z2_5 := x_z2.c 5 _ rfl
    have f_z2_5 := x_z2.f 5 _ rfl
    have t2 := hb.size
    try simp at t2
    clear hb hB1 hs1 x_x1 z_x1 c_x1_0 c_x1_1 c_x1_2 c_x1_3 c_x1_4 c_x1_5 f_x1_0 f_x1_1 f_x1_2 f_x1_3 f_x1_4 f_x1_5 x_z1 z_z1 c_z1_0 c_z1_1 c_z1_2 c_z1_3 c_z1_4 c_z1_5 f_z1_0 f_z1_1 f_z1_2 f_z1_3 f_z1_4 f_z1_5
    go_wp2_with fail
    refine (rcheck_is h2 _).mono ?_
    rintro e w3 ⟨rfl, hb⟩
    have hB3 : Below w.heap.size w w3 := below_thru (by go_grown) hb
    have hs3 : w.heap.size ≤ w3.heap.size := hB3.size
    have x_x3 : Box w3 (w.heap.size) [.int .i64 bu, .int .i64 ra, .int .i64 pe, .int .i64 le, .int .i64 pt, .int .u64 a] := (by refine Box.below ?_ hb; repeat (first | (with_reducible assumption) | (with_reducible refine Box.drew ?_) | (with_reducible refine Box.drewN ?_ _) | ((with_reducible refine Box.new ?_); simp; done) | (with_reducible apply Box.set2) | ((with_reducible apply Box.put); (with_reducible assumption); rfl) | (with_reducible refine Box.alloc ?_ _) | (with_reducible refine Box.other ?_ (by first | (dsimp only; omega) | omega) _)))
    have z_x3 := x_x3.lt
    have c_x3_0 := x_x3.c 0 _ rfl
    have f_x3_0 := x_x3.f 0 _ rfl
    have c_x3_1 := x_x3.c 1 _ rfl
    have f_x3_1 := x_x3.f 1 _ rfl
    have c_x3_2 := x_x3.c 2 _ rfl
    have f_x3_2 := x_x3.f 2 _ rfl
    have c_x3_3 := x_x3.c 3 _ rfl
    have f_x3_3 := x_x3.f 3 _ rfl
    have c_x3_4 := x_x3.c 4 _ rfl
    have f_x3_4 := x_x3.f 4 _ rfl
    have c_x3_5 := x_x3.c 5 _ rfl
    have f_x3_5 := x_x3.f 5 _ rfl
    have x_z3 : Box w3 (w.heap.size + 1) [.int .i64 bu, .int .i64 ra, .int .i64 pe, .int .i64 le2, .int .i64 pt2, .int .u64 a] := (by refine Box.below ?_ hb; repeat (first | (with_reducible assumption) | (with_reducible refine Box.drew ?_) | (with_reducible refine Box.drewN ?_ _) | ((with_reducible refine Box.new ?_); simp; done) | (with_reducible apply Box.set2) | ((with_reducible apply Box.put); (with_reducible assumption); rfl) | (with_reducible refine Box.alloc ?_ _) | (with_reducible refine Box.other ?_ (by first | (dsimp only; omega) | omega) _)))
    have z_z3 := x_z3.lt
    have c_z3_0 := x_z3.c 0 _ rfl
    have f_z3_0 := x_z3.f 0 _ rfl
    have c_z3_1 := x_z3.c 1 _ rfl
    have f_z3_1 := x_z3.f 1 _ rfl
    have c_z3_2 := x_z3.c 2 _ rfl
    have f_z3_2 := x_z3.f 2 _ rfl
    have c_z3_3 := x_z3.c 3 _ rfl
    have f_z3_3 := x_z3.f 3 _ rfl
    have c_z3_4 := x_z3.c 4 _ rfl
    have f_z3_4 := x_z3.f 4 _ rfl
    have c_z3_5 := x_z3.c 5 _ rfl
    have f_z3_5 := x_z3.f 5 _ rfl
    have t3 := hb.size
    try simp at t3
    clear hb hB2 hs2 x_x2 z_x2 c_x2_0 c_x2_1 c_x2_2 c_x2_3 c_x2_4 c_x2_5 f_x2_0 f_x2_1 f_x2_2 f_x2_3 f_x2_4 f_x2_5 x_z2 z_z2 c_z2_0 c_z2_1 c_z2_2 c_z2_3 c_z2_4 c_z2_5 f_z2_0 f_z2_1 f_z2_2 f_z2_3 f_z2_4 f_z2_5
    go_wp2_with fail
    refine (more_is h3 _).mono ?_
    rintro e w4 ⟨rfl, hb⟩
    have hB4 : Below w.heap.size w w4 := below_thru (by go_grown) hb
    have hs4 : w.heap.size ≤ w4.heap.size := hB4.size
    have x_x4 : Box w4 (w.heap.size) [.int .i64 bu, .int .i64 ra, .int .i64 pe, .int .i64 le, .int .i64 pt, .int .u64 a] := (by refine Box.below ?_ hb; repeat (first | (with_reducible assumption) | (with_reducible refine Box.drew ?_) | (with_reducible refine Box.drewN ?_ _) | ((with_reducible refine Box.new ?_); simp; done) | (with_reducible apply Box.set2) | ((with_reducible apply Box.put); (with_reducible assumption); rfl) | (with_reducible refine Box.alloc ?_ _) | (with_reducible refine Box.other ?_ (by first | (dsimp only; omega) | omega) _)))
    have z_x4 := x_x4.lt
    have c_x4_0 := x_x4.c 0 _ rfl
    have f_x4_0 := x_x4.f 0 _ rfl
    have c_x4_1 := x_x4.c 1 _ rfl
    have f_x4_1 := x_x4.f 1 _ rfl
    have c_x4_2 := x_x4.c 2 _ rfl
    have f_x4_2 := x_x4.f 2 _ rfl
    have c_x4_3 := x_x4.c 3 _ rfl
    have f_x4_3 := x_x4.f 3 _ rfl
    have c_x4_4 := x_x4.c 4 _ rfl
    have f_x4_4 := x_x4.f 4 _ rfl
    have c_x4_5 := x_x4.c 5 _ rfl
    have f_x4_5 := x_x4.f 5 _ rfl
    have x_z4 : Box w4 (w.heap.size + 1) [.int .i64 bu, .int .i64 ra, .int .i64 pe, .int .i64 le2, .int .i64 pt2, .int .u64 a] := (by refine Box.below ?_ hb; repeat (first | (with_reducible assumption) | (with_reducible refine Box.drew ?_) | (with_reducible refine Box.drewN ?_ _) | ((with_reducible refine Box.new ?_); simp; done) | (with_reducible apply Box.set2) | ((with_reducible apply Box.put); (with_reducible assumption); rfl) | (with_reducible refine Box.alloc ?_ _) | (with_reducible refine Box.other ?_ (by first | (dsimp only; omega) | omega) _)))
    have z_z4 := x_z4.lt
    have c_z4_0 := x_z4.c 0 _ rfl
    have f_z4_0 := x_z4.f 0 _ rfl
    have c_z4_1 := x_z4.c 1 _ rfl
    have f_z4_1 := x_z4.f 1 _ rfl
    have c_z4_2 := x_z4.c 2 _ rfl
    have f_z4_2 := x_z4.f 2 _ rfl
    have c_z4_3 := x_z4.c 3 _ rfl
    have f_z4_3 := x_z4.f 3 _ rfl
    have c_z4_4 := x_z4.c 4 _ rfl
    have f_z4_4 := x_z4.f 4 _ rfl
    have c_z4_5 := x_z4.c 5 _ rfl
    have f_z4_5 := x_z4.f 5 _ rfl
    have t4 := hb.size
    try simp at t4
    clear hb hB3 hs3 x_x3 z_x3 c_x3_0 c_x3_1 c_x3_2 c_x3_3 c_x3_4 c_x3_5 f_x3_0 f_x3_1 f_x3_2 f_x3_3 f_x3_4 f_x3_5 x_z3 z_z3 c_z3_0 c_z3_1 c_z3_2 c_z3_3 c_z3_4 c_z3_5 f_z3_0 f_z3_1 f_z3_2 f_z3_3 f_z3_4 f_z3_5
    go_wp2_with fail
    go_loopw [9] (fun s9 wr => ∃ (k : Nat) (lv pv lv' pv' t : Int), s9 = .int .i64 k ∧ k ≤ ts.length ∧ Hid (Buc bu ra pe lv pv t) ∧ Hid (Buc bu ra pe lv' pv' t) ∧ Hid (vol pe lv pv ≤ vol pe lv' pv') ∧
      Box wr (w.heap.size) [.int .i64 bu, .int .i64 ra, .int .i64 pe, .int .i64 lv, .int .i64 pv, .int .u64 t] ∧ Box wr (w.heap.size + 1) [.int .i64 bu, .int .i64 ra, .int .i64 pe, .int .i64 lv', .int .i64 pv', .int .u64 t] ∧ Below w.heap.size w wr) (fun s9 _ => ts.length - (intOf s9).toNat)
    case atStart => exact ⟨0, le, pt, le2, pt2, a, rfl, by omega, HB, HC, HV, x_x4, x_z4, hB4⟩
    case round =>
      clear hB4 hs4 t4 x_x4 z_x4 c_x4_0 c_x4_1 c_x4_2 c_x4_3 c_x4_4 c_x4_5 f_x4_0 f_x4_1 f_x4_2 f_x4_3 f_x4_4 f_x4_5 x_z4 z_z4 c_z4_0 c_z4_1 c_z4_2 c_z4_3 c_z4_4 c_z4_5 f_z4_0 f_z4_1 f_z4_2 f_z4_3 f_z4_4 f_z4_5
      obtain ⟨k, lv, pv, lv', pv', t, rfl, hk, HB1, HC1, HV1, x_x50, x_z50, hB50⟩ := hrel
      clear HB HC HV h h2 h3
      have hs50 := hB50.size
      by_cases hlt : k < ts.length
      case neg =>
        go_wp2_with fail
        refine (alive03_any _).mono ?_
        rintro e w51 ⟨rfl, hb⟩
        go_wp2_with fail
        go_returns
        exact ⟨rfl, below_thru hB50 hb⟩
      case pos =>
        obtain ⟨tb, toff, rfl, T0⟩ := hi.at hlt
        obtain ⟨cb, coff, rfl, C0⟩ := hj.at (show k < cs.length by omega)
        have zt := lt_of_cell T0
        have zc := lt_of_cell C0
        have hkc : (k : Int) < (cs.length : Int) := by omega
        have htk := ht k hlt
        obtain ⟨tk, etk⟩ : ∃ x, nth ts k = x := ⟨_, rfl⟩
        obtain ⟨co, eco⟩ : ∃ x, nth cs k = x := ⟨_, rfl⟩
        rw [etk] at T0 htk
        rw [eco] at C0
        clear etk eco
        have bF := HB1.out.filled htk
        have cF := HC1.out.filled htk
        have vF := more_filled (t := tk) HC1.out HB1.out HV1.out
        obtain ⟨L, e1⟩ : ∃ x, filL bu ra pe lv pv t tk = x := ⟨_, rfl⟩
        obtain ⟨Q, e2⟩ : ∃ x, filP bu ra pe lv pv t tk = x := ⟨_, rfl⟩
        obtain ⟨T, e3⟩ : ∃ x, filA t tk = x := ⟨_, rfl⟩
        obtain ⟨L', e4⟩ : ∃ x, filL bu ra pe lv' pv' t tk = x := ⟨_, rfl⟩
        obtain ⟨Q', e5⟩ : ∃ x, filP bu ra pe lv' pv' t tk = x := ⟨_, rfl⟩
        rw [e1, e2, e3] at bF
        rw [e4, e5, e3] at cF
        rw [e1, e2, e4, e5] at vF
        have E1 := Lib.hid e1
        have E2 := Lib.hid e2
        have E3 := Lib.hid e3
        have E4 := Lib.hid e4
        have E5 := Lib.hid e5
        have M1 := Lib.hid (moreB_yes cF.q0 cF.q1 bF.q0 bF.q1 vF)
        obtain ⟨y0, y1, y2, y3, y4, y5, n2, hn2, CH2⟩ := charge_gen cF co
        have BF := Lib.hid bF
        have CF := Lib.hid cF
        have VF := Lib.hid vF
        clear e1 e2 e3 e4 e5 bF cF vF HV1
        by_cases hch : 0 ≤ co ∧ co ≤ L
        case pos =>
          have BC := BF.out.charged hch.1 hch.2
          have bL := BF.out.l1
          have bN := BF.out.nums
          have hll : L ≤ 1000000000 := by omega
          have vv := (vol_ge (c := co) (le := L') CF.out.q0 CF.out.q1).2 (Int.le_trans ((vol_ge (c := co) BF.out.q0 BF.out.q1).1 hch.2) VF.out)
          have hcl := vv
          have CC := CF.out.charged hch.1 hcl
          have cL := CF.out.l1
          have hll' : L' ≤ 1000000000 := by omega
          have vC : vol pe (L - co) Q ≤ vol pe (L' - co) Q' := by rw [vol_charged, vol_charged]; have := VF.out; omega
          obtain ⟨D, f1⟩ : ∃ x, L - co = x := ⟨_, rfl⟩
          obtain ⟨D', f2⟩ : ∃ x, L' - co = x := ⟨_, rfl⟩
          rw [f1] at BC vC
          rw [f2] at CC vC
          have F1 := Lib.hid f1
          have F2 := Lib.hid f2
          have M2 := Lib.hid (moreB_yes CC.q0 CC.q1 BC.q0 BC.q1 vC)
          obtain ⟨n, m, j, hnm, W1, W2⟩ := wait_gen BC CC vC co
          have HB2 := Lib.hid BC
          have HC2 := Lib.hid CC
          have HV2 := Lib.hid vC
          have K1 := Lib.hid BF.out.ok
          have K2 := Lib.hid CF.out.ok
          have q1 := hch.1
          have q2 := hch.2
          clear f1 f2 BC CC vC bL bN cL hch vv CH2 hn2 y0 y1 y2 y3 y4 y5 n2
          have dw : decide (n < m) = false := decide_eq_false (by omega)
          have z_x50 := x_x50.lt
          have c_x50_0 := x_x50.c 0 _ rfl; have f_x50_0 := x_x50.f 0 _ rfl
          have c_x50_1 := x_x50.c 1 _ rfl; have f_x50_1 := x_x50.f 1 _ rfl
          have c_x50_2 := x_x50.c 2 _ rfl; have f_x50_2 := x_x50.f 2 _ rfl
          have c_x50_3 := x_x50.c 3 _ rfl; have f_x50_3 := x_x50.f 3 _ rfl
          have c_x50_4 := x_x50.c 4 _ rfl; have f_x50_4 := x_x50.f 4 _ rfl
          have c_x50_5 := x_x50.c 5 _ rfl; have f_x50_5 := x_x50.f 5 _ rfl
          have z_z50 := x_z50.lt
          have c_z50_0 := x_z50.c 0 _ rfl; have f_z50_0 := x_z50.f 0 _ rfl
          have c_z50_1 := x_z50.c 1 _ rfl; have f_z50_1 := x_z50.f 1 _ rfl
          have c_z50_2 := x_z50.c 2 _ rfl; have f_z50_2 := x_z50.f 2 _ rfl
          have c_z50_3 := x_z50.c 3 _ rfl; have f_z50_3 := x_z50.f 3 _ rfl
          have c_z50_4 := x_z50.c 4 _ rfl; have f_z50_4 := x_z50.f 4 _ rfl
          have c_z50_5 := x_z50.c 5 _ rfl; have f_z50_5 := x_z50.f 5 _ rfl
          have c_t50 := cell_below hB50 T0
          have c_co50 := cell_below hB50 C0
          go_upto_region 7 with fail
          go_cut [10, 11] (fun p q0 wx => ∃ b : Nat, p = .pointer (some ⟨b, 0, none⟩) ∧ q0 = .int .i64 0 ∧ Box wx b [.int .i64 bu, .int .i64 ra, .int .i64 pe, .int .i64 L, .int .i64 Q, .int .u64 T] ∧ wr.heap.size ≤ b ∧ Box wx (w.heap.size) [.int .i64 bu, .int .i64 ra, .int .i64 pe, .int .i64 lv, .int .i64 pv, .int .u64 t] ∧ Box wx (w.heap.size + 1) [.int .i64 bu, .int .i64 ra, .int .i64 pe, .int .i64 lv', .int .i64 pv', .int .u64 t] ∧ Below w.heap.size w wx)
          case first =>
            as_aux_lemma =>
              go_region_held3 (fun w' => w'.cell? ⟨w.heap.size, 0, none⟩ = some (.int .i64 bu) ∧ w'.cell? ⟨w.heap.size, 1, none⟩ = some (.int .i64 ra) ∧ w'.cell? ⟨w.heap.size, 2, none⟩ = some (.int .i64 pe) ∧ w'.cell? ⟨w.heap.size, 3, none⟩ = some (.int .i64 lv) ∧ w'.cell? ⟨w.heap.size, 4, none⟩ = some (.int .i64 pv) ∧ w'.cell? ⟨w.heap.size, 5, none⟩ = some (.int .u64 t) ∧ w'.cell? ⟨tb, toff + k, none⟩ = some (.int .u64 tk)) (((repeat' apply And.intro) <;> (first | (go_keep; done) | go_cell)))
                (first
                  | (go_at_call 15; refine (refill_ok HB1.out htk E1 E2 E3 _).mono ?_; rintro e v1 ⟨rfl, hv1⟩; have hV1 : Below w.heap.size w v1 := below_thru (by go_grown) hv1; have hs_v1 : w.heap.size ≤ v1.heap.size := hV1.size; have x_x_v1 : Box v1 (w.heap.size) [.int .i64 bu, .int .i64 ra, .int .i64 pe, .int .i64 lv, .int .i64 pv, .int .u64 t] := (by refine Box.below ?_ hv1; repeat (first | (with_reducible assumption) | (with_reducible refine Box.drew ?_) | (with_reducible refine Box.drewN ?_ _) | ((with_reducible refine Box.new ?_); simp; done) | (with_reducible apply Box.set2) | ((with_reducible apply Box.put); (with_reducible assumption); rfl) | (with_reducible refine Box.alloc ?_ _) | (with_reducible refine Box.other ?_ (by first | (dsimp only; omega) | omega) _))); have z_x_v1 := x_x_v1.lt; have c_x_v1_0 := x_x_v1.c 0 _ rfl; have f_x_v1_0 := x_x_v1.f 0 _ rfl; have c_x_v1_1 := x_x_v1.c 1 _ rfl; have f_x_v1_1 := x_x_v1.f 1 _ rfl; have c_x_v1_2 := x_x_v1.c 2 _ rfl; have f_x_v1_2 := x_x_v1.f 2 _ rfl; have c_x_v1_3 := x_x_v1.c 3 _ rfl; have f_x_v1_3 := x_x_v1.f 3 _ rfl; have c_x_v1_4 := x_x_v1.c 4 _ rfl; have f_x_v1_4 := x_x_v1.f 4 _ rfl; have c_x_v1_5 := x_x_v1.c 5 _ rfl; have f_x_v1_5 := x_x_v1.f 5 _ rfl; have x_z_v1 : Box v1 (w.heap.size + 1) [.int .i64 bu, .int .i64 ra, .int .i64 pe, .int .i64 lv', .int .i64 pv', .int .u64 t] := (by refine Box.below ?_ hv1; repeat (first | (with_reducible assumption) | (with_reducible refine Box.drew ?_) | (with_reducible refine Box.drewN ?_ _) | ((with_reducible refine Box.new ?_); simp; done) | (with_reducible apply Box.set2) | ((with_reducible apply Box.put); (with_reducible assumption); rfl) | (with_reducible refine Box.alloc ?_ _) | (with_reducible refine Box.other ?_ (by first | (dsimp only; omega) | omega) _))); have z_z_v1 := x_z_v1.lt; have c_z_v1_0 := x_z_v1.c 0 _ rfl; have f_z_v1_0 := x_z_v1.f 0 _ rfl; have c_z_v1_1 := x_z_v1.c 1 _ rfl; have f_z_v1_1 := x_z_v1.f 1 _ rfl; have c_z_v1_2 := x_z_v1.c 2 _ rfl; have f_z_v1_2 := x_z_v1.f 2 _ rfl; have c_z_v1_3 := x_z_v1.c 3 _ rfl; have f_z_v1_3 := x_z_v1.f 3 _ rfl; have c_z_v1_4 := x_z_v1.c 4 _ rfl; have f_z_v1_4 := x_z_v1.f 4 _ rfl; have c_z_v1_5 := x_z_v1.c 5 _ rfl; have f_z_v1_5 := x_z_v1.f 5 _ rfl; have c_t_v1 := cell_below hV1 T0; have c_co_v1 := cell_below hV1 C0; have t_v1 := hv1.size; (try simp at t_v1); (first | (with_reducible have y := Box.below (Box.drew (Box.new rfl)) hv1) | (with_reducible have y := Box.below (Box.new rfl) hv1) | (with_reducible have y := Box.below y hv1) | (have y := trivial)); (try simp only [World.size_alloc] at y); try (have yz := Box.lt y; have y0 := Box.c y 0 _ rfl; have yf0 := Box.f y 0 _ rfl; have y1 := Box.c y 1 _ rfl; have yf1 := Box.f y 1 _ rfl; have y2 := Box.c y 2 _ rfl; have yf2 := Box.f y 2 _ rfl; have y3 := Box.c y 3 _ rfl; have yf3 := Box.f y 3 _ rfl; have y4 := Box.c y 4 _ rfl; have yf4 := Box.f y 4 _ rfl; have y5 := Box.c y 5 _ rfl; have yf5 := Box.f y 5 _ rfl)))
              all_goals
                go_wp2_with fail
                go_meet
                refine ⟨_, rfl, rfl, ?_, ?_, ?_, ?_, ?_⟩
                all_goals first
                  | (first | (dsimp only; omega) | omega | (simp; omega))
                  | ((repeat (first | (with_reducible apply put6) | (with_reducible refine other6 ?_ (by first | (dsimp only; omega) | omega) _ _ _ _ _ _) | (with_reducible assumption) | (with_reducible refine Box.drew ?_) | (with_reducible refine Box.drewN ?_ _) | ((with_reducible refine Box.new ?_); simp; done) | (with_reducible apply Box.set2) | (with_reducible refine Box.alloc ?_ _) | (with_reducible refine Box.other ?_ (by first | (dsimp only; omega) | omega) _))); done)
                  | (go_grown; done)
          case rest =>
            as_aux_lemma =>
              obtain ⟨b51, rfl, rfl, x_u51, lo_u51, x_x51, x_z51, hB51⟩ := hcut
              obtain ⟨w51, rfl⟩ : ∃ u : World, u = wc := ⟨_, rfl⟩
              have o_u_x := Nat.lt_of_lt_of_le z_x50 lo_u51
              have o_u_z := Nat.lt_of_lt_of_le z_z50 lo_u51
              clear hB50 hs50 c_t50 c_co50 x_x50 z_x50 c_x50_0 c_x50_1 c_x50_2 c_x50_3 c_x50_4 c_x50_5 f_x50_0 f_x50_1 f_x50_2 f_x50_3 f_x50_4 f_x50_5 x_z50 z_z50 c_z50_0 c_z50_1 c_z50_2 c_z50_3 c_z50_4 c_z50_5 f_z50_0 f_z50_1 f_z50_2 f_z50_3 f_z50_4 f_z50_5
              have c_t51 := cell_below hB51 T0
              have c_co51 := cell_below hB51 C0
              have hs51 : w.heap.size ≤ w51.heap.size := hB51.size
              have z_x51 := x_x51.lt
              have c_x51_0 := x_x51.c 0 _ rfl; have f_x51_0 := x_x51.f 0 _ rfl
              have c_x51_1 := x_x51.c 1 _ rfl; have f_x51_1 := x_x51.f 1 _ rfl
              have c_x51_2 := x_x51.c 2 _ rfl; have f_x51_2 := x_x51.f 2 _ rfl
              have c_x51_3 := x_x51.c 3 _ rfl; have f_x51_3 := x_x51.f 3 _ rfl
              have c_x51_4 := x_x51.c 4 _ rfl; have f_x51_4 := x_x51.f 4 _ rfl
              have c_x51_5 := x_x51.c 5 _ rfl; have f_x51_5 := x_x51.f 5 _ rfl
              have z_z51 := x_z51.lt
              have c_z51_0 := x_z51.c 0 _ rfl; have f_z51_0 := x_z51.f 0 _ rfl
              have c_z51_1 := x_z51.c 1 _ rfl; have f_z51_1 := x_z51.f 1 _ rfl
              have c_z51_2 := x_z51.c 2 _ rfl; have f_z51_2 := x_z51.f 2 _ rfl
              have c_z51_3 := x_z51.c 3 _ rfl; have f_z51_3 := x_z51.f 3 _ rfl
              have c_z51_4 := x_z51.c 4 _ rfl; have f_z51_4 := x_z51.f 4 _ rfl
              have c_z51_5 := x_z51.c 5 _ rfl; have f_z51_5 := x_z51.f 5 _ rfl
              have z_u51 := x_u51.lt
              have c_u51_0 := x_u51.c 0 _ rfl; have f_u51_0 := x_u51.f 0 _ rfl
              have c_u51_1 := x_u51.c 1 _ rfl; have f_u51_1 := x_u51.f 1 _ rfl
              have c_u51_2 := x_u51.c 2 _ rfl; have f_u51_2 := x_u51.f 2 _ rfl
              have c_u51_3 := x_u51.c 3 _ rfl; have f_u51_3 := x_u51.f 3 _ rfl
              have c_u51_4 := x_u51.c 4 _ rfl; have f_u51_4 := x_u51.f 4 _ rfl
              have c_u51_5 := x_u51.c 5 _ rfl; have f_u51_5 := x_u51.f 5 _ rfl
              go_upto_region 8 with fail
              go_cut [12, 13] (fun p q0 wx => ∃ b : Nat, p = .pointer (some ⟨b, 0, none⟩) ∧ q0 = .int .i64 0 ∧ Box wx b [.int .i64 bu, .int .i64 ra, .int .i64 pe, .int .i64 L', .int .i64 Q', .int .u64 T] ∧ w51.heap.size ≤ b ∧ Box wx (w.heap.size) [.int .i64 bu, .int .i64 ra, .int .i64 pe, .int .i64 lv, .int .i64 pv, .int .u64 t] ∧ Box wx (w.heap.size + 1) [.int .i64 bu, .int .i64 ra, .int .i64 pe, .int .i64 lv', .int .i64 pv', .int .u64 t] ∧ Box wx (b51) [.int .i64 bu, .int .i64 ra, .int .i64 pe, .int .i64 L, .int .i64 Q, .int .u64 T] ∧ Below w.heap.size w wx)
              case first =>
                as_aux_lemma =>
                  go_region_held3 (fun w' => w'.cell? ⟨w.heap.size + 1, 0, none⟩ = some (.int .i64 bu) ∧ w'.cell? ⟨w.heap.size + 1, 1, none⟩ = some (.int .i64 ra) ∧ w'.cell? ⟨w.heap.size + 1, 2, none⟩ = some (.int .i64 pe) ∧ w'.cell? ⟨w.heap.size + 1, 3, none⟩ = some (.int .i64 lv') ∧ w'.cell? ⟨w.heap.size + 1, 4, none⟩ = some (.int .i64 pv') ∧ w'.cell? ⟨w.heap.size + 1, 5, none⟩ = some (.int .u64 t) ∧ w'.cell? ⟨tb, toff + k, none⟩ = some (.int .u64 tk)) (((repeat' apply And.intro) <;> (first | (go_keep; done) | go_cell)))
                    (first
                      | (go_at_call 15; refine (refill_ok HC1.out htk E4 E5 E3 _).mono ?_; rintro e v1 ⟨rfl, hv1⟩; have hV1 : Below w.heap.size w v1 := below_thru (by go_grown) hv1; have hs_v1 : w.heap.size ≤ v1.heap.size := hV1.size; have x_x_v1 : Box v1 (w.heap.size) [.int .i64 bu, .int .i64 ra, .int .i64 pe, .int .i64 lv, .int .i64 pv, .int .u64 t] := (by refine Box.below ?_ hv1; repeat (first | (with_reducible assumption) | (with_reducible refine Box.drew ?_) | (with_reducible refine Box.drewN ?_ _) | ((with_reducible refine Box.new ?_); simp; done) | (with_reducible apply Box.set2) | ((with_reducible apply Box.put); (with_reducible assumption); rfl) | (with_reducible refine Box.alloc ?_ _) | (with_reducible refine Box.other ?_ (by first | (dsimp only; omega) | omega) _))); have z_x_v1 := x_x_v1.lt; have c_x_v1_0 := x_x_v1.c 0 _ rfl; have f_x_v1_0 := x_x_v1.f 0 _ rfl; have c_x_v1_1 := x_x_v1.c 1 _ rfl; have f_x_v1_1 := x_x_v1.f 1 _ rfl; have c_x_v1_2 := x_x_v1.c 2 _ rfl; have f_x_v1_2 := x_x_v1.f 2 _ rfl; have c_x_v1_3 := x_x_v1.c 3 _ rfl; have f_x_v1_3 := x_x_v1.f 3 _ rfl; have c_x_v1_4 := x_x_v1.c 4 _ rfl; have f_x_v1_4 := x_x_v1.f 4 _ rfl; have c_x_v1_5 := x_x_v1.c 5 _ rfl; have f_x_v1_5 := x_x_v1.f 5 _ rfl; have x_z_v1 : Box v1 (w.heap.size + 1) [.int .i64 bu, .int .i64 ra, .int .i64 pe, .int .i64 lv', .int .i64 pv', .int .u64 t] := (by refine Box.below ?_ hv1; repeat (first | (with_reducible assumption) | (with_reducible refine Box.drew ?_) | (with_reducible refine Box.drewN ?_ _) | ((with_reducible refine Box.new ?_); simp; done) | (with_reducible apply Box.set2) | ((with_reducible apply Box.put); (with_reducible assumption); rfl) | (with_reducible refine Box.alloc ?_ _) | (with_reducible refine Box.other ?_ (by first | (dsimp only; omega) | omega) _))); have z_z_v1 := x_z_v1.lt; have c_z_v1_0 := x_z_v1.c 0 _ rfl; have f_z_v1_0 := x_z_v1.f 0 _ rfl; have c_z_v1_1 := x_z_v1.c 1 _ rfl; have f_z_v1_1 := x_z_v1.f 1 _ rfl; have c_z_v1_2 := x_z_v1.c 2 _ rfl; have f_z_v1_2 := x_z_v1.f 2 _ rfl; have c_z_v1_3 := x_z_v1.c 3 _ rfl; have f_z_v1_3 := x_z_v1.f 3 _ rfl; have c_z_v1_4 := x_z_v1.c 4 _ rfl; have f_z_v1_4 := x_z_v1.f 4 _ rfl; have c_z_v1_5 := x_z_v1.c 5 _ rfl; have f_z_v1_5 := x_z_v1.f 5 _ rfl; have x_u_v1 : Box v1 (b51) [.int .i64 bu, .int .i64 ra, .int .i64 pe, .int .i64 L, .int .i64 Q, .int .u64 T] := (by refine Box.below ?_ hv1; repeat (first | (with_reducible assumption) | (with_reducible refine Box.drew ?_) | (with_reducible refine Box.drewN ?_ _) | ((with_reducible refine Box.new ?_); simp; done) | (with_reducible apply Box.set2) | ((with_reducible apply Box.put); (with_reducible assumption); rfl) | (with_reducible refine Box.alloc ?_ _) | (with_reducible refine Box.other ?_ (by first | (dsimp only; omega) | omega) _))); have z_u_v1 := x_u_v1.lt; have c_u_v1_0 := x_u_v1.c 0 _ rfl; have f_u_v1_0 := x_u_v1.f 0 _ rfl; have c_u_v1_1 := x_u_v1.c 1 _ rfl; have f_u_v1_1 := x_u_v1.f 1 _ rfl; have c_u_v1_2 := x_u_v1.c 2 _ rfl; have f_u_v1_2 := x_u_v1.f 2 _ rfl; have c_u_v1_3 := x_u_v1.c 3 _ rfl; have f_u_v1_3 := x_u_v1.f 3 _ rfl; have c_u_v1_4 := x_u_v1.c 4 _ rfl; have f_u_v1_4 := x_u_v1.f 4 _ rfl; have c_u_v1_5 := x_u_v1.c 5 _ rfl; have f_u_v1_5 := x_u_v1.f 5 _ rfl; have c_t_v1 := cell_below hV1 T0; have c_co_v1 := cell_below hV1 C0; have t_v1 := hv1.size; (try simp at t_v1); (first | (with_reducible have y := Box.below (Box.drew (Box.new rfl)) hv1) | (with_reducible have y := Box.below (Box.new rfl) hv1) | (with_reducible have y := Box.below y hv1) | (have y := trivial)); (try simp only [World.size_alloc] at y); try (have yz := Box.lt y; have y0 := Box.c y 0 _ rfl; have yf0 := Box.f y 0 _ rfl; have y1 := Box.c y 1 _ rfl; have yf1 := Box.f y 1 _ rfl; have y2 := Box.c y 2 _ rfl; have yf2 := Box.f y 2 _ rfl; have y3 := Box.c y 3 _ rfl; have yf3 := Box.f y 3 _ rfl; have y4 := Box.c y 4 _ rfl; have yf4 := Box.f y 4 _ rfl; have y5 := Box.c y 5 _ rfl; have yf5 := Box.f y 5 _ rfl)))
                  all_goals
                    go_wp2_with fail
                    go_meet
                    refine ⟨_, rfl, rfl, ?_, ?_, ?_, ?_, ?_, ?_⟩
                    all_goals first
                      | (first | (dsimp only; omega) | omega | (simp; omega))
                      | ((repeat (first | (with_reducible apply put6) | (with_reducible refine other6 ?_ (by first | (dsimp only; omega) | omega) _ _ _ _ _ _) | (with_reducible assumption) | (with_reducible refine Box.drew ?_) | (with_reducible refine Box.drewN ?_ _) | ((with_reducible refine Box.new ?_); simp; done) | (with_reducible apply Box.set2) | (with_reducible refine Box.alloc ?_ _) | (with_reducible refine Box.other ?_ (by first | (dsimp only; omega) | omega) _))); done)
                      | (go_grown; done)
              case rest =>
                as_aux_lemma =>
                  obtain ⟨b52, rfl, rfl, x_v52, lo_v52, x_x52, x_z52, x_u52, hB52⟩ := hcut
                  obtain ⟨w52, rfl⟩ : ∃ u : World, u = wc := ⟨_, rfl⟩
                  have o_v_x := Nat.lt_of_lt_of_le z_x51 lo_v52
                  have o_v_z := Nat.lt_of_lt_of_le z_z51 lo_v52
                  have o_v_u := Nat.lt_of_lt_of_le z_u51 lo_v52
                  clear hB51 hs51 c_t51 c_co51 x_x51 z_x51 c_x51_0 c_x51_1 c_x51_2 c_x51_3 c_x51_4 c_x51_5 f_x51_0 f_x51_1 f_x51_2 f_x51_3 f_x51_4 f_x51_5 x_z51 z_z51 c_z51_0 c_z51_1 c_z51_2 c_z51_3 c_z51_4 c_z51_5 f_z51_0 f_z51_1 f_z51_2 f_z51_3 f_z51_4 f_z51_5 x_u51 z_u51 c_u51_0 c_u51_1 c_u51_2 c_u51_3 c_u51_4 c_u51_5 f_u51_0 f_u51_1 f_u51_2 f_u51_3 f_u51_4 f_u51_5
                  have c_t52 := cell_below hB52 T0
                  have c_co52 := cell_below hB52 C0
                  have hs52 : w.heap.size ≤ w52.heap.size := hB52.size
                  have z_x52 := x_x52.lt
                  have c_x52_0 := x_x52.c 0 _ rfl; have f_x52_0 := x_x52.f 0 _ rfl
                  have c_x52_1 := x_x52.c 1 _ rfl; have f_x52_1 := x_x52.f 1 _ rfl
                  have c_x52_2 := x_x52.c 2 _ rfl; have f_x52_2 := x_x52.f 2 _ rfl
                  have c_x52_3 := x_x52.c 3 _ rfl; have f_x52_3 := x_x52.f 3 _ rfl
                  have c_x52_4 := x_x52.c 4 _ rfl; have f_x52_4 := x_x52.f 4 _ rfl
                  have c_x52_5 := x_x52.c 5 _ rfl; have f_x52_5 := x_x52.f 5 _ rfl
                  have z_z52 := x_z52.lt
                  have c_z52_0 := x_z52.c 0 _ rfl; have f_z52_0 := x_z52.f 0 _ rfl
                  have c_z52_1 := x_z52.c 1 _ rfl; have f_z52_1 := x_z52.f 1 _ rfl
                  have c_z52_2 := x_z52.c 2 _ rfl; have f_z52_2 := x_z52.f 2 _ rfl
                  have c_z52_3 := x_z52.c 3 _ rfl; have f_z52_3 := x_z52.f 3 _ rfl
                  have c_z52_4 := x_z52.c 4 _ rfl; have f_z52_4 := x_z52.f 4 _ rfl
                  have c_z52_5 := x_z52.c 5 _ rfl; have f_z52_5 := x_z52.f 5 _ rfl
                  have z_u52 := x_u52.lt
                  have c_u52_0 := x_u52.c 0 _ rfl; have f_u52_0 := x_u52.f 0 _ rfl
                  have c_u52_1 := x_u52.c 1 _ rfl; have f_u52_1 := x_u52.f 1 _ rfl
                  have c_u52_2 := x_u52.c 2 _ rfl; have f_u52_2 := x_u52.f 2 _ rfl
                  have c_u52_3 := x_u52.c 3 _ rfl; have f_u52_3 := x_u52.f 3 _ rfl
                  have c_u52_4 := x_u52.c 4 _ rfl; have f_u52_4 := x_u52.f 4 _ rfl
                  have c_u52_5 := x_u52.c 5 _ rfl; have f_u52_5 := x_u52.f 5 _ rfl
                  have z_v52 := x_v52.lt
                  have c_v52_0 := x_v52.c 0 _ rfl; have f_v52_0 := x_v52.f 0 _ rfl
                  have c_v52_1 := x_v52.c 1 _ rfl; have f_v52_1 := x_v52.f 1 _ rfl
                  have c_v52_2 := x_v52.c 2 _ rfl; have f_v52_2 := x_v52.f 2 _ rfl
                  have c_v52_3 := x_v52.c 3 _ rfl; have f_v52_3 := x_v52.f 3 _ rfl
                  have c_v52_4 := x_v52.c 4 _ rfl; have f_v52_4 := x_v52.f 4 _ rfl
                  have c_v52_5 := x_v52.c 5 _ rfl; have f_v52_5 := x_v52.f 5 _ rfl
                  go_wp2_with fail
                  refine (more_is M1 _).mono ?_
                  rintro e w53 ⟨rfl, hb⟩
                  have hB53 : Below w.heap.size w w53 := below_thru (by go_grown) hb
                  have hs53 : w.heap.size ≤ w53.heap.size := hB53.size
                  have x_x53 : Box w53 (w.heap.size) [.int .i64 bu, .int .i64 ra, .int .i64 pe, .int .i64 lv, .int .i64 pv, .int .u64 t] := (by refine Box.below ?_ hb; repeat (first | (with_reducible assumption) | (with_reducible refine Box.drew ?_) | (with_reducible refine Box.drewN ?_ _) | ((with_reducible refine Box.new ?_); simp; done) | (with_reducible apply Box.set2) | ((with_reducible apply Box.put); (with_reducible assumption); rfl) | (with_reducible refine Box.alloc ?_ _) | (with_reducible refine Box.other ?_ (by first | (dsimp only; omega) | omega) _)))
                  have z_x53 := x_x53.lt
                  have c_x53_0 := x_x53.c 0 _ rfl
                  have f_x53_0 := x_x53.f 0 _ rfl
                  have c_x53_1 := x_x53.c 1 _ rfl
                  have f_x53_1 := x_x53.f 1 _ rfl
                  have c_x53_2 := x_x53.c 2 _ rfl
                  have f_x53_2 := x_x53.f 2 _ rfl
                  have c_x53_3 := x_x53.c 3 _ rfl
                  have f_x53_3 := x_x53.f 3 _ rfl
                  have c_x53_4 := x_x53.c 4 _ rfl
                  have f_x53_4 := x_x53.f 4 _ rfl
                  have c_x53_5 := x_x53.c 5 _ rfl
                  have f_x53_5 := x_x53.f 5 _ rfl
                  have x_z53 : Box w53 (w.heap.size + 1) [.int .i64 bu, .int .i64 ra, .int .i64 pe, .int .i64 lv', .int .i64 pv', .int .u64 t] := (by refine Box.below ?_ hb; repeat (first | (with_reducible assumption) | (with_reducible refine Box.drew ?_) | (with_reducible refine Box.drewN ?_ _) | ((with_reducible refine Box.new ?_); simp; done) | (with_reducible apply Box.set2) | ((with_reducible apply Box.put); (with_reducible assumption); rfl) | (with_reducible refine Box.alloc ?_ _) | (with_reducible refine Box.other ?_ (by first | (dsimp only; omega) | omega) _)))
                  have z_z53 := x_z53.lt
                  have c_z53_0 := x_z53.c 0 _ rfl
                  have f_z53_0 := x_z53.f 0 _ rfl
                  have c_z53_1 := x_z53.c 1 _ rfl
                  have f_z53_1 := x_z53.f 1 _ rfl
                  have c_z53_2 := x_z53.c 2 _ rfl
                  have f_z53_2 := x_z53.f 2 _ rfl
                  have c_z53_3 := x_z53.c 3 _ rfl
                  have f_z53_3 := x_z53.f 3 _ rfl
                  have c_z53_4 := x_z53.c 4 _ rfl
                  have f_z53_4 := x_z53.f 4 _ rfl
                  have c_z53_5 := x_z53.c 5 _ rfl
                  have f_z53_5 := x_z53.f 5 _ rfl
                  have x_u53 : Box w53 (b51) [.int .i64 bu, .int .i64 ra, .int .i64 pe, .int .i64 L, .int .i64 Q, .int .u64 T] := (by refine Box.below ?_ hb; repeat (first | (with_reducible assumption) | (with_reducible refine Box.drew ?_) | (with_reducible refine Box.drewN ?_ _) | ((with_reducible refine Box.new ?_); simp; done) | (with_reducible apply Box.set2) | ((with_reducible apply Box.put); (with_reducible assumption); rfl) | (with_reducible refine Box.alloc ?_ _) | (with_reducible refine Box.other ?_ (by first | (dsimp only; omega) | omega) _)))
                  have z_u53 := x_u53.lt
                  have c_u53_0 := x_u53.c 0 _ rfl
                  have f_u53_0 := x_u53.f 0 _ rfl
                  have c_u53_1 := x_u53.c 1 _ rfl
                  have f_u53_1 := x_u53.f 1 _ rfl
                  have c_u53_2 := x_u53.c 2 _ rfl
                  have f_u53_2 := x_u53.f 2 _ rfl
                  have c_u53_3 := x_u53.c 3 _ rfl
                  have f_u53_3 := x_u53.f 3 _ rfl
                  have c_u53_4 := x_u53.c 4 _ rfl
                  have f_u53_4 := x_u53.f 4 _ rfl
                  have c_u53_5 := x_u53.c 5 _ rfl
                  have f_u53_5 := x_u53.f 5 _ rfl
                  have x_v53 : Box w53 (b52) [.int .i64 bu, .int .i64 ra, .int .i64 pe, .int .i64 L', .int .i64 Q', .int .u64 T] := (by refine Box.below ?_ hb; repeat (first | (with_reducible assumption) | (with_reducible refine Box.drew ?_) | (with_reducible refine Box.drewN ?_ _) | ((with_reducible refine Box.new ?_); simp; done) | (with_reducible apply Box.set2) | ((with_reducible apply Box.put); (with_reducible assumption); rfl) | (with_reducible refine Box.alloc ?_ _) | (with_reducible refine Box.other ?_ (by first | (dsimp only; omega) | omega) _)))
                  have z_v53 := x_v53.lt
                  have c_v53_0 := x_v53.c 0 _ rfl
                  have f_v53_0 := x_v53.f 0 _ rfl
                  have c_v53_1 := x_v53.c 1 _ rfl
                  have f_v53_1 := x_v53.f 1 _ rfl
                  have c_v53_2 := x_v53.c 2 _ rfl
                  have f_v53_2 := x_v53.f 2 _ rfl
                  have c_v53_3 := x_v53.c 3 _ rfl
                  have f_v53_3 := x_v53.f 3 _ rfl
                  have c_v53_4 := x_v53.c 4 _ rfl
                  have f_v53_4 := x_v53.f 4 _ rfl
                  have c_v53_5 := x_v53.c 5 _ rfl
                  have f_v53_5 := x_v53.f 5 _ rfl
                  have c_t53 := cell_below hB53 T0
                  have c_co53 := cell_below hB53 C0
                  have t53 := hb.size
                  try simp at t53
                  clear hb hB52 hs52 c_t52 c_co52 x_x52 z_x52 c_x52_0 c_x52_1 c_x52_2 c_x52_3 c_x52_4 c_x52_5 f_x52_0 f_x52_1 f_x52_2 f_x52_3 f_x52_4 f_x52_5 x_z52 z_z52 c_z52_0 c_z52_1 c_z52_2 c_z52_3 c_z52_4 c_z52_5 f_z52_0 f_z52_1 f_z52_2 f_z52_3 f_z52_4 f_z52_5 x_u52 z_u52 c_u52_0 c_u52_1 c_u52_2 c_u52_3 c_u52_4 c_u52_5 f_u52_0 f_u52_1 f_u52_2 f_u52_3 f_u52_4 f_u52_5 x_v52 z_v52 c_v52_0 c_v52_1 c_v52_2 c_v52_3 c_v52_4 c_v52_5 f_v52_0 f_v52_1 f_v52_2 f_v52_3 f_v52_4 f_v52_5
                  go_upto_region 11 with fail
                  go_cut [] (fun wx => Box wx (w.heap.size) [.int .i64 bu, .int .i64 ra, .int .i64 pe, .int .i64 L, .int .i64 Q, .int .u64 T] ∧ Box wx (w.heap.size + 1) [.int .i64 bu, .int .i64 ra, .int .i64 pe, .int .i64 L', .int .i64 Q', .int .u64 T] ∧ Box wx (b51) [.int .i64 bu, .int .i64 ra, .int .i64 pe, .int .i64 L, .int .i64 Q, .int .u64 T] ∧ Box wx (b52) [.int .i64 bu, .int .i64 ra, .int .i64 pe, .int .i64 L', .int .i64 Q', .int .u64 T] ∧ Below w.heap.size w wx)
                  case first =>
                    have dr_x := Box.drew x_x53
                    have dr_z := Box.drew x_z53
                    have dr_u := Box.drew x_u53
                    have dr_v := Box.drew x_v53
                    have dr_B := below_drew1 hB53
                    refine wp_region_any (by kernel_rfl) ?_
                    try (change wpAny _ _ _ _ _ _ _ (World.drew _))
                    refine wpAny_ready (rs := [0, 1]) (by kernel_rfl) (by simp) (AllReady.cons rfl (fun K hK => ?_) (AllReady.cons rfl (fun K hK => ?_) AllReady.nil))
                    · skip
                      refine step_load6 rfl _ rfl (by rfl) dr_u ?_
                      refine hK _ _ ?_; clear hK K
                      refine wpAny_ready (rs := [1, 2]) (by kernel_rfl) (by simp) (AllReady.cons rfl (fun K hK => ?_) (AllReady.cons rfl (fun K hK => ?_) AllReady.nil))
                      · skip
                        refine step_load6 rfl _ rfl (by rfl) dr_v ?_
                        refine hK _ _ ?_; clear hK K
                        refine wpAny_ready (rs := [2]) (by kernel_rfl) (by simp) (AllReady.cons rfl (fun K hK => ?_) AllReady.nil)
                        refine step_store6 rfl _ _ rfl rfl (by rfl) (by rfl) rfl dr_x ?_
                        intro Wpa hw_pa ho_pa hb_pa
                        have pa_x := hw_pa
                        have pa_z := ho_pa _ _ (by first | omega | (simp; omega)) dr_z
                        have pa_u := ho_pa _ _ (by first | omega | (simp; omega)) dr_u
                        have pa_v := ho_pa _ _ (by first | omega | (simp; omega)) dr_v
                        have pa_B := hb_pa w (by first | omega | (simp; omega)) dr_B
                        refine hK _ _ ?_; clear hK K
                        refine wpAny_ready (rs := [3]) (by kernel_rfl) (by simp) (AllReady.cons rfl (fun K hK => ?_) AllReady.nil)
                        refine step_store6 rfl _ _ rfl rfl (by rfl) (by rfl) rfl pa_z ?_
                        intro Wpb hw_pb ho_pb hb_pb
                        have pb_x := ho_pb _ _ (by first | omega | (simp; omega)) pa_x
                        have pb_z := hw_pb
                        have pb_u := ho_pb _ _ (by first | omega | (simp; omega)) pa_u
                        have pb_v := ho_pb _ _ (by first | omega | (simp; omega)) pa_v
                        have pb_B := hb_pb w (by first | omega | (simp; omega)) pa_B
                        refine hK _ _ ?_; clear hK K
                        refine wpAny_done (by kernel_rfl) ?_ _
                        go_wp2_with fail
                        go_meet
                        exact ⟨pb_x, pb_z, pb_u, pb_v, pb_B⟩
                      · skip
                        refine step_store6 rfl _ _ rfl rfl (by rfl) (by rfl) rfl dr_x ?_
                        intro Wpa hw_pa ho_pa hb_pa
                        have pa_x := hw_pa
                        have pa_z := ho_pa _ _ (by first | omega | (simp; omega)) dr_z
                        have pa_u := ho_pa _ _ (by first | omega | (simp; omega)) dr_u
                        have pa_v := ho_pa _ _ (by first | omega | (simp; omega)) dr_v
                        have pa_B := hb_pa w (by first | omega | (simp; omega)) dr_B
                        refine hK _ _ ?_; clear hK K
                        refine wpAny_ready (rs := [1]) (by kernel_rfl) (by simp) (AllReady.cons rfl (fun K hK => ?_) AllReady.nil)
                        refine step_load6 rfl _ rfl (by rfl) pa_v ?_
                        refine hK _ _ ?_; clear hK K
                        refine wpAny_ready (rs := [3]) (by kernel_rfl) (by simp) (AllReady.cons rfl (fun K hK => ?_) AllReady.nil)
                        refine step_store6 rfl _ _ rfl rfl (by rfl) (by rfl) rfl pa_z ?_
                        intro Wpb hw_pb ho_pb hb_pb
                        have pb_x := ho_pb _ _ (by first | omega | (simp; omega)) pa_x
                        have pb_z := hw_pb
                        have pb_u := ho_pb _ _ (by first | omega | (simp; omega)) pa_u
                        have pb_v := ho_pb _ _ (by first | omega | (simp; omega)) pa_v
                        have pb_B := hb_pb w (by first | omega | (simp; omega)) pa_B
                        refine hK _ _ ?_; clear hK K
                        refine wpAny_done (by kernel_rfl) ?_ _
                        go_wp2_with fail
                        go_meet
                        exact ⟨pb_x, pb_z, pb_u, pb_v, pb_B⟩
                    · skip
                      refine step_load6 rfl _ rfl (by rfl) dr_v ?_
                      refine hK _ _ ?_; clear hK K
                      refine wpAny_ready (rs := [0]) (by kernel_rfl) (by simp) (AllReady.cons rfl (fun K hK => ?_) AllReady.nil)
                      refine step_load6 rfl _ rfl (by rfl) dr_u ?_
                      refine hK _ _ ?_; clear hK K
                      refine wpAny_ready (rs := [2]) (by kernel_rfl) (by simp) (AllReady.cons rfl (fun K hK => ?_) AllReady.nil)
                      refine step_store6 rfl _ _ rfl rfl (by rfl) (by rfl) rfl dr_x ?_
                      intro Wpa hw_pa ho_pa hb_pa
                      have pa_x := hw_pa
                      have pa_z := ho_pa _ _ (by first | omega | (simp; omega)) dr_z
                      have pa_u := ho_pa _ _ (by first | omega | (simp; omega)) dr_u
                      have pa_v := ho_pa _ _ (by first | omega | (simp; omega)) dr_v
                      have pa_B := hb_pa w (by first | omega | (simp; omega)) dr_B
                      refine hK _ _ ?_; clear hK K
                      refine wpAny_ready (rs := [3]) (by kernel_rfl) (by simp) (AllReady.cons rfl (fun K hK => ?_) AllReady.nil)
                      refine step_store6 rfl _ _ rfl rfl (by rfl) (by rfl) rfl pa_z ?_
                      intro Wpb hw_pb ho_pb hb_pb
                      have pb_x := ho_pb _ _ (by first | omega | (simp; omega)) pa_x
                      have pb_z := hw_pb
                      have pb_u := ho_pb _ _ (by first | omega | (simp; omega)) pa_u
                      have pb_v := ho_pb _ _ (by first | omega | (simp; omega)) pa_v
                      have pb_B := hb_pb w (by first | omega | (simp; omega)) pa_B
                      refine hK _ _ ?_; clear hK K
                      refine wpAny_done (by kernel_rfl) ?_ _
                      go_wp2_with fail
                      go_meet
                      exact ⟨pb_x, pb_z, pb_u, pb_v, pb_B⟩
                  case rest =>
                    as_aux_lemma =>
                      obtain ⟨x_x54, x_z54, x_u54, x_v54, hB54⟩ := hcut
                      obtain ⟨w54, rfl⟩ : ∃ u : World, u = wc := ⟨_, rfl⟩
                      clear hB53 hs53 c_t53 c_co53 x_x53 z_x53 c_x53_0 c_x53_1 c_x53_2 c_x53_3 c_x53_4 c_x53_5 f_x53_0 f_x53_1 f_x53_2 f_x53_3 f_x53_4 f_x53_5 x_z53 z_z53 c_z53_0 c_z53_1 c_z53_2 c_z53_3 c_z53_4 c_z53_5 f_z53_0 f_z53_1 f_z53_2 f_z53_3 f_z53_4 f_z53_5 x_u53 z_u53 c_u53_0 c_u53_1 c_u53_2 c_u53_3 c_u53_4 c_u53_5 f_u53_0 f_u53_1 f_u53_2 f_u53_3 f_u53_4 f_u53_5 x_v53 z_v53 c_v53_0 c_v53_1 c_v53_2 c_v53_3 c_v53_4 c_v53_5 f_v53_0 f_v53_1 f_v53_2 f_v53_3 f_v53_4 f_v53_5
                      have c_t54 := cell_below hB54 T0
                      have c_co54 := cell_below hB54 C0
                      have hs54 : w.heap.size ≤ w54.heap.size := hB54.size
                      have z_x54 := x_x54.lt
                      have c_x54_0 := x_x54.c 0 _ rfl; have f_x54_0 := x_x54.f 0 _ rfl
                      have c_x54_1 := x_x54.c 1 _ rfl; have f_x54_1 := x_x54.f 1 _ rfl
                      have c_x54_2 := x_x54.c 2 _ rfl; have f_x54_2 := x_x54.f 2 _ rfl
                      have c_x54_3 := x_x54.c 3 _ rfl; have f_x54_3 := x_x54.f 3 _ rfl
                      have c_x54_4 := x_x54.c 4 _ rfl; have f_x54_4 := x_x54.f 4 _ rfl
                      have c_x54_5 := x_x54.c 5 _ rfl; have f_x54_5 := x_x54.f 5 _ rfl
                      have z_z54 := x_z54.lt
                      have c_z54_0 := x_z54.c 0 _ rfl; have f_z54_0 := x_z54.f 0 _ rfl
                      have c_z54_1 := x_z54.c 1 _ rfl; have f_z54_1 := x_z54.f 1 _ rfl
                      have c_z54_2 := x_z54.c 2 _ rfl; have f_z54_2 := x_z54.f 2 _ rfl
                      have c_z54_3 := x_z54.c 3 _ rfl; have f_z54_3 := x_z54.f 3 _ rfl
                      have c_z54_4 := x_z54.c 4 _ rfl; have f_z54_4 := x_z54.f 4 _ rfl
                      have c_z54_5 := x_z54.c 5 _ rfl; have f_z54_5 := x_z54.f 5 _ rfl
                      have z_u54 := x_u54.lt
                      have c_u54_0 := x_u54.c 0 _ rfl; have f_u54_0 := x_u54.f 0 _ rfl
                      have c_u54_1 := x_u54.c 1 _ rfl; have f_u54_1 := x_u54.f 1 _ rfl
                      have c_u54_2 := x_u54.c 2 _ rfl; have f_u54_2 := x_u54.f 2 _ rfl
                      have c_u54_3 := x_u54.c 3 _ rfl; have f_u54_3 := x_u54.f 3 _ rfl
                      have c_u54_4 := x_u54.c 4 _ rfl; have f_u54_4 := x_u54.f 4 _ rfl
                      have c_u54_5 := x_u54.c 5 _ rfl; have f_u54_5 := x_u54.f 5 _ rfl
                      have z_v54 := x_v54.lt
                      have c_v54_0 := x_v54.c 0 _ rfl; have f_v54_0 := x_v54.f 0 _ rfl
                      have c_v54_1 := x_v54.c 1 _ rfl; have f_v54_1 := x_v54.f 1 _ rfl
                      have c_v54_2 := x_v54.c 2 _ rfl; have f_v54_2 := x_v54.f 2 _ rfl
                      have c_v54_3 := x_v54.c 3 _ rfl; have f_v54_3 := x_v54.f 3 _ rfl
                      have c_v54_4 := x_v54.c 4 _ rfl; have f_v54_4 := x_v54.f 4 _ rfl
                      have c_v54_5 := x_v54.c 5 _ rfl; have f_v54_5 := x_v54.f 5 _ rfl
                      go_upto_region 12 with fail
                      go_cut [14] (fun q0 wx => q0 = .int .i64 0 ∧ Box wx (w.heap.size) [.int .i64 bu, .int .i64 ra, .int .i64 pe, .int .i64 L, .int .i64 Q, .int .u64 T] ∧ Box wx (w.heap.size + 1) [.int .i64 bu, .int .i64 ra, .int .i64 pe, .int .i64 L', .int .i64 Q', .int .u64 T] ∧ Box wx (b51) [.int .i64 bu, .int .i64 ra, .int .i64 pe, .int .i64 D, .int .i64 Q, .int .u64 T] ∧ Box wx (b52) [.int .i64 bu, .int .i64 ra, .int .i64 pe, .int .i64 L', .int .i64 Q', .int .u64 T] ∧ Below w.heap.size w wx)
                      case first =>
                        as_aux_lemma =>
                          go_region_held3 (fun w' => w'.cell? ⟨w.heap.size, 0, none⟩ = some (.int .i64 bu) ∧ w'.cell? ⟨w.heap.size, 1, none⟩ = some (.int .i64 ra) ∧ w'.cell? ⟨w.heap.size, 2, none⟩ = some (.int .i64 pe) ∧ w'.cell? ⟨w.heap.size, 3, none⟩ = some (.int .i64 L) ∧ w'.cell? ⟨w.heap.size, 4, none⟩ = some (.int .i64 Q) ∧ w'.cell? ⟨w.heap.size, 5, none⟩ = some (.int .u64 T) ∧ w'.cell? ⟨cb, coff + k, none⟩ = some (.int .i64 co)) (((repeat' apply And.intro) <;> (first | (go_keep; done) | go_cell)))
                            (first
                              | (go_at_call 16; refine (charge_is K1 q1 q2 hll F1 _).mono ?_; rintro e v1 ⟨rfl, hv1⟩; have hV1 : Below w.heap.size w v1 := below_thru (by go_grown) hv1; have hs_v1 : w.heap.size ≤ v1.heap.size := hV1.size; have x_x_v1 : Box v1 (w.heap.size) [.int .i64 bu, .int .i64 ra, .int .i64 pe, .int .i64 L, .int .i64 Q, .int .u64 T] := (by refine Box.below ?_ hv1; repeat (first | (with_reducible assumption) | (with_reducible refine Box.drew ?_) | (with_reducible refine Box.drewN ?_ _) | ((with_reducible refine Box.new ?_); simp; done) | (with_reducible apply Box.set2) | ((with_reducible apply Box.put); (with_reducible assumption); rfl) | (with_reducible refine Box.alloc ?_ _) | (with_reducible refine Box.other ?_ (by first | (dsimp only; omega) | omega) _))); have z_x_v1 := x_x_v1.lt; have c_x_v1_0 := x_x_v1.c 0 _ rfl; have f_x_v1_0 := x_x_v1.f 0 _ rfl; have c_x_v1_1 := x_x_v1.c 1 _ rfl; have f_x_v1_1 := x_x_v1.f 1 _ rfl; have c_x_v1_2 := x_x_v1.c 2 _ rfl; have f_x_v1_2 := x_x_v1.f 2 _ rfl; have c_x_v1_3 := x_x_v1.c 3 _ rfl; have f_x_v1_3 := x_x_v1.f 3 _ rfl; have c_x_v1_4 := x_x_v1.c 4 _ rfl; have f_x_v1_4 := x_x_v1.f 4 _ rfl; have c_x_v1_5 := x_x_v1.c 5 _ rfl; have f_x_v1_5 := x_x_v1.f 5 _ rfl; have x_z_v1 : Box v1 (w.heap.size + 1) [.int .i64 bu, .int .i64 ra, .int .i64 pe, .int .i64 L', .int .i64 Q', .int .u64 T] := (by refine Box.below ?_ hv1; repeat (first | (with_reducible assumption) | (with_reducible refine Box.drew ?_) | (with_reducible refine Box.drewN ?_ _) | ((with_reducible refine Box.new ?_); simp; done) | (with_reducible apply Box.set2) | ((with_reducible apply Box.put); (with_reducible assumption); rfl) | (with_reducible refine Box.alloc ?_ _) | (with_reducible refine Box.other ?_ (by first | (dsimp only; omega) | omega) _))); have z_z_v1 := x_z_v1.lt; have c_z_v1_0 := x_z_v1.c 0 _ rfl; have f_z_v1_0 := x_z_v1.f 0 _ rfl; have c_z_v1_1 := x_z_v1.c 1 _ rfl; have f_z_v1_1 := x_z_v1.f 1 _ rfl; have c_z_v1_2 := x_z_v1.c 2 _ rfl; have f_z_v1_2 := x_z_v1.f 2 _ rfl; have c_z_v1_3 := x_z_v1.c 3 _ rfl; have f_z_v1_3 := x_z_v1.f 3 _ rfl; have c_z_v1_4 := x_z_v1.c 4 _ rfl; have f_z_v1_4 := x_z_v1.f 4 _ rfl; have c_z_v1_5 := x_z_v1.c 5 _ rfl; have f_z_v1_5 := x_z_v1.f 5 _ rfl; have x_u_v1 : Box v1 (b51) [.int .i64 bu, .int .i64 ra, .int .i64 pe, .int .i64 L, .int .i64 Q, .int .u64 T] := (by refine Box.below ?_ hv1; repeat (first | (with_reducible assumption) | (with_reducible refine Box.drew ?_) | (with_reducible refine Box.drewN ?_ _) | ((with_reducible refine Box.new ?_); simp; done) | (with_reducible apply Box.set2) | ((with_reducible apply Box.put); (with_reducible assumption); rfl) | (with_reducible refine Box.alloc ?_ _) | (with_reducible refine Box.other ?_ (by first | (dsimp only; omega) | omega) _))); have z_u_v1 := x_u_v1.lt; have c_u_v1_0 := x_u_v1.c 0 _ rfl; have f_u_v1_0 := x_u_v1.f 0 _ rfl; have c_u_v1_1 := x_u_v1.c 1 _ rfl; have f_u_v1_1 := x_u_v1.f 1 _ rfl; have c_u_v1_2 := x_u_v1.c 2 _ rfl; have f_u_v1_2 := x_u_v1.f 2 _ rfl; have c_u_v1_3 := x_u_v1.c 3 _ rfl; have f_u_v1_3 := x_u_v1.f 3 _ rfl; have c_u_v1_4 := x_u_v1.c 4 _ rfl; have f_u_v1_4 := x_u_v1.f 4 _ rfl; have c_u_v1_5 := x_u_v1.c 5 _ rfl; have f_u_v1_5 := x_u_v1.f 5 _ rfl; have x_v_v1 : Box v1 (b52) [.int .i64 bu, .int .i64 ra, .int .i64 pe, .int .i64 L', .int .i64 Q', .int .u64 T] := (by refine Box.below ?_ hv1; repeat (first | (with_reducible assumption) | (with_reducible refine Box.drew ?_) | (with_reducible refine Box.drewN ?_ _) | ((with_reducible refine Box.new ?_); simp; done) | (with_reducible apply Box.set2) | ((with_reducible apply Box.put); (with_reducible assumption); rfl) | (with_reducible refine Box.alloc ?_ _) | (with_reducible refine Box.other ?_ (by first | (dsimp only; omega) | omega) _))); have z_v_v1 := x_v_v1.lt; have c_v_v1_0 := x_v_v1.c 0 _ rfl; have f_v_v1_0 := x_v_v1.f 0 _ rfl; have c_v_v1_1 := x_v_v1.c 1 _ rfl; have f_v_v1_1 := x_v_v1.f 1 _ rfl; have c_v_v1_2 := x_v_v1.c 2 _ rfl; have f_v_v1_2 := x_v_v1.f 2 _ rfl; have c_v_v1_3 := x_v_v1.c 3 _ rfl; have f_v_v1_3 := x_v_v1.f 3 _ rfl; have c_v_v1_4 := x_v_v1.c 4 _ rfl; have f_v_v1_4 := x_v_v1.f 4 _ rfl; have c_v_v1_5 := x_v_v1.c 5 _ rfl; have f_v_v1_5 := x_v_v1.f 5 _ rfl; have c_t_v1 := cell_below hV1 T0; have c_co_v1 := cell_below hV1 C0))
                          all_goals
                            go_wp2_with fail
                            go_meet
                            refine ⟨rfl, ?_, ?_, ?_, ?_, ?_⟩
                            all_goals first
                              | ((repeat (first | (with_reducible apply put6) | (with_reducible refine other6 ?_ (by first | (dsimp only; omega) | omega) _ _ _ _ _ _) | (with_reducible assumption) | (with_reducible refine Box.drew ?_) | (with_reducible refine Box.drewN ?_ _) | ((with_reducible refine Box.new ?_); simp; done) | (with_reducible apply Box.set2) | (with_reducible refine Box.alloc ?_ _) | (with_reducible refine Box.other ?_ (by first | (dsimp only; omega) | omega) _))); done)
                              | (go_grown; done)
                      case rest =>
                        as_aux_lemma =>
                          obtain ⟨rfl, x_x55, x_z55, x_u55, x_v55, hB55⟩ := hcut
                          obtain ⟨w55, rfl⟩ : ∃ u : World, u = wc := ⟨_, rfl⟩
                          clear hB54 hs54 c_t54 c_co54 x_x54 z_x54 c_x54_0 c_x54_1 c_x54_2 c_x54_3 c_x54_4 c_x54_5 f_x54_0 f_x54_1 f_x54_2 f_x54_3 f_x54_4 f_x54_5 x_z54 z_z54 c_z54_0 c_z54_1 c_z54_2 c_z54_3 c_z54_4 c_z54_5 f_z54_0 f_z54_1 f_z54_2 f_z54_3 f_z54_4 f_z54_5 x_u54 z_u54 c_u54_0 c_u54_1 c_u54_2 c_u54_3 c_u54_4 c_u54_5 f_u54_0 f_u54_1 f_u54_2 f_u54_3 f_u54_4 f_u54_5 x_v54 z_v54 c_v54_0 c_v54_1 c_v54_2 c_v54_3 c_v54_4 c_v54_5 f_v54_0 f_v54_1 f_v54_2 f_v54_3 f_v54_4 f_v54_5
                          have c_t55 := cell_below hB55 T0
                          have c_co55 := cell_below hB55 C0
                          have hs55 : w.heap.size ≤ w55.heap.size := hB55.size
                          have z_x55 := x_x55.lt
                          have c_x55_0 := x_x55.c 0 _ rfl; have f_x55_0 := x_x55.f 0 _ rfl
                          have c_x55_1 := x_x55.c 1 _ rfl; have f_x55_1 := x_x55.f 1 _ rfl
                          have c_x55_2 := x_x55.c 2 _ rfl; have f_x55_2 := x_x55.f 2 _ rfl
                          have c_x55_3 := x_x55.c 3 _ rfl; have f_x55_3 := x_x55.f 3 _ rfl
                          have c_x55_4 := x_x55.c 4 _ rfl; have f_x55_4 := x_x55.f 4 _ rfl
                          have c_x55_5 := x_x55.c 5 _ rfl; have f_x55_5 := x_x55.f 5 _ rfl
                          have z_z55 := x_z55.lt
                          have c_z55_0 := x_z55.c 0 _ rfl; have f_z55_0 := x_z55.f 0 _ rfl
                          have c_z55_1 := x_z55.c 1 _ rfl; have f_z55_1 := x_z55.f 1 _ rfl
                          have c_z55_2 := x_z55.c 2 _ rfl; have f_z55_2 := x_z55.f 2 _ rfl
                          have c_z55_3 := x_z55.c 3 _ rfl; have f_z55_3 := x_z55.f 3 _ rfl
                          have c_z55_4 := x_z55.c 4 _ rfl; have f_z55_4 := x_z55.f 4 _ rfl
                          have c_z55_5 := x_z55.c 5 _ rfl; have f_z55_5 := x_z55.f 5 _ rfl
                          have z_u55 := x_u55.lt
                          have c_u55_0 := x_u55.c 0 _ rfl; have f_u55_0 := x_u55.f 0 _ rfl
                          have c_u55_1 := x_u55.c 1 _ rfl; have f_u55_1 := x_u55.f 1 _ rfl
                          have c_u55_2 := x_u55.c 2 _ rfl; have f_u55_2 := x_u55.f 2 _ rfl
                          have c_u55_3 := x_u55.c 3 _ rfl; have f_u55_3 := x_u55.f 3 _ rfl
                          have c_u55_4 := x_u55.c 4 _ rfl; have f_u55_4 := x_u55.f 4 _ rfl
                          have c_u55_5 := x_u55.c 5 _ rfl; have f_u55_5 := x_u55.f 5 _ rfl
                          have z_v55 := x_v55.lt
                          have c_v55_0 := x_v55.c 0 _ rfl; have f_v55_0 := x_v55.f 0 _ rfl
                          have c_v55_1 := x_v55.c 1 _ rfl; have f_v55_1 := x_v55.f 1 _ rfl
                          have c_v55_2 := x_v55.c 2 _ rfl; have f_v55_2 := x_v55.f 2 _ rfl
                          have c_v55_3 := x_v55.c 3 _ rfl; have f_v55_3 := x_v55.f 3 _ rfl
                          have c_v55_4 := x_v55.c 4 _ rfl; have f_v55_4 := x_v55.f 4 _ rfl
                          have c_v55_5 := x_v55.c 5 _ rfl; have f_v55_5 := x_v55.f 5 _ rfl
                          go_upto_region 13 with fail
                          go_cut [15] (fun q0 wx => q0 = .int .i64 0 ∧ Box wx (w.heap.size) [.int .i64 bu, .int .i64 ra, .int .i64 pe, .int .i64 L, .int .i64 Q, .int .u64 T] ∧ Box wx (w.heap.size + 1) [.int .i64 bu, .int .i64 ra, .int .i64 pe, .int .i64 L', .int .i64 Q', .int .u64 T] ∧ Box wx (b51) [.int .i64 bu, .int .i64 ra, .int .i64 pe, .int .i64 D, .int .i64 Q, .int .u64 T] ∧ Box wx (b52) [.int .i64 bu, .int .i64 ra, .int .i64 pe, .int .i64 D', .int .i64 Q', .int .u64 T] ∧ Below w.heap.size w wx)
                          case first =>
                            as_aux_lemma =>
                              go_region_held3 (fun w' => w'.cell? ⟨w.heap.size + 1, 0, none⟩ = some (.int .i64 bu) ∧ w'.cell? ⟨w.heap.size + 1, 1, none⟩ = some (.int .i64 ra) ∧ w'.cell? ⟨w.heap.size + 1, 2, none⟩ = some (.int .i64 pe) ∧ w'.cell? ⟨w.heap.size + 1, 3, none⟩ = some (.int .i64 L') ∧ w'.cell? ⟨w.heap.size + 1, 4, none⟩ = some (.int .i64 Q') ∧ w'.cell? ⟨w.heap.size + 1, 5, none⟩ = some (.int .u64 T) ∧ w'.cell? ⟨cb, coff + k, none⟩ = some (.int .i64 co)) (((repeat' apply And.intro) <;> (first | (go_keep; done) | go_cell)))
                                (first
                                  | (go_at_call 16; refine (charge_is K2 q1 hcl hll' F2 _).mono ?_; rintro e v1 ⟨rfl, hv1⟩; have hV1 : Below w.heap.size w v1 := below_thru (by go_grown) hv1; have hs_v1 : w.heap.size ≤ v1.heap.size := hV1.size; have x_x_v1 : Box v1 (w.heap.size) [.int .i64 bu, .int .i64 ra, .int .i64 pe, .int .i64 L, .int .i64 Q, .int .u64 T] := (by refine Box.below ?_ hv1; repeat (first | (with_reducible assumption) | (with_reducible refine Box.drew ?_) | (with_reducible refine Box.drewN ?_ _) | ((with_reducible refine Box.new ?_); simp; done) | (with_reducible apply Box.set2) | ((with_reducible apply Box.put); (with_reducible assumption); rfl) | (with_reducible refine Box.alloc ?_ _) | (with_reducible refine Box.other ?_ (by first | (dsimp only; omega) | omega) _))); have z_x_v1 := x_x_v1.lt; have c_x_v1_0 := x_x_v1.c 0 _ rfl; have f_x_v1_0 := x_x_v1.f 0 _ rfl; have c_x_v1_1 := x_x_v1.c 1 _ rfl; have f_x_v1_1 := x_x_v1.f 1 _ rfl; have c_x_v1_2 := x_x_v1.c 2 _ rfl; have f_x_v1_2 := x_x_v1.f 2 _ rfl; have c_x_v1_3 := x_x_v1.c 3 _ rfl; have f_x_v1_3 := x_x_v1.f 3 _ rfl; have c_x_v1_4 := x_x_v1.c 4 _ rfl; have f_x_v1_4 := x_x_v1.f 4 _ rfl; have c_x_v1_5 := x_x_v1.c 5 _ rfl; have f_x_v1_5 := x_x_v1.f 5 _ rfl; have x_z_v1 : Box v1 (w.heap.size + 1) [.int .i64 bu, .int .i64 ra, .int .i64 pe, .int .i64 L', .int .i64 Q', .int .u64 T] := (by refine Box.below ?_ hv1; repeat (first | (with_reducible assumption) | (with_reducible refine Box.drew ?_) | (with_reducible refine Box.drewN ?_ _) | ((with_reducible refine Box.new ?_); simp; done) | (with_reducible apply Box.set2) | ((with_reducible apply Box.put); (with_reducible assumption); rfl) | (with_reducible refine Box.alloc ?_ _) | (with_reducible refine Box.other ?_ (by first | (dsimp only; omega) | omega) _))); have z_z_v1 := x_z_v1.lt; have c_z_v1_0 := x_z_v1.c 0 _ rfl; have f_z_v1_0 := x_z_v1.f 0 _ rfl; have c_z_v1_1 := x_z_v1.c 1 _ rfl; have f_z_v1_1 := x_z_v1.f 1 _ rfl; have c_z_v1_2 := x_z_v1.c 2 _ rfl; have f_z_v1_2 := x_z_v1.f 2 _ rfl; have c_z_v1_3 := x_z_v1.c 3 _ rfl; have f_z_v1_3 := x_z_v1.f 3 _ rfl; have c_z_v1_4 := x_z_v1.c 4 _ rfl; have f_z_v1_4 := x_z_v1.f 4 _ rfl; have c_z_v1_5 := x_z_v1.c 5 _ rfl; have f_z_v1_5 := x_z_v1.f 5 _ rfl; have x_u_v1 : Box v1 (b51) [.int .i64 bu, .int .i64 ra, .int .i64 pe, .int .i64 D, .int .i64 Q, .int .u64 T] := (by refine Box.below ?_ hv1; repeat (first | (with_reducible assumption) | (with_reducible refine Box.drew ?_) | (with_reducible refine Box.drewN ?_ _) | ((with_reducible refine Box.new ?_); simp; done) | (with_reducible apply Box.set2) | ((with_reducible apply Box.put); (with_reducible assumption); rfl) | (with_reducible refine Box.alloc ?_ _) | (with_reducible refine Box.other ?_ (by first | (dsimp only; omega) | omega) _))); have z_u_v1 := x_u_v1.lt; have c_u_v1_0 := x_u_v1.c 0 _ rfl; have f_u_v1_0 := x_u_v1.f 0 _ rfl; have c_u_v1_1 := x_u_v1.c 1 _ rfl; have f_u_v1_1 := x_u_v1.f 1 _ rfl; have c_u_v1_2 := x_u_v1.c 2 _ rfl; have f_u_v1_2 := x_u_v1.f 2 _ rfl; have c_u_v1_3 := x_u_v1.c 3 _ rfl; have f_u_v1_3 := x_u_v1.f 3 _ rfl; have c_u_v1_4 := x_u_v1.c 4 _ rfl; have f_u_v1_4 := x_u_v1.f 4 _ rfl; have c_u_v1_5 := x_u_v1.c 5 _ rfl; have f_u_v1_5 := x_u_v1.f 5 _ rfl; have x_v_v1 : Box v1 (b52) [.int .i64 bu, .int .i64 ra, .int .i64 pe, .int .i64 L', .int .i64 Q', .int .u64 T] := (by refine Box.below ?_ hv1; repeat (first | (with_reducible assumption) | (with_reducible refine Box.drew ?_) | (with_reducible refine Box.drewN ?_ _) | ((with_reducible refine Box.new ?_); simp; done) | (with_reducible apply Box.set2) | ((with_reducible apply Box.put); (with_reducible assumption); rfl) | (with_reducible refine Box.alloc ?_ _) | (with_reducible refine Box.other ?_ (by first | (dsimp only; omega) | omega) _))); have z_v_v1 := x_v_v1.lt; have c_v_v1_0 := x_v_v1.c 0 _ rfl; have f_v_v1_0 := x_v_v1.f 0 _ rfl; have c_v_v1_1 := x_v_v1.c 1 _ rfl; have f_v_v1_1 := x_v_v1.f 1 _ rfl; have c_v_v1_2 := x_v_v1.c 2 _ rfl; have f_v_v1_2 := x_v_v1.f 2 _ rfl; have c_v_v1_3 := x_v_v1.c 3 _ rfl; have f_v_v1_3 := x_v_v1.f 3 _ rfl; have c_v_v1_4 := x_v_v1.c 4 _ rfl; have f_v_v1_4 := x_v_v1.f 4 _ rfl; have c_v_v1_5 := x_v_v1.c 5 _ rfl; have f_v_v1_5 := x_v_v1.f 5 _ rfl; have c_t_v1 := cell_below hV1 T0; have c_co_v1 := cell_below hV1 C0))
                              all_goals
                                go_wp2_with fail
                                go_meet
                                refine ⟨rfl, ?_, ?_, ?_, ?_, ?_⟩
                                all_goals first
                                  | ((repeat (first | (with_reducible apply put6) | (with_reducible refine other6 ?_ (by first | (dsimp only; omega) | omega) _ _ _ _ _ _) | (with_reducible assumption) | (with_reducible refine Box.drew ?_) | (with_reducible refine Box.drewN ?_ _) | ((with_reducible refine Box.new ?_); simp; done) | (with_reducible apply Box.set2) | (with_reducible refine Box.alloc ?_ _) | (with_reducible refine Box.other ?_ (by first | (dsimp only; omega) | omega) _))); done)
                                  | (go_grown; done)
                          case rest =>
                            as_aux_lemma =>
                              obtain ⟨rfl, x_x56, x_z56, x_u56, x_v56, hB56⟩ := hcut
                              obtain ⟨w56, rfl⟩ : ∃ u : World, u = wc := ⟨_, rfl⟩
                              clear hB55 hs55 c_t55 c_co55 x_x55 z_x55 c_x55_0 c_x55_1 c_x55_2 c_x55_3 c_x55_4 c_x55_5 f_x55_0 f_x55_1 f_x55_2 f_x55_3 f_x55_4 f_x55_5 x_z55 z_z55 c_z55_0 c_z55_1 c_z55_2 c_z55_3 c_z55_4 c_z55_5 f_z55_0 f_z55_1 f_z55_2 f_z55_3 f_z55_4 f_z55_5 x_u55 z_u55 c_u55_0 c_u55_1 c_u55_2 c_u55_3 c_u55_4 c_u55_5 f_u55_0 f_u55_1 f_u55_2 f_u55_3 f_u55_4 f_u55_5 x_v55 z_v55 c_v55_0 c_v55_1 c_v55_2 c_v55_3 c_v55_4 c_v55_5 f_v55_0 f_v55_1 f_v55_2 f_v55_3 f_v55_4 f_v55_5
                              have c_t56 := cell_below hB56 T0
                              have c_co56 := cell_below hB56 C0
                              have hs56 : w.heap.size ≤ w56.heap.size := hB56.size
                              have z_x56 := x_x56.lt
                              have c_x56_0 := x_x56.c 0 _ rfl; have f_x56_0 := x_x56.f 0 _ rfl
                              have c_x56_1 := x_x56.c 1 _ rfl; have f_x56_1 := x_x56.f 1 _ rfl
                              have c_x56_2 := x_x56.c 2 _ rfl; have f_x56_2 := x_x56.f 2 _ rfl
                              have c_x56_3 := x_x56.c 3 _ rfl; have f_x56_3 := x_x56.f 3 _ rfl
                              have c_x56_4 := x_x56.c 4 _ rfl; have f_x56_4 := x_x56.f 4 _ rfl
                              have c_x56_5 := x_x56.c 5 _ rfl; have f_x56_5 := x_x56.f 5 _ rfl
                              have z_z56 := x_z56.lt
                              have c_z56_0 := x_z56.c 0 _ rfl; have f_z56_0 := x_z56.f 0 _ rfl
                              have c_z56_1 := x_z56.c 1 _ rfl; have f_z56_1 := x_z56.f 1 _ rfl
                              have c_z56_2 := x_z56.c 2 _ rfl; have f_z56_2 := x_z56.f 2 _ rfl
                              have c_z56_3 := x_z56.c 3 _ rfl; have f_z56_3 := x_z56.f 3 _ rfl
                              have c_z56_4 := x_z56.c 4 _ rfl; have f_z56_4 := x_z56.f 4 _ rfl
                              have c_z56_5 := x_z56.c 5 _ rfl; have f_z56_5 := x_z56.f 5 _ rfl
                              have z_u56 := x_u56.lt
                              have c_u56_0 := x_u56.c 0 _ rfl; have f_u56_0 := x_u56.f 0 _ rfl
                              have c_u56_1 := x_u56.c 1 _ rfl; have f_u56_1 := x_u56.f 1 _ rfl
                              have c_u56_2 := x_u56.c 2 _ rfl; have f_u56_2 := x_u56.f 2 _ rfl
                              have c_u56_3 := x_u56.c 3 _ rfl; have f_u56_3 := x_u56.f 3 _ rfl
                              have c_u56_4 := x_u56.c 4 _ rfl; have f_u56_4 := x_u56.f 4 _ rfl
                              have c_u56_5 := x_u56.c 5 _ rfl; have f_u56_5 := x_u56.f 5 _ rfl
                              have z_v56 := x_v56.lt
                              have c_v56_0 := x_v56.c 0 _ rfl; have f_v56_0 := x_v56.f 0 _ rfl
                              have c_v56_1 := x_v56.c 1 _ rfl; have f_v56_1 := x_v56.f 1 _ rfl
                              have c_v56_2 := x_v56.c 2 _ rfl; have f_v56_2 := x_v56.f 2 _ rfl
                              have c_v56_3 := x_v56.c 3 _ rfl; have f_v56_3 := x_v56.f 3 _ rfl
                              have c_v56_4 := x_v56.c 4 _ rfl; have f_v56_4 := x_v56.f 4 _ rfl
                              have c_v56_5 := x_v56.c 5 _ rfl; have f_v56_5 := x_v56.f 5 _ rfl
                              go_wp2_with fail
                              refine (more_is M2 _).mono ?_
                              rintro e w57 ⟨rfl, hb⟩
                              have hB57 : Below w.heap.size w w57 := below_thru (by go_grown) hb
                              have hs57 : w.heap.size ≤ w57.heap.size := hB57.size
                              have x_x57 : Box w57 (w.heap.size) [.int .i64 bu, .int .i64 ra, .int .i64 pe, .int .i64 L, .int .i64 Q, .int .u64 T] := (by refine Box.below ?_ hb; repeat (first | (with_reducible assumption) | (with_reducible refine Box.drew ?_) | (with_reducible refine Box.drewN ?_ _) | ((with_reducible refine Box.new ?_); simp; done) | (with_reducible apply Box.set2) | ((with_reducible apply Box.put); (with_reducible assumption); rfl) | (with_reducible refine Box.alloc ?_ _) | (with_reducible refine Box.other ?_ (by first | (dsimp only; omega) | omega) _)))
                              have z_x57 := x_x57.lt
                              have c_x57_0 := x_x57.c 0 _ rfl
                              have f_x57_0 := x_x57.f 0 _ rfl
                              have c_x57_1 := x_x57.c 1 _ rfl
                              have f_x57_1 := x_x57.f 1 _ rfl
                              have c_x57_2 := x_x57.c 2 _ rfl
                              have f_x57_2 := x_x57.f 2 _ rfl
                              have c_x57_3 := x_x57.c 3 _ rfl
                              have f_x57_3 := x_x57.f 3 _ rfl
                              have c_x57_4 := x_x57.c 4 _ rfl
                              have f_x57_4 := x_x57.f 4 _ rfl
                              have c_x57_5 := x_x57.c 5 _ rfl
                              have f_x57_5 := x_x57.f 5 _ rfl
                              have x_z57 : Box w57 (w.heap.size + 1) [.int .i64 bu, .int .i64 ra, .int .i64 pe, .int .i64 L', .int .i64 Q', .int .u64 T] := (by refine Box.below ?_ hb; repeat (first | (with_reducible assumption) | (with_reducible refine Box.drew ?_) | (with_reducible refine Box.drewN ?_ _) | ((with_reducible refine Box.new ?_); simp; done) | (with_reducible apply Box.set2) | ((with_reducible apply Box.put); (with_reducible assumption); rfl) | (with_reducible refine Box.alloc ?_ _) | (with_reducible refine Box.other ?_ (by first | (dsimp only; omega) | omega) _)))
                              have z_z57 := x_z57.lt
                              have c_z57_0 := x_z57.c 0 _ rfl
                              have f_z57_0 := x_z57.f 0 _ rfl
                              have c_z57_1 := x_z57.c 1 _ rfl
                              have f_z57_1 := x_z57.f 1 _ rfl
                              have c_z57_2 := x_z57.c 2 _ rfl
                              have f_z57_2 := x_z57.f 2 _ rfl
                              have c_z57_3 := x_z57.c 3 _ rfl
                              have f_z57_3 := x_z57.f 3 _ rfl
                              have c_z57_4 := x_z57.c 4 _ rfl
                              have f_z57_4 := x_z57.f 4 _ rfl
                              have c_z57_5 := x_z57.c 5 _ rfl
                              have f_z57_5 := x_z57.f 5 _ rfl
                              have x_u57 : Box w57 (b51) [.int .i64 bu, .int .i64 ra, .int .i64 pe, .int .i64 D, .int .i64 Q, .int .u64 T] := (by refine Box.below ?_ hb; repeat (first | (with_reducible assumption) | (with_reducible refine Box.drew ?_) | (with_reducible refine Box.drewN ?_ _) | ((with_reducible refine Box.new ?_); simp; done) | (with_reducible apply Box.set2) | ((with_reducible apply Box.put); (with_reducible assumption); rfl) | (with_reducible refine Box.alloc ?_ _) | (with_reducible refine Box.other ?_ (by first | (dsimp only; omega) | omega) _)))
                              have z_u57 := x_u57.lt
                              have c_u57_0 := x_u57.c 0 _ rfl
                              have f_u57_0 := x_u57.f 0 _ rfl
                              have c_u57_1 := x_u57.c 1 _ rfl
                              have f_u57_1 := x_u57.f 1 _ rfl
                              have c_u57_2 := x_u57.c 2 _ rfl
                              have f_u57_2 := x_u57.f 2 _ rfl
                              have c_u57_3 := x_u57.c 3 _ rfl
                              have f_u57_3 := x_u57.f 3 _ rfl
                              have c_u57_4 := x_u57.c 4 _ rfl
                              have f_u57_4 := x_u57.f 4 _ rfl
                              have c_u57_5 := x_u57.c 5 _ rfl
                              have f_u57_5 := x_u57.f 5 _ rfl
                              have x_v57 : Box w57 (b52) [.int .i64 bu, .int .i64 ra, .int .i64 pe, .int .i64 D', .int .i64 Q', .int .u64 T] := (by refine Box.below ?_ hb; repeat (first | (with_reducible assumption) | (with_reducible refine Box.drew ?_) | (with_reducible refine Box.drewN ?_ _) | ((with_reducible refine Box.new ?_); simp; done) | (with_reducible apply Box.set2) | ((with_reducible apply Box.put); (with_reducible assumption); rfl) | (with_reducible refine Box.alloc ?_ _) | (with_reducible refine Box.other ?_ (by first | (dsimp only; omega) | omega) _)))
                              have z_v57 := x_v57.lt
                              have c_v57_0 := x_v57.c 0 _ rfl
                              have f_v57_0 := x_v57.f 0 _ rfl
                              have c_v57_1 := x_v57.c 1 _ rfl
                              have f_v57_1 := x_v57.f 1 _ rfl
                              have c_v57_2 := x_v57.c 2 _ rfl
                              have f_v57_2 := x_v57.f 2 _ rfl
                              have c_v57_3 := x_v57.c 3 _ rfl
                              have f_v57_3 := x_v57.f 3 _ rfl
                              have c_v57_4 := x_v57.c 4 _ rfl
                              have f_v57_4 := x_v57.f 4 _ rfl
                              have c_v57_5 := x_v57.c 5 _ rfl
                              have f_v57_5 := x_v57.f 5 _ rfl
                              have c_t57 := cell_below hB57 T0
                              have c_co57 := cell_below hB57 C0
                              have t57 := hb.size
                              try simp at t57
                              clear hb hB56 hs56 c_t56 c_co56 x_x56 z_x56 c_x56_0 c_x56_1 c_x56_2 c_x56_3 c_x56_4 c_x56_5 f_x56_0 f_x56_1 f_x56_2 f_x56_3 f_x56_4 f_x56_5 x_z56 z_z56 c_z56_0 c_z56_1 c_z56_2 c_z56_3 c_z56_4 c_z56_5 f_z56_0 f_z56_1 f_z56_2 f_z56_3 f_z56_4 f_z56_5 x_u56 z_u56 c_u56_0 c_u56_1 c_u56_2 c_u56_3 c_u56_4 c_u56_5 f_u56_0 f_u56_1 f_u56_2 f_u56_3 f_u56_4 f_u56_5 x_v56 z_v56 c_v56_0 c_v56_1 c_v56_2 c_v56_3 c_v56_4 c_v56_5 f_v56_0 f_v56_1 f_v56_2 f_v56_3 f_v56_4 f_v56_5
                              go_upto_region 17 with fail
                              go_cut [] (fun wx => Box wx (w.heap.size) [.int .i64 bu, .int .i64 ra, .int .i64 pe, .int .i64 D, .int .i64 Q, .int .u64 T] ∧ Box wx (w.heap.size + 1) [.int .i64 bu, .int .i64 ra, .int .i64 pe, .int .i64 D', .int .i64 Q', .int .u64 T] ∧ Box wx (b51) [.int .i64 bu, .int .i64 ra, .int .i64 pe, .int .i64 D, .int .i64 Q, .int .u64 T] ∧ Box wx (b52) [.int .i64 bu, .int .i64 ra, .int .i64 pe, .int .i64 D', .int .i64 Q', .int .u64 T] ∧ Below w.heap.size w wx)
                              case first =>
                                have dr_x := Box.drew x_x57
                                have dr_z := Box.drew x_z57
                                have dr_u := Box.drew x_u57
                                have dr_v := Box.drew x_v57
                                have dr_B := below_drew1 hB57
                                refine wp_region_any (by kernel_rfl) ?_
                                try (change wpAny _ _ _ _ _ _ _ (World.drew _))
                                refine wpAny_ready (rs := [0, 1]) (by kernel_rfl) (by simp) (AllReady.cons rfl (fun K hK => ?_) (AllReady.cons rfl (fun K hK => ?_) AllReady.nil))
                                · skip
                                  refine step_load6 rfl _ rfl (by rfl) dr_u ?_
                                  refine hK _ _ ?_; clear hK K
                                  refine wpAny_ready (rs := [1, 2]) (by kernel_rfl) (by simp) (AllReady.cons rfl (fun K hK => ?_) (AllReady.cons rfl (fun K hK => ?_) AllReady.nil))
                                  · skip
                                    refine step_load6 rfl _ rfl (by rfl) dr_v ?_
                                    refine hK _ _ ?_; clear hK K
                                    refine wpAny_ready (rs := [2]) (by kernel_rfl) (by simp) (AllReady.cons rfl (fun K hK => ?_) AllReady.nil)
                                    refine step_store6 rfl _ _ rfl rfl (by rfl) (by rfl) rfl dr_x ?_
                                    intro Wpa hw_pa ho_pa hb_pa
                                    have pa_x := hw_pa
                                    have pa_z := ho_pa _ _ (by first | omega | (simp; omega)) dr_z
                                    have pa_u := ho_pa _ _ (by first | omega | (simp; omega)) dr_u
                                    have pa_v := ho_pa _ _ (by first | omega | (simp; omega)) dr_v
                                    have pa_B := hb_pa w (by first | omega | (simp; omega)) dr_B
                                    refine hK _ _ ?_; clear hK K
                                    refine wpAny_ready (rs := [3]) (by kernel_rfl) (by simp) (AllReady.cons rfl (fun K hK => ?_) AllReady.nil)
                                    refine step_store6 rfl _ _ rfl rfl (by rfl) (by rfl) rfl pa_z ?_
                                    intro Wpb hw_pb ho_pb hb_pb
                                    have pb_x := ho_pb _ _ (by first | omega | (simp; omega)) pa_x
                                    have pb_z := hw_pb
                                    have pb_u := ho_pb _ _ (by first | omega | (simp; omega)) pa_u
                                    have pb_v := ho_pb _ _ (by first | omega | (simp; omega)) pa_v
                                    have pb_B := hb_pb w (by first | omega | (simp; omega)) pa_B
                                    refine hK _ _ ?_; clear hK K
                                    refine wpAny_done (by kernel_rfl) ?_ _
                                    go_wp2_with fail
                                    go_meet
                                    exact ⟨pb_x, pb_z, pb_u, pb_v, pb_B⟩
                                  · skip
                                    refine step_store6 rfl _ _ rfl rfl (by rfl) (by rfl) rfl dr_x ?_
                                    intro Wpa hw_pa ho_pa hb_pa
                                    have pa_x := hw_pa
                                    have pa_z := ho_pa _ _ (by first | omega | (simp; omega)) dr_z
                                    have pa_u := ho_pa _ _ (by first | omega | (simp; omega)) dr_u
                                    have pa_v := ho_pa _ _ (by first | omega | (simp; omega)) dr_v
                                    have pa_B := hb_pa w (by first | omega | (simp; omega)) dr_B
                                    refine hK _ _ ?_; clear hK K
                                    refine wpAny_ready (rs := [1]) (by kernel_rfl) (by simp) (AllReady.cons rfl (fun K hK => ?_) AllReady.nil)
                                    refine step_load6 rfl _ rfl (by rfl) pa_v ?_
                                    refine hK _ _ ?_; clear hK K
                                    refine wpAny_ready (rs := [3]) (by kernel_rfl) (by simp) (AllReady.cons rfl (fun K hK => ?_) AllReady.nil)
                                    refine step_store6 rfl _ _ rfl rfl (by rfl) (by rfl) rfl pa_z ?_
                                    intro Wpb hw_pb ho_pb hb_pb
                                    have pb_x := ho_pb _ _ (by first | omega | (simp; omega)) pa_x
                                    have pb_z := hw_pb
                                    have pb_u := ho_pb _ _ (by first | omega | (simp; omega)) pa_u
                                    have pb_v := ho_pb _ _ (by first | omega | (simp; omega)) pa_v
                                    have pb_B := hb_pb w (by first | omega | (simp; omega)) pa_B
                                    refine hK _ _ ?_; clear hK K
                                    refine wpAny_done (by kernel_rfl) ?_ _
                                    go_wp2_with fail
                                    go_meet
                                    exact ⟨pb_x, pb_z, pb_u, pb_v, pb_B⟩
                                · skip
                                  refine step_load6 rfl _ rfl (by rfl) dr_v ?_
                                  refine hK _ _ ?_; clear hK K
                                  refine wpAny_ready (rs := [0]) (by kernel_rfl) (by simp) (AllReady.cons rfl (fun K hK => ?_) AllReady.nil)
                                  refine step_load6 rfl _ rfl (by rfl) dr_u ?_
                                  refine hK _ _ ?_; clear hK K
                                  refine wpAny_ready (rs := [2]) (by kernel_rfl) (by simp) (AllReady.cons rfl (fun K hK => ?_) AllReady.nil)
                                  refine step_store6 rfl _ _ rfl rfl (by rfl) (by rfl) rfl dr_x ?_
                                  intro Wpa hw_pa ho_pa hb_pa
                                  have pa_x := hw_pa
                                  have pa_z := ho_pa _ _ (by first | omega | (simp; omega)) dr_z
                                  have pa_u := ho_pa _ _ (by first | omega | (simp; omega)) dr_u
                                  have pa_v := ho_pa _ _ (by first | omega | (simp; omega)) dr_v
                                  have pa_B := hb_pa w (by first | omega | (simp; omega)) dr_B
                                  refine hK _ _ ?_; clear hK K
                                  refine wpAny_ready (rs := [3]) (by kernel_rfl) (by simp) (AllReady.cons rfl (fun K hK => ?_) AllReady.nil)
                                  refine step_store6 rfl _ _ rfl rfl (by rfl) (by rfl) rfl pa_z ?_
                                  intro Wpb hw_pb ho_pb hb_pb
                                  have pb_x := ho_pb _ _ (by first | omega | (simp; omega)) pa_x
                                  have pb_z := hw_pb
                                  have pb_u := ho_pb _ _ (by first | omega | (simp; omega)) pa_u
                                  have pb_v := ho_pb _ _ (by first | omega | (simp; omega)) pa_v
                                  have pb_B := hb_pb w (by first | omega | (simp; omega)) pa_B
                                  refine hK _ _ ?_; clear hK K
                                  refine wpAny_done (by kernel_rfl) ?_ _
                                  go_wp2_with fail
                                  go_meet
                                  exact ⟨pb_x, pb_z, pb_u, pb_v, pb_B⟩
                              case rest =>
                                as_aux_lemma =>
                                  obtain ⟨x_x58, x_z58, x_u58, x_v58, hB58⟩ := hcut
                                  obtain ⟨w58, rfl⟩ : ∃ u : World, u = wc := ⟨_, rfl⟩
                                  clear hB57 hs57 c_t57 c_co57 x_x57 z_x57 c_x57_0 c_x57_1 c_x57_2 c_x57_3 c_x57_4 c_x57_5 f_x57_0 f_x57_1 f_x57_2 f_x57_3 f_x57_4 f_x57_5 x_z57 z_z57 c_z57_0 c_z57_1 c_z57_2 c_z57_3 c_z57_4 c_z57_5 f_z57_0 f_z57_1 f_z57_2 f_z57_3 f_z57_4 f_z57_5 x_u57 z_u57 c_u57_0 c_u57_1 c_u57_2 c_u57_3 c_u57_4 c_u57_5 f_u57_0 f_u57_1 f_u57_2 f_u57_3 f_u57_4 f_u57_5 x_v57 z_v57 c_v57_0 c_v57_1 c_v57_2 c_v57_3 c_v57_4 c_v57_5 f_v57_0 f_v57_1 f_v57_2 f_v57_3 f_v57_4 f_v57_5
                                  have c_t58 := cell_below hB58 T0
                                  have c_co58 := cell_below hB58 C0
                                  have hs58 : w.heap.size ≤ w58.heap.size := hB58.size
                                  have z_x58 := x_x58.lt
                                  have c_x58_0 := x_x58.c 0 _ rfl; have f_x58_0 := x_x58.f 0 _ rfl
                                  have c_x58_1 := x_x58.c 1 _ rfl; have f_x58_1 := x_x58.f 1 _ rfl
                                  have c_x58_2 := x_x58.c 2 _ rfl; have f_x58_2 := x_x58.f 2 _ rfl
                                  have c_x58_3 := x_x58.c 3 _ rfl; have f_x58_3 := x_x58.f 3 _ rfl
                                  have c_x58_4 := x_x58.c 4 _ rfl; have f_x58_4 := x_x58.f 4 _ rfl
                                  have c_x58_5 := x_x58.c 5 _ rfl; have f_x58_5 := x_x58.f 5 _ rfl
                                  have z_z58 := x_z58.lt
                                  have c_z58_0 := x_z58.c 0 _ rfl; have f_z58_0 := x_z58.f 0 _ rfl
                                  have c_z58_1 := x_z58.c 1 _ rfl; have f_z58_1 := x_z58.f 1 _ rfl
                                  have c_z58_2 := x_z58.c 2 _ rfl; have f_z58_2 := x_z58.f 2 _ rfl
                                  have c_z58_3 := x_z58.c 3 _ rfl; have f_z58_3 := x_z58.f 3 _ rfl
                                  have c_z58_4 := x_z58.c 4 _ rfl; have f_z58_4 := x_z58.f 4 _ rfl
                                  have c_z58_5 := x_z58.c 5 _ rfl; have f_z58_5 := x_z58.f 5 _ rfl
                                  have z_u58 := x_u58.lt
                                  have c_u58_0 := x_u58.c 0 _ rfl; have f_u58_0 := x_u58.f 0 _ rfl
                                  have c_u58_1 := x_u58.c 1 _ rfl; have f_u58_1 := x_u58.f 1 _ rfl
                                  have c_u58_2 := x_u58.c 2 _ rfl; have f_u58_2 := x_u58.f 2 _ rfl
                                  have c_u58_3 := x_u58.c 3 _ rfl; have f_u58_3 := x_u58.f 3 _ rfl
                                  have c_u58_4 := x_u58.c 4 _ rfl; have f_u58_4 := x_u58.f 4 _ rfl
                                  have c_u58_5 := x_u58.c 5 _ rfl; have f_u58_5 := x_u58.f 5 _ rfl
                                  have z_v58 := x_v58.lt
                                  have c_v58_0 := x_v58.c 0 _ rfl; have f_v58_0 := x_v58.f 0 _ rfl
                                  have c_v58_1 := x_v58.c 1 _ rfl; have f_v58_1 := x_v58.f 1 _ rfl
                                  have c_v58_2 := x_v58.c 2 _ rfl; have f_v58_2 := x_v58.f 2 _ rfl
                                  have c_v58_3 := x_v58.c 3 _ rfl; have f_v58_3 := x_v58.f 3 _ rfl
                                  have c_v58_4 := x_v58.c 4 _ rfl; have f_v58_4 := x_v58.f 4 _ rfl
                                  have c_v58_5 := x_v58.c 5 _ rfl; have f_v58_5 := x_v58.f 5 _ rfl
                                  clear x_u58 z_u58 c_u58_0 c_u58_1 c_u58_2 c_u58_3 c_u58_4 c_u58_5 f_u58_0 f_u58_1 f_u58_2 f_u58_3 f_u58_4 f_u58_5
                                  clear x_v58 z_v58 c_v58_0 c_v58_1 c_v58_2 c_v58_3 c_v58_4 c_v58_5 f_v58_0 f_v58_1 f_v58_2 f_v58_3 f_v58_4 f_v58_5
                                  go_upto_region 18 with fail
                                  go_cut [16, 17] (fun q0 q1 wx => q0 = .int .u64 n ∧ q1 = .int .i64 j ∧ Box wx (w.heap.size) [.int .i64 bu, .int .i64 ra, .int .i64 pe, .int .i64 D, .int .i64 Q, .int .u64 T] ∧ Box wx (w.heap.size + 1) [.int .i64 bu, .int .i64 ra, .int .i64 pe, .int .i64 D', .int .i64 Q', .int .u64 T] ∧ Below w.heap.size w wx)
                                  case first =>
                                    as_aux_lemma =>
                                      go_region_held3 (fun w' => w'.cell? ⟨w.heap.size, 0, none⟩ = some (.int .i64 bu) ∧ w'.cell? ⟨w.heap.size, 1, none⟩ = some (.int .i64 ra) ∧ w'.cell? ⟨w.heap.size, 2, none⟩ = some (.int .i64 pe) ∧ w'.cell? ⟨w.heap.size, 3, none⟩ = some (.int .i64 D) ∧ w'.cell? ⟨w.heap.size, 4, none⟩ = some (.int .i64 Q) ∧ w'.cell? ⟨w.heap.size, 5, none⟩ = some (.int .u64 T) ∧ w'.cell? ⟨cb, coff + k, none⟩ = some (.int .i64 co)) (((repeat' apply And.intro) <;> (first | (go_keep; done) | go_cell)))
                                        (first
                                          | (go_at_call 17; refine (W1 _).mono ?_; rintro e v1 ⟨rfl, hv1⟩; have hV1 : Below w.heap.size w v1 := below_thru (by go_grown) hv1; have hs_v1 : w.heap.size ≤ v1.heap.size := hV1.size; have x_x_v1 : Box v1 (w.heap.size) [.int .i64 bu, .int .i64 ra, .int .i64 pe, .int .i64 D, .int .i64 Q, .int .u64 T] := (by refine Box.below ?_ hv1; repeat (first | (with_reducible assumption) | (with_reducible refine Box.drew ?_) | (with_reducible refine Box.drewN ?_ _) | ((with_reducible refine Box.new ?_); simp; done) | (with_reducible apply Box.set2) | ((with_reducible apply Box.put); (with_reducible assumption); rfl) | (with_reducible refine Box.alloc ?_ _) | (with_reducible refine Box.other ?_ (by first | (dsimp only; omega) | omega) _))); have z_x_v1 := x_x_v1.lt; have c_x_v1_0 := x_x_v1.c 0 _ rfl; have f_x_v1_0 := x_x_v1.f 0 _ rfl; have c_x_v1_1 := x_x_v1.c 1 _ rfl; have f_x_v1_1 := x_x_v1.f 1 _ rfl; have c_x_v1_2 := x_x_v1.c 2 _ rfl; have f_x_v1_2 := x_x_v1.f 2 _ rfl; have c_x_v1_3 := x_x_v1.c 3 _ rfl; have f_x_v1_3 := x_x_v1.f 3 _ rfl; have c_x_v1_4 := x_x_v1.c 4 _ rfl; have f_x_v1_4 := x_x_v1.f 4 _ rfl; have c_x_v1_5 := x_x_v1.c 5 _ rfl; have f_x_v1_5 := x_x_v1.f 5 _ rfl; have x_z_v1 : Box v1 (w.heap.size + 1) [.int .i64 bu, .int .i64 ra, .int .i64 pe, .int .i64 D', .int .i64 Q', .int .u64 T] := (by refine Box.below ?_ hv1; repeat (first | (with_reducible assumption) | (with_reducible refine Box.drew ?_) | (with_reducible refine Box.drewN ?_ _) | ((with_reducible refine Box.new ?_); simp; done) | (with_reducible apply Box.set2) | ((with_reducible apply Box.put); (with_reducible assumption); rfl) | (with_reducible refine Box.alloc ?_ _) | (with_reducible refine Box.other ?_ (by first | (dsimp only; omega) | omega) _))); have z_z_v1 := x_z_v1.lt; have c_z_v1_0 := x_z_v1.c 0 _ rfl; have f_z_v1_0 := x_z_v1.f 0 _ rfl; have c_z_v1_1 := x_z_v1.c 1 _ rfl; have f_z_v1_1 := x_z_v1.f 1 _ rfl; have c_z_v1_2 := x_z_v1.c 2 _ rfl; have f_z_v1_2 := x_z_v1.f 2 _ rfl; have c_z_v1_3 := x_z_v1.c 3 _ rfl; have f_z_v1_3 := x_z_v1.f 3 _ rfl; have c_z_v1_4 := x_z_v1.c 4 _ rfl; have f_z_v1_4 := x_z_v1.f 4 _ rfl; have c_z_v1_5 := x_z_v1.c 5 _ rfl; have f_z_v1_5 := x_z_v1.f 5 _ rfl; have c_t_v1 := cell_below hV1 T0; have c_co_v1 := cell_below hV1 C0))
                                      all_goals
                                        go_wp2_with fail
                                        go_meet
                                        refine ⟨rfl, rfl, ?_, ?_, ?_⟩
                                        all_goals first
                                          | ((repeat (first | (with_reducible assumption) | (with_reducible refine Box.drew ?_) | (with_reducible refine Box.drewN ?_ _) | ((with_reducible refine Box.new ?_); simp; done) | (with_reducible apply Box.set2) | (with_reducible refine Box.alloc ?_ _) | (with_reducible refine Box.other ?_ (by first | (dsimp only; omega) | omega) _))); done)
                                          | (go_grown; done)
                                  case rest =>
                                    as_aux_lemma =>
                                      obtain ⟨rfl, rfl, x_x59, x_z59, hB59⟩ := hcut
                                      obtain ⟨w59, rfl⟩ : ∃ u : World, u = wc := ⟨_, rfl⟩
                                      clear hB58 hs58 c_t58 c_co58 x_x58 z_x58 c_x58_0 c_x58_1 c_x58_2 c_x58_3 c_x58_4 c_x58_5 f_x58_0 f_x58_1 f_x58_2 f_x58_3 f_x58_4 f_x58_5 x_z58 z_z58 c_z58_0 c_z58_1 c_z58_2 c_z58_3 c_z58_4 c_z58_5 f_z58_0 f_z58_1 f_z58_2 f_z58_3 f_z58_4 f_z58_5
                                      have c_t59 := cell_below hB59 T0
                                      have c_co59 := cell_below hB59 C0
                                      have hs59 : w.heap.size ≤ w59.heap.size := hB59.size
                                      have z_x59 := x_x59.lt
                                      have c_x59_0 := x_x59.c 0 _ rfl; have f_x59_0 := x_x59.f 0 _ rfl
                                      have c_x59_1 := x_x59.c 1 _ rfl; have f_x59_1 := x_x59.f 1 _ rfl
                                      have c_x59_2 := x_x59.c 2 _ rfl; have f_x59_2 := x_x59.f 2 _ rfl
                                      have c_x59_3 := x_x59.c 3 _ rfl; have f_x59_3 := x_x59.f 3 _ rfl
                                      have c_x59_4 := x_x59.c 4 _ rfl; have f_x59_4 := x_x59.f 4 _ rfl
                                      have c_x59_5 := x_x59.c 5 _ rfl; have f_x59_5 := x_x59.f 5 _ rfl
                                      have z_z59 := x_z59.lt
                                      have c_z59_0 := x_z59.c 0 _ rfl; have f_z59_0 := x_z59.f 0 _ rfl
                                      have c_z59_1 := x_z59.c 1 _ rfl; have f_z59_1 := x_z59.f 1 _ rfl
                                      have c_z59_2 := x_z59.c 2 _ rfl; have f_z59_2 := x_z59.f 2 _ rfl
                                      have c_z59_3 := x_z59.c 3 _ rfl; have f_z59_3 := x_z59.f 3 _ rfl
                                      have c_z59_4 := x_z59.c 4 _ rfl; have f_z59_4 := x_z59.f 4 _ rfl
                                      have c_z59_5 := x_z59.c 5 _ rfl; have f_z59_5 := x_z59.f 5 _ rfl
                                      go_upto_region 19 with fail
                                      go_cut [18, 19] (fun q0 q1 wx => q0 = .int .u64 m ∧ q1 = .int .i64 j ∧ Box wx (w.heap.size) [.int .i64 bu, .int .i64 ra, .int .i64 pe, .int .i64 D, .int .i64 Q, .int .u64 T] ∧ Box wx (w.heap.size + 1) [.int .i64 bu, .int .i64 ra, .int .i64 pe, .int .i64 D', .int .i64 Q', .int .u64 T] ∧ Below w.heap.size w wx)
                                      case first =>
                                        as_aux_lemma =>
                                          go_region_held3 (fun w' => w'.cell? ⟨w.heap.size + 1, 0, none⟩ = some (.int .i64 bu) ∧ w'.cell? ⟨w.heap.size + 1, 1, none⟩ = some (.int .i64 ra) ∧ w'.cell? ⟨w.heap.size + 1, 2, none⟩ = some (.int .i64 pe) ∧ w'.cell? ⟨w.heap.size + 1, 3, none⟩ = some (.int .i64 D') ∧ w'.cell? ⟨w.heap.size + 1, 4, none⟩ = some (.int .i64 Q') ∧ w'.cell? ⟨w.heap.size + 1, 5, none⟩ = some (.int .u64 T) ∧ w'.cell? ⟨cb, coff + k, none⟩ = some (.int .i64 co)) (((repeat' apply And.intro) <;> (first | (go_keep; done) | go_cell)))
                                            (first
                                              | (go_at_call 17; refine (W2 _).mono ?_; rintro e v1 ⟨rfl, hv1⟩; have hV1 : Below w.heap.size w v1 := below_thru (by go_grown) hv1; have hs_v1 : w.heap.size ≤ v1.heap.size := hV1.size; have x_x_v1 : Box v1 (w.heap.size) [.int .i64 bu, .int .i64 ra, .int .i64 pe, .int .i64 D, .int .i64 Q, .int .u64 T] := (by refine Box.below ?_ hv1; repeat (first | (with_reducible assumption) | (with_reducible refine Box.drew ?_) | (with_reducible refine Box.drewN ?_ _) | ((with_reducible refine Box.new ?_); simp; done) | (with_reducible apply Box.set2) | ((with_reducible apply Box.put); (with_reducible assumption); rfl) | (with_reducible refine Box.alloc ?_ _) | (with_reducible refine Box.other ?_ (by first | (dsimp only; omega) | omega) _))); have z_x_v1 := x_x_v1.lt; have c_x_v1_0 := x_x_v1.c 0 _ rfl; have f_x_v1_0 := x_x_v1.f 0 _ rfl; have c_x_v1_1 := x_x_v1.c 1 _ rfl; have f_x_v1_1 := x_x_v1.f 1 _ rfl; have c_x_v1_2 := x_x_v1.c 2 _ rfl; have f_x_v1_2 := x_x_v1.f 2 _ rfl; have c_x_v1_3 := x_x_v1.c 3 _ rfl; have f_x_v1_3 := x_x_v1.f 3 _ rfl; have c_x_v1_4 := x_x_v1.c 4 _ rfl; have f_x_v1_4 := x_x_v1.f 4 _ rfl; have c_x_v1_5 := x_x_v1.c 5 _ rfl; have f_x_v1_5 := x_x_v1.f 5 _ rfl; have x_z_v1 : Box v1 (w.heap.size + 1) [.int .i64 bu, .int .i64 ra, .int .i64 pe, .int .i64 D', .int .i64 Q', .int .u64 T] := (by refine Box.below ?_ hv1; repeat (first | (with_reducible assumption) | (with_reducible refine Box.drew ?_) | (with_reducible refine Box.drewN ?_ _) | ((with_reducible refine Box.new ?_); simp; done) | (with_reducible apply Box.set2) | ((with_reducible apply Box.put); (with_reducible assumption); rfl) | (with_reducible refine Box.alloc ?_ _) | (with_reducible refine Box.other ?_ (by first | (dsimp only; omega) | omega) _))); have z_z_v1 := x_z_v1.lt; have c_z_v1_0 := x_z_v1.c 0 _ rfl; have f_z_v1_0 := x_z_v1.f 0 _ rfl; have c_z_v1_1 := x_z_v1.c 1 _ rfl; have f_z_v1_1 := x_z_v1.f 1 _ rfl; have c_z_v1_2 := x_z_v1.c 2 _ rfl; have f_z_v1_2 := x_z_v1.f 2 _ rfl; have c_z_v1_3 := x_z_v1.c 3 _ rfl; have f_z_v1_3 := x_z_v1.f 3 _ rfl; have c_z_v1_4 := x_z_v1.c 4 _ rfl; have f_z_v1_4 := x_z_v1.f 4 _ rfl; have c_z_v1_5 := x_z_v1.c 5 _ rfl; have f_z_v1_5 := x_z_v1.f 5 _ rfl; have c_t_v1 := cell_below hV1 T0; have c_co_v1 := cell_below hV1 C0))
                                          all_goals
                                            go_wp2_with fail
                                            go_meet
                                            refine ⟨rfl, rfl, ?_, ?_, ?_⟩
                                            all_goals first
                                              | ((repeat (first | (with_reducible assumption) | (with_reducible refine Box.drew ?_) | (with_reducible refine Box.drewN ?_ _) | ((with_reducible refine Box.new ?_); simp; done) | (with_reducible apply Box.set2) | (with_reducible refine Box.alloc ?_ _) | (with_reducible refine Box.other ?_ (by first | (dsimp only; omega) | omega) _))); done)
                                              | (go_grown; done)
                                      case rest =>
                                        as_aux_lemma =>
                                          obtain ⟨rfl, rfl, x_x60, x_z60, hB60⟩ := hcut
                                          obtain ⟨w60, rfl⟩ : ∃ u : World, u = wc := ⟨_, rfl⟩
                                          clear hB59 hs59 c_t59 c_co59 x_x59 z_x59 c_x59_0 c_x59_1 c_x59_2 c_x59_3 c_x59_4 c_x59_5 f_x59_0 f_x59_1 f_x59_2 f_x59_3 f_x59_4 f_x59_5 x_z59 z_z59 c_z59_0 c_z59_1 c_z59_2 c_z59_3 c_z59_4 c_z59_5 f_z59_0 f_z59_1 f_z59_2 f_z59_3 f_z59_4 f_z59_5
                                          have c_t60 := cell_below hB60 T0
                                          have c_co60 := cell_below hB60 C0
                                          have hs60 : w.heap.size ≤ w60.heap.size := hB60.size
                                          have z_x60 := x_x60.lt
                                          have c_x60_0 := x_x60.c 0 _ rfl; have f_x60_0 := x_x60.f 0 _ rfl
                                          have c_x60_1 := x_x60.c 1 _ rfl; have f_x60_1 := x_x60.f 1 _ rfl
                                          have c_x60_2 := x_x60.c 2 _ rfl; have f_x60_2 := x_x60.f 2 _ rfl
                                          have c_x60_3 := x_x60.c 3 _ rfl; have f_x60_3 := x_x60.f 3 _ rfl
                                          have c_x60_4 := x_x60.c 4 _ rfl; have f_x60_4 := x_x60.f 4 _ rfl
                                          have c_x60_5 := x_x60.c 5 _ rfl; have f_x60_5 := x_x60.f 5 _ rfl
                                          have z_z60 := x_z60.lt
                                          have c_z60_0 := x_z60.c 0 _ rfl; have f_z60_0 := x_z60.f 0 _ rfl
                                          have c_z60_1 := x_z60.c 1 _ rfl; have f_z60_1 := x_z60.f 1 _ rfl
                                          have c_z60_2 := x_z60.c 2 _ rfl; have f_z60_2 := x_z60.f 2 _ rfl
                                          have c_z60_3 := x_z60.c 3 _ rfl; have f_z60_3 := x_z60.f 3 _ rfl
                                          have c_z60_4 := x_z60.c 4 _ rfl; have f_z60_4 := x_z60.f 4 _ rfl
                                          have c_z60_5 := x_z60.c 5 _ rfl; have f_z60_5 := x_z60.f 5 _ rfl
                                          go_wp2_with fail
                                          go_roundw
                                          case rel => exact ⟨k + 1, D, Q, D', Q', T, by go_num, by omega, HB2, HC2, HV2, x_x60, x_z60, hB60⟩
                                          case measure => simp [intOf]; omega
        case neg =>
          obtain ⟨x0, x1, x2, x3, x4, x5, n1, hn1, CH1⟩ := charge_gen BF.out co
          have dn : (n1 == 0) = false := beq_eq_false_iff_ne.2 (by rcases hn1 with q | q; exact absurd q hch; exact q)
          obtain ⟨n, m, j, hnm, W1, W2⟩ := wait_gen BF.out CF.out VF.out co
          clear hn1 hn2 hch
          have dw : decide (n < m) = false := decide_eq_false (by omega)
          have z_x50 := x_x50.lt
          have c_x50_0 := x_x50.c 0 _ rfl; have f_x50_0 := x_x50.f 0 _ rfl
          have c_x50_1 := x_x50.c 1 _ rfl; have f_x50_1 := x_x50.f 1 _ rfl
          have c_x50_2 := x_x50.c 2 _ rfl; have f_x50_2 := x_x50.f 2 _ rfl
          have c_x50_3 := x_x50.c 3 _ rfl; have f_x50_3 := x_x50.f 3 _ rfl
          have c_x50_4 := x_x50.c 4 _ rfl; have f_x50_4 := x_x50.f 4 _ rfl
          have c_x50_5 := x_x50.c 5 _ rfl; have f_x50_5 := x_x50.f 5 _ rfl
          have z_z50 := x_z50.lt
          have c_z50_0 := x_z50.c 0 _ rfl; have f_z50_0 := x_z50.f 0 _ rfl
          have c_z50_1 := x_z50.c 1 _ rfl; have f_z50_1 := x_z50.f 1 _ rfl
          have c_z50_2 := x_z50.c 2 _ rfl; have f_z50_2 := x_z50.f 2 _ rfl
          have c_z50_3 := x_z50.c 3 _ rfl; have f_z50_3 := x_z50.f 3 _ rfl
          have c_z50_4 := x_z50.c 4 _ rfl; have f_z50_4 := x_z50.f 4 _ rfl
          have c_z50_5 := x_z50.c 5 _ rfl; have f_z50_5 := x_z50.f 5 _ rfl
          have c_t50 := cell_below hB50 T0
          have c_co50 := cell_below hB50 C0
          go_upto_region 7 with fail
          go_cut [10, 11] (fun p q0 wx => ∃ b : Nat, p = .pointer (some ⟨b, 0, none⟩) ∧ q0 = .int .i64 0 ∧ Box wx b [.int .i64 bu, .int .i64 ra, .int .i64 pe, .int .i64 L, .int .i64 Q, .int .u64 T] ∧ wr.heap.size ≤ b ∧ Box wx (w.heap.size) [.int .i64 bu, .int .i64 ra, .int .i64 pe, .int .i64 lv, .int .i64 pv, .int .u64 t] ∧ Box wx (w.heap.size + 1) [.int .i64 bu, .int .i64 ra, .int .i64 pe, .int .i64 lv', .int .i64 pv', .int .u64 t] ∧ Below w.heap.size w wx)
          case first =>
            as_aux_lemma =>
              go_region_held3 (fun w' => w'.cell? ⟨w.heap.size, 0, none⟩ = some (.int .i64 bu) ∧ w'.cell? ⟨w.heap.size, 1, none⟩ = some (.int .i64 ra) ∧ w'.cell? ⟨w.heap.size, 2, none⟩ = some (.int .i64 pe) ∧ w'.cell? ⟨w.heap.size, 3, none⟩ = some (.int .i64 lv) ∧ w'.cell? ⟨w.heap.size, 4, none⟩ = some (.int .i64 pv) ∧ w'.cell? ⟨w.heap.size, 5, none⟩ = some (.int .u64 t) ∧ w'.cell? ⟨tb, toff + k, none⟩ = some (.int .u64 tk)) (((repeat' apply And.intro) <;> (first | (go_keep; done) | go_cell)))
                (first
                  | (go_at_call 15; refine (refill_ok HB1.out htk E1 E2 E3 _).mono ?_; rintro e v1 ⟨rfl, hv1⟩; have hV1 : Below w.heap.size w v1 := below_thru (by go_grown) hv1; have hs_v1 : w.heap.size ≤ v1.heap.size := hV1.size; have x_x_v1 : Box v1 (w.heap.size) [.int .i64 bu, .int .i64 ra, .int .i64 pe, .int .i64 lv, .int .i64 pv, .int .u64 t] := (by refine Box.below ?_ hv1; repeat (first | (with_reducible assumption) | (with_reducible refine Box.drew ?_) | (with_reducible refine Box.drewN ?_ _) | ((with_reducible refine Box.new ?_); simp; done) | (with_reducible apply Box.set2) | ((with_reducible apply Box.put); (with_reducible assumption); rfl) | (with_reducible refine Box.alloc ?_ _) | (with_reducible refine Box.other ?_ (by first | (dsimp only; omega) | omega) _))); have z_x_v1 := x_x_v1.lt; have c_x_v1_0 := x_x_v1.c 0 _ rfl; have f_x_v1_0 := x_x_v1.f 0 _ rfl; have c_x_v1_1 := x_x_v1.c 1 _ rfl; have f_x_v1_1 := x_x_v1.f 1 _ rfl; have c_x_v1_2 := x_x_v1.c 2 _ rfl; have f_x_v1_2 := x_x_v1.f 2 _ rfl; have c_x_v1_3 := x_x_v1.c 3 _ rfl; have f_x_v1_3 := x_x_v1.f 3 _ rfl; have c_x_v1_4 := x_x_v1.c 4 _ rfl; have f_x_v1_4 := x_x_v1.f 4 _ rfl; have c_x_v1_5 := x_x_v1.c 5 _ rfl; have f_x_v1_5 := x_x_v1.f 5 _ rfl; have x_z_v1 : Box v1 (w.heap.size + 1) [.int .i64 bu, .int .i64 ra, .int .i64 pe, .int .i64 lv', .int .i64 pv', .int .u64 t] := (by refine Box.below ?_ hv1; repeat (first | (with_reducible assumption) | (with_reducible refine Box.drew ?_) | (with_reducible refine Box.drewN ?_ _) | ((with_reducible refine Box.new ?_); simp; done) | (with_reducible apply Box.set2) | ((with_reducible apply Box.put); (with_reducible assumption); rfl) | (with_reducible refine Box.alloc ?_ _) | (with_reducible refine Box.other ?_ (by first | (dsimp only; omega) | omega) _))); have z_z_v1 := x_z_v1.lt; have c_z_v1_0 := x_z_v1.c 0 _ rfl; have f_z_v1_0 := x_z_v1.f 0 _ rfl; have c_z_v1_1 := x_z_v1.c 1 _ rfl; have f_z_v1_1 := x_z_v1.f 1 _ rfl; have c_z_v1_2 := x_z_v1.c 2 _ rfl; have f_z_v1_2 := x_z_v1.f 2 _ rfl; have c_z_v1_3 := x_z_v1.c 3 _ rfl; have f_z_v1_3 := x_z_v1.f 3 _ rfl; have c_z_v1_4 := x_z_v1.c 4 _ rfl; have f_z_v1_4 := x_z_v1.f 4 _ rfl; have c_z_v1_5 := x_z_v1.c 5 _ rfl; have f_z_v1_5 := x_z_v1.f 5 _ rfl; have c_t_v1 := cell_below hV1 T0; have c_co_v1 := cell_below hV1 C0; have t_v1 := hv1.size; (try simp at t_v1); (first | (with_reducible have y := Box.below (Box.drew (Box.new rfl)) hv1) | (with_reducible have y := Box.below (Box.new rfl) hv1) | (with_reducible have y := Box.below y hv1) | (have y := trivial)); (try simp only [World.size_alloc] at y); try (have yz := Box.lt y; have y0 := Box.c y 0 _ rfl; have yf0 := Box.f y 0 _ rfl; have y1 := Box.c y 1 _ rfl; have yf1 := Box.f y 1 _ rfl; have y2 := Box.c y 2 _ rfl; have yf2 := Box.f y 2 _ rfl; have y3 := Box.c y 3 _ rfl; have yf3 := Box.f y 3 _ rfl; have y4 := Box.c y 4 _ rfl; have yf4 := Box.f y 4 _ rfl; have y5 := Box.c y 5 _ rfl; have yf5 := Box.f y 5 _ rfl)))
              all_goals
                go_wp2_with fail
                go_meet
                refine ⟨_, rfl, rfl, ?_, ?_, ?_, ?_, ?_⟩
                all_goals first
                  | (first | (dsimp only; omega) | omega | (simp; omega))
                  | ((repeat (first | (with_reducible apply put6) | (with_reducible refine other6 ?_ (by first | (dsimp only; omega) | omega) _ _ _ _ _ _) | (with_reducible assumption) | (with_reducible refine Box.drew ?_) | (with_reducible refine Box.drewN ?_ _) | ((with_reducible refine Box.new ?_); simp; done) | (with_reducible apply Box.set2) | (with_reducible refine Box.alloc ?_ _) | (with_reducible refine Box.other ?_ (by first | (dsimp only; omega) | omega) _))); done)
                  | (go_grown; done)
          case rest =>
            as_aux_lemma =>
              obtain ⟨b51, rfl, rfl, x_u51, lo_u51, x_x51, x_z51, hB51⟩ := hcut
              obtain ⟨w51, rfl⟩ : ∃ u : World, u = wc := ⟨_, rfl⟩
              have o_u_x := Nat.lt_of_lt_of_le z_x50 lo_u51
              have o_u_z := Nat.lt_of_lt_of_le z_z50 lo_u51
              clear hB50 hs50 c_t50 c_co50 x_x50 z_x50 c_x50_0 c_x50_1 c_x50_2 c_x50_3 c_x50_4 c_x50_5 f_x50_0 f_x50_1 f_x50_2 f_x50_3 f_x50_4 f_x50_5 x_z50 z_z50 c_z50_0 c_z50_1 c_z50_2 c_z50_3 c_z50_4 c_z50_5 f_z50_0 f_z50_1 f_z50_2 f_z50_3 f_z50_4 f_z50_5
              have c_t51 := cell_below hB51 T0
              have c_co51 := cell_below hB51 C0
              have hs51 : w.heap.size ≤ w51.heap.size := hB51.size
              have z_x51 := x_x51.lt
              have c_x51_0 := x_x51.c 0 _ rfl; have f_x51_0 := x_x51.f 0 _ rfl
              have c_x51_1 := x_x51.c 1 _ rfl; have f_x51_1 := x_x51.f 1 _ rfl
              have c_x51_2 := x_x51.c 2 _ rfl; have f_x51_2 := x_x51.f 2 _ rfl
              have c_x51_3 := x_x51.c 3 _ rfl; have f_x51_3 := x_x51.f 3 _ rfl
              have c_x51_4 := x_x51.c 4 _ rfl; have f_x51_4 := x_x51.f 4 _ rfl
              have c_x51_5 := x_x51.c 5 _ rfl; have f_x51_5 := x_x51.f 5 _ rfl
              have z_z51 := x_z51.lt
              have c_z51_0 := x_z51.c 0 _ rfl; have f_z51_0 := x_z51.f 0 _ rfl
              have c_z51_1 := x_z51.c 1 _ rfl; have f_z51_1 := x_z51.f 1 _ rfl
              have c_z51_2 := x_z51.c 2 _ rfl; have f_z51_2 := x_z51.f 2 _ rfl
              have c_z51_3 := x_z51.c 3 _ rfl; have f_z51_3 := x_z51.f 3 _ rfl
              have c_z51_4 := x_z51.c 4 _ rfl; have f_z51_4 := x_z51.f 4 _ rfl
              have c_z51_5 := x_z51.c 5 _ rfl; have f_z51_5 := x_z51.f 5 _ rfl
              have z_u51 := x_u51.lt
              have c_u51_0 := x_u51.c 0 _ rfl; have f_u51_0 := x_u51.f 0 _ rfl
              have c_u51_1 := x_u51.c 1 _ rfl; have f_u51_1 := x_u51.f 1 _ rfl
              have c_u51_2 := x_u51.c 2 _ rfl; have f_u51_2 := x_u51.f 2 _ rfl
              have c_u51_3 := x_u51.c 3 _ rfl; have f_u51_3 := x_u51.f 3 _ rfl
              have c_u51_4 := x_u51.c 4 _ rfl; have f_u51_4 := x_u51.f 4 _ rfl
              have c_u51_5 := x_u51.c 5 _ rfl; have f_u51_5 := x_u51.f 5 _ rfl
              go_upto_region 8 with fail
              go_cut [12, 13] (fun p q0 wx => ∃ b : Nat, p = .pointer (some ⟨b, 0, none⟩) ∧ q0 = .int .i64 0 ∧ Box wx b [.int .i64 bu, .int .i64 ra, .int .i64 pe, .int .i64 L', .int .i64 Q', .int .u64 T] ∧ w51.heap.size ≤ b ∧ Box wx (w.heap.size) [.int .i64 bu, .int .i64 ra, .int .i64 pe, .int .i64 lv, .int .i64 pv, .int .u64 t] ∧ Box wx (w.heap.size + 1) [.int .i64 bu, .int .i64 ra, .int .i64 pe, .int .i64 lv', .int .i64 pv', .int .u64 t] ∧ Box wx (b51) [.int .i64 bu, .int .i64 ra, .int .i64 pe, .int .i64 L, .int .i64 Q, .int .u64 T] ∧ Below w.heap.size w wx)
              case first =>
                as_aux_lemma =>
                  go_region_held3 (fun w' => w'.cell? ⟨w.heap.size + 1, 0, none⟩ = some (.int .i64 bu) ∧ w'.cell? ⟨w.heap.size + 1, 1, none⟩ = some (.int .i64 ra) ∧ w'.cell? ⟨w.heap.size + 1, 2, none⟩ = some (.int .i64 pe) ∧ w'.cell? ⟨w.heap.size + 1, 3, none⟩ = some (.int .i64 lv') ∧ w'.cell? ⟨w.heap.size + 1, 4, none⟩ = some (.int .i64 pv') ∧ w'.cell? ⟨w.heap.size + 1, 5, none⟩ = some (.int .u64 t) ∧ w'.cell? ⟨tb, toff + k, none⟩ = some (.int .u64 tk)) (((repeat' apply And.intro) <;> (first | (go_keep; done) | go_cell)))
                    (first
                      | (go_at_call 15; refine (refill_ok HC1.out htk E4 E5 E3 _).mono ?_; rintro e v1 ⟨rfl, hv1⟩; have hV1 : Below w.heap.size w v1 := below_thru (by go_grown) hv1; have hs_v1 : w.heap.size ≤ v1.heap.size := hV1.size; have x_x_v1 : Box v1 (w.heap.size) [.int .i64 bu, .int .i64 ra, .int .i64 pe, .int .i64 lv, .int .i64 pv, .int .u64 t] := (by refine Box.below ?_ hv1; repeat (first | (with_reducible assumption) | (with_reducible refine Box.drew ?_) | (with_reducible refine Box.drewN ?_ _) | ((with_reducible refine Box.new ?_); simp; done) | (with_reducible apply Box.set2) | ((with_reducible apply Box.put); (with_reducible assumption); rfl) | (with_reducible refine Box.alloc ?_ _) | (with_reducible refine Box.other ?_ (by first | (dsimp only; omega) | omega) _))); have z_x_v1 := x_x_v1.lt; have c_x_v1_0 := x_x_v1.c 0 _ rfl; have f_x_v1_0 := x_x_v1.f 0 _ rfl; have c_x_v1_1 := x_x_v1.c 1 _ rfl; have f_x_v1_1 := x_x_v1.f 1 _ rfl; have c_x_v1_2 := x_x_v1.c 2 _ rfl; have f_x_v1_2 := x_x_v1.f 2 _ rfl; have c_x_v1_3 := x_x_v1.c 3 _ rfl; have f_x_v1_3 := x_x_v1.f 3 _ rfl; have c_x_v1_4 := x_x_v1.c 4 _ rfl; have f_x_v1_4 := x_x_v1.f 4 _ rfl; have c_x_v1_5 := x_x_v1.c 5 _ rfl; have f_x_v1_5 := x_x_v1.f 5 _ rfl; have x_z_v1 : Box v1 (w.heap.size + 1) [.int .i64 bu, .int .i64 ra, .int .i64 pe, .int .i64 lv', .int .i64 pv', .int .u64 t] := (by refine Box.below ?_ hv1; repeat (first | (with_reducible assumption) | (with_reducible refine Box.drew ?_) | (with_reducible refine Box.drewN ?_ _) | ((with_reducible refine Box.new ?_); simp; done) | (with_reducible apply Box.set2) | ((with_reducible apply Box.put); (with_reducible assumption); rfl) | (with_reducible refine Box.alloc ?_ _) | (with_reducible refine Box.other ?_ (by first | (dsimp only; omega) | omega) _))); have z_z_v1 := x_z_v1.lt; have c_z_v1_0 := x_z_v1.c 0 _ rfl; have f_z_v1_0 := x_z_v1.f 0 _ rfl; have c_z_v1_1 := x_z_v1.c 1 _ rfl; have f_z_v1_1 := x_z_v1.f 1 _ rfl; have c_z_v1_2 := x_z_v1.c 2 _ rfl; have f_z_v1_2 := x_z_v1.f 2 _ rfl; have c_z_v1_3 := x_z_v1.c 3 _ rfl; have f_z_v1_3 := x_z_v1.f 3 _ rfl; have c_z_v1_4 := x_z_v1.c 4 _ rfl; have f_z_v1_4 := x_z_v1.f 4 _ rfl; have c_z_v1_5 := x_z_v1.c 5 _ rfl; have f_z_v1_5 := x_z_v1.f 5 _ rfl; have x_u_v1 : Box v1 (b51) [.int .i64 bu, .int .i64 ra, .int .i64 pe, .int .i64 L, .int .i64 Q, .int .u64 T] := (by refine Box.below ?_ hv1; repeat (first | (with_reducible assumption) | (with_reducible refine Box.drew ?_) | (with_reducible refine Box.drewN ?_ _) | ((with_reducible refine Box.new ?_); simp; done) | (with_reducible apply Box.set2) | ((with_reducible apply Box.put); (with_reducible assumption); rfl) | (with_reducible refine Box.alloc ?_ _) | (with_reducible refine Box.other ?_ (by first | (dsimp only; omega) | omega) _))); have z_u_v1 := x_u_v1.lt; have c_u_v1_0 := x_u_v1.c 0 _ rfl; have f_u_v1_0 := x_u_v1.f 0 _ rfl; have c_u_v1_1 := x_u_v1.c 1 _ rfl; have f_u_v1_1 := x_u_v1.f 1 _ rfl; have c_u_v1_2 := x_u_v1.c 2 _ rfl; have f_u_v1_2 := x_u_v1.f 2 _ rfl; have c_u_v1_3 := x_u_v1.c 3 _ rfl; have f_u_v1_3 := x_u_v1.f 3 _ rfl; have c_u_v1_4 := x_u_v1.c 4 _ rfl; have f_u_v1_4 := x_u_v1.f 4 _ rfl; have c_u_v1_5 := x_u_v1.c 5 _ rfl; have f_u_v1_5 := x_u_v1.f 5 _ rfl; have c_t_v1 := cell_below hV1 T0; have c_co_v1 := cell_below hV1 C0; have t_v1 := hv1.size; (try simp at t_v1); (first | (with_reducible have y := Box.below (Box.drew (Box.new rfl)) hv1) | (with_reducible have y := Box.below (Box.new rfl) hv1) | (with_reducible have y := Box.below y hv1) | (have y := trivial)); (try simp only [World.size_alloc] at y); try (have yz := Box.lt y; have y0 := Box.c y 0 _ rfl; have yf0 := Box.f y 0 _ rfl; have y1 := Box.c y 1 _ rfl; have yf1 := Box.f y 1 _ rfl; have y2 := Box.c y 2 _ rfl; have yf2 := Box.f y 2 _ rfl; have y3 := Box.c y 3 _ rfl; have yf3 := Box.f y 3 _ rfl; have y4 := Box.c y 4 _ rfl; have yf4 := Box.f y 4 _ rfl; have y5 := Box.c y 5 _ rfl; have yf5 := Box.f y 5 _ rfl)))
                  all_goals
                    go_wp2_with fail
                    go_meet
                    refine ⟨_, rfl, rfl, ?_, ?_, ?_, ?_, ?_, ?_⟩
                    all_goals first
                      | (first | (dsimp only; omega) | omega | (simp; omega))
                      | ((repeat (first | (with_reducible apply put6) | (with_reducible refine other6 ?_ (by first | (dsimp only; omega) | omega) _ _ _ _ _ _) | (with_reducible assumption) | (with_reducible refine Box.drew ?_) | (with_reducible refine Box.drewN ?_ _) | ((with_reducible refine Box.new ?_); simp; done) | (with_reducible apply Box.set2) | (with_reducible refine Box.alloc ?_ _) | (with_reducible refine Box.other ?_ (by first | (dsimp only; omega) | omega) _))); done)
                      | (go_grown; done)
              case rest =>
                as_aux_lemma =>
                  obtain ⟨b52, rfl, rfl, x_v52, lo_v52, x_x52, x_z52, x_u52, hB52⟩ := hcut
                  obtain ⟨w52, rfl⟩ : ∃ u : World, u = wc := ⟨_, rfl⟩
                  have o_v_x := Nat.lt_of_lt_of_le z_x51 lo_v52
                  have o_v_z := Nat.lt_of_lt_of_le z_z51 lo_v52
                  have o_v_u := Nat.lt_of_lt_of_le z_u51 lo_v52
                  clear hB51 hs51 c_t51 c_co51 x_x51 z_x51 c_x51_0 c_x51_1 c_x51_2 c_x51_3 c_x51_4 c_x51_5 f_x51_0 f_x51_1 f_x51_2 f_x51_3 f_x51_4 f_x51_5 x_z51 z_z51 c_z51_0 c_z51_1 c_z51_2 c_z51_3 c_z51_4 c_z51_5 f_z51_0 f_z51_1 f_z51_2 f_z51_3 f_z51_4 f_z51_5 x_u51 z_u51 c_u51_0 c_u51_1 c_u51_2 c_u51_3 c_u51_4 c_u51_5 f_u51_0 f_u51_1 f_u51_2 f_u51_3 f_u51_4 f_u51_5
                  have c_t52 := cell_below hB52 T0
                  have c_co52 := cell_below hB52 C0
                  have hs52 : w.heap.size ≤ w52.heap.size := hB52.size
                  have z_x52 := x_x52.lt
                  have c_x52_0 := x_x52.c 0 _ rfl; have f_x52_0 := x_x52.f 0 _ rfl
                  have c_x52_1 := x_x52.c 1 _ rfl; have f_x52_1 := x_x52.f 1 _ rfl
                  have c_x52_2 := x_x52.c 2 _ rfl; have f_x52_2 := x_x52.f 2 _ rfl
                  have c_x52_3 := x_x52.c 3 _ rfl; have f_x52_3 := x_x52.f 3 _ rfl
                  have c_x52_4 := x_x52.c 4 _ rfl; have f_x52_4 := x_x52.f 4 _ rfl
                  have c_x52_5 := x_x52.c 5 _ rfl; have f_x52_5 := x_x52.f 5 _ rfl
                  have z_z52 := x_z52.lt
                  have c_z52_0 := x_z52.c 0 _ rfl; have f_z52_0 := x_z52.f 0 _ rfl
                  have c_z52_1 := x_z52.c 1 _ rfl; have f_z52_1 := x_z52.f 1 _ rfl
                  have c_z52_2 := x_z52.c 2 _ rfl; have f_z52_2 := x_z52.f 2 _ rfl
                  have c_z52_3 := x_z52.c 3 _ rfl; have f_z52_3 := x_z52.f 3 _ rfl
                  have c_z52_4 := x_z52.c 4 _ rfl; have f_z52_4 := x_z52.f 4 _ rfl
                  have c_z52_5 := x_z52.c 5 _ rfl; have f_z52_5 := x_z52.f 5 _ rfl
                  have z_u52 := x_u52.lt
                  have c_u52_0 := x_u52.c 0 _ rfl; have f_u52_0 := x_u52.f 0 _ rfl
                  have c_u52_1 := x_u52.c 1 _ rfl; have f_u52_1 := x_u52.f 1 _ rfl
                  have c_u52_2 := x_u52.c 2 _ rfl; have f_u52_2 := x_u52.f 2 _ rfl
                  have c_u52_3 := x_u52.c 3 _ rfl; have f_u52_3 := x_u52.f 3 _ rfl
                  have c_u52_4 := x_u52.c 4 _ rfl; have f_u52_4 := x_u52.f 4 _ rfl
                  have c_u52_5 := x_u52.c 5 _ rfl; have f_u52_5 := x_u52.f 5 _ rfl
                  have z_v52 := x_v52.lt
                  have c_v52_0 := x_v52.c 0 _ rfl; have f_v52_0 := x_v52.f 0 _ rfl
                  have c_v52_1 := x_v52.c 1 _ rfl; have f_v52_1 := x_v52.f 1 _ rfl
                  have c_v52_2 := x_v52.c 2 _ rfl; have f_v52_2 := x_v52.f 2 _ rfl
                  have c_v52_3 := x_v52.c 3 _ rfl; have f_v52_3 := x_v52.f 3 _ rfl
                  have c_v52_4 := x_v52.c 4 _ rfl; have f_v52_4 := x_v52.f 4 _ rfl
                  have c_v52_5 := x_v52.c 5 _ rfl; have f_v52_5 := x_v52.f 5 _ rfl
                  go_wp2_with fail
                  refine (more_is M1 _).mono ?_
                  rintro e w53 ⟨rfl, hb⟩
                  have hB53 : Below w.heap.size w w53 := below_thru (by go_grown) hb
                  have hs53 : w.heap.size ≤ w53.heap.size := hB53.size
                  have x_x53 : Box w53 (w.heap.size) [.int .i64 bu, .int .i64 ra, .int .i64 pe, .int .i64 lv, .int .i64 pv, .int .u64 t] := (by refine Box.below ?_ hb; repeat (first | (with_reducible assumption) | (with_reducible refine Box.drew ?_) | (with_reducible refine Box.drewN ?_ _) | ((with_reducible refine Box.new ?_); simp; done) | (with_reducible apply Box.set2) | ((with_reducible apply Box.put); (with_reducible assumption); rfl) | (with_reducible refine Box.alloc ?_ _) | (with_reducible refine Box.other ?_ (by first | (dsimp only; omega) | omega) _)))
                  have z_x53 := x_x53.lt
                  have c_x53_0 := x_x53.c 0 _ rfl
                  have f_x53_0 := x_x53.f 0 _ rfl
                  have c_x53_1 := x_x53.c 1 _ rfl
                  have f_x53_1 := x_x53.f 1 _ rfl
                  have c_x53_2 := x_x53.c 2 _ rfl
                  have f_x53_2 := x_x53.f 2 _ rfl
                  have c_x53_3 := x_x53.c 3 _ rfl
                  have f_x53_3 := x_x53.f 3 _ rfl
                  have c_x53_4 := x_x53.c 4 _ rfl
                  have f_x53_4 := x_x53.f 4 _ rfl
                  have c_x53_5 := x_x53.c 5 _ rfl
                  have f_x53_5 := x_x53.f 5 _ rfl
                  have x_z53 : Box w53 (w.heap.size + 1) [.int .i64 bu, .int .i64 ra, .int .i64 pe, .int .i64 lv', .int .i64 pv', .int .u64 t] := (by refine Box.below ?_ hb; repeat (first | (with_reducible assumption) | (with_reducible refine Box.drew ?_) | (with_reducible refine Box.drewN ?_ _) | ((with_reducible refine Box.new ?_); simp; done) | (with_reducible apply Box.set2) | ((with_reducible apply Box.put); (with_reducible assumption); rfl) | (with_reducible refine Box.alloc ?_ _) | (with_reducible refine Box.other ?_ (by first | (dsimp only; omega) | omega) _)))
                  have z_z53 := x_z53.lt
                  have c_z53_0 := x_z53.c 0 _ rfl
                  have f_z53_0 := x_z53.f 0 _ rfl
                  have c_z53_1 := x_z53.c 1 _ rfl
                  have f_z53_1 := x_z53.f 1 _ rfl
                  have c_z53_2 := x_z53.c 2 _ rfl
                  have f_z53_2 := x_z53.f 2 _ rfl
                  have c_z53_3 := x_z53.c 3 _ rfl
                  have f_z53_3 := x_z53.f 3 _ rfl
                  have c_z53_4 := x_z53.c 4 _ rfl
                  have f_z53_4 := x_z53.f 4 _ rfl
                  have c_z53_5 := x_z53.c 5 _ rfl
                  have f_z53_5 := x_z53.f 5 _ rfl
                  have x_u53 : Box w53 (b51) [.int .i64 bu, .int .i64 ra, .int .i64 pe, .int .i64 L, .int .i64 Q, .int .u64 T] := (by refine Box.below ?_ hb; repeat (first | (with_reducible assumption) | (with_reducible refine Box.drew ?_) | (with_reducible refine Box.drewN ?_ _) | ((with_reducible refine Box.new ?_); simp; done) | (with_reducible apply Box.set2) | ((with_reducible apply Box.put); (with_reducible assumption); rfl) | (with_reducible refine Box.alloc ?_ _) | (with_reducible refine Box.other ?_ (by first | (dsimp only; omega) | omega) _)))
                  have z_u53 := x_u53.lt
                  have c_u53_0 := x_u53.c 0 _ rfl
                  have f_u53_0 := x_u53.f 0 _ rfl
                  have c_u53_1 := x_u53.c 1 _ rfl
                  have f_u53_1 := x_u53.f 1 _ rfl
                  have c_u53_2 := x_u53.c 2 _ rfl
                  have f_u53_2 := x_u53.f 2 _ rfl
                  have c_u53_3 := x_u53.c 3 _ rfl
                  have f_u53_3 := x_u53.f 3 _ rfl
                  have c_u53_4 := x_u53.c 4 _ rfl
                  have f_u53_4 := x_u53.f 4 _ rfl
                  have c_u53_5 := x_u53.c 5 _ rfl
                  have f_u53_5 := x_u53.f 5 _ rfl
                  have x_v53 : Box w53 (b52) [.int .i64 bu, .int .i64 ra, .int .i64 pe, .int .i64 L', .int .i64 Q', .int .u64 T] := (by refine Box.below ?_ hb; repeat (first | (with_reducible assumption) | (with_reducible refine Box.drew ?_) | (with_reducible refine Box.drewN ?_ _) | ((with_reducible refine Box.new ?_); simp; done) | (with_reducible apply Box.set2) | ((with_reducible apply Box.put); (with_reducible assumption); rfl) | (with_reducible refine Box.alloc ?_ _) | (with_reducible refine Box.other ?_ (by first | (dsimp only; omega) | omega) _)))
                  have z_v53 := x_v53.lt
                  have c_v53_0 := x_v53.c 0 _ rfl
                  have f_v53_0 := x_v53.f 0 _ rfl
                  have c_v53_1 := x_v53.c 1 _ rfl
                  have f_v53_1 := x_v53.f 1 _ rfl
                  have c_v53_2 := x_v53.c 2 _ rfl
                  have f_v53_2 := x_v53.f 2 _ rfl
                  have c_v53_3 := x_v53.c 3 _ rfl
                  have f_v53_3 := x_v53.f 3 _ rfl
                  have c_v53_4 := x_v53.c 4 _ rfl
                  have f_v53_4 := x_v53.f 4 _ rfl
                  have c_v53_5 := x_v53.c 5 _ rfl
                  have f_v53_5 := x_v53.f 5 _ rfl
                  have c_t53 := cell_below hB53 T0
                  have c_co53 := cell_below hB53 C0
                  have t53 := hb.size
                  try simp at t53
                  clear hb hB52 hs52 c_t52 c_co52 x_x52 z_x52 c_x52_0 c_x52_1 c_x52_2 c_x52_3 c_x52_4 c_x52_5 f_x52_0 f_x52_1 f_x52_2 f_x52_3 f_x52_4 f_x52_5 x_z52 z_z52 c_z52_0 c_z52_1 c_z52_2 c_z52_3 c_z52_4 c_z52_5 f_z52_0 f_z52_1 f_z52_2 f_z52_3 f_z52_4 f_z52_5 x_u52 z_u52 c_u52_0 c_u52_1 c_u52_2 c_u52_3 c_u52_4 c_u52_5 f_u52_0 f_u52_1 f_u52_2 f_u52_3 f_u52_4 f_u52_5 x_v52 z_v52 c_v52_0 c_v52_1 c_v52_2 c_v52_3 c_v52_4 c_v52_5 f_v52_0 f_v52_1 f_v52_2 f_v52_3 f_v52_4 f_v52_5
                  go_upto_region 11 with fail
                  go_cut [] (fun wx => Box wx (w.heap.size) [.int .i64 bu, .int .i64 ra, .int .i64 pe, .int .i64 L, .int .i64 Q, .int .u64 T] ∧ Box wx (w.heap.size + 1) [.int .i64 bu, .int .i64 ra, .int .i64 pe, .int .i64 L', .int .i64 Q', .int .u64 T] ∧ Box wx (b51) [.int .i64 bu, .int .i64 ra, .int .i64 pe, .int .i64 L, .int .i64 Q, .int .u64 T] ∧ Box wx (b52) [.int .i64 bu, .int .i64 ra, .int .i64 pe, .int .i64 L', .int .i64 Q', .int .u64 T] ∧ Below w.heap.size w wx)
                  case first =>
                    have dr_x := Box.drew x_x53
                    have dr_z := Box.drew x_z53
                    have dr_u := Box.drew x_u53
                    have dr_v := Box.drew x_v53
                    have dr_B := below_drew1 hB53
                    refine wp_region_any (by kernel_rfl) ?_
                    try (change wpAny _ _ _ _ _ _ _ (World.drew _))
                    refine wpAny_ready (rs := [0, 1]) (by kernel_rfl) (by simp) (AllReady.cons rfl (fun K hK => ?_) (AllReady.cons rfl (fun K hK => ?_) AllReady.nil))
                    · skip
                      refine step_load6 rfl _ rfl (by rfl) dr_u ?_
                      refine hK _ _ ?_; clear hK K
                      refine wpAny_ready (rs := [1, 2]) (by kernel_rfl) (by simp) (AllReady.cons rfl (fun K hK => ?_) (AllReady.cons rfl (fun K hK => ?_) AllReady.nil))
                      · skip
                        refine step_load6 rfl _ rfl (by rfl) dr_v ?_
                        refine hK _ _ ?_; clear hK K
                        refine wpAny_ready (rs := [2]) (by kernel_rfl) (by simp) (AllReady.cons rfl (fun K hK => ?_) AllReady.nil)
                        refine step_store6 rfl _ _ rfl rfl (by rfl) (by rfl) rfl dr_x ?_
                        intro Wpa hw_pa ho_pa hb_pa
                        have pa_x := hw_pa
                        have pa_z := ho_pa _ _ (by first | omega | (simp; omega)) dr_z
                        have pa_u := ho_pa _ _ (by first | omega | (simp; omega)) dr_u
                        have pa_v := ho_pa _ _ (by first | omega | (simp; omega)) dr_v
                        have pa_B := hb_pa w (by first | omega | (simp; omega)) dr_B
                        refine hK _ _ ?_; clear hK K
                        refine wpAny_ready (rs := [3]) (by kernel_rfl) (by simp) (AllReady.cons rfl (fun K hK => ?_) AllReady.nil)
                        refine step_store6 rfl _ _ rfl rfl (by rfl) (by rfl) rfl pa_z ?_
                        intro Wpb hw_pb ho_pb hb_pb
                        have pb_x := ho_pb _ _ (by first | omega | (simp; omega)) pa_x
                        have pb_z := hw_pb
                        have pb_u := ho_pb _ _ (by first | omega | (simp; omega)) pa_u
                        have pb_v := ho_pb _ _ (by first | omega | (simp; omega)) pa_v
                        have pb_B := hb_pb w (by first | omega | (simp; omega)) pa_B
                        refine hK _ _ ?_; clear hK K
                        refine wpAny_done (by kernel_rfl) ?_ _
                        go_wp2_with fail
                        go_meet
                        exact ⟨pb_x, pb_z, pb_u, pb_v, pb_B⟩
                      · skip
                        refine step_store6 rfl _ _ rfl rfl (by rfl) (by rfl) rfl dr_x ?_
                        intro Wpa hw_pa ho_pa hb_pa
                        have pa_x := hw_pa
                        have pa_z := ho_pa _ _ (by first | omega | (simp; omega)) dr_z
                        have pa_u := ho_pa _ _ (by first | omega | (simp; omega)) dr_u
                        have pa_v := ho_pa _ _ (by first | omega | (simp; omega)) dr_v
                        have pa_B := hb_pa w (by first | omega | (simp; omega)) dr_B
                        refine hK _ _ ?_; clear hK K
                        refine wpAny_ready (rs := [1]) (by kernel_rfl) (by simp) (AllReady.cons rfl (fun K hK => ?_) AllReady.nil)
                        refine step_load6 rfl _ rfl (by rfl) pa_v ?_
                        refine hK _ _ ?_; clear hK K
                        refine wpAny_ready (rs := [3]) (by kernel_rfl) (by simp) (AllReady.cons rfl (fun K hK => ?_) AllReady.nil)
                        refine step_store6 rfl _ _ rfl rfl (by rfl) (by rfl) rfl pa_z ?_
                        intro Wpb hw_pb ho_pb hb_pb
                        have pb_x := ho_pb _ _ (by first | omega | (simp; omega)) pa_x
                        have pb_z := hw_pb
                        have pb_u := ho_pb _ _ (by first | omega | (simp; omega)) pa_u
                        have pb_v := ho_pb _ _ (by first | omega | (simp; omega)) pa_v
                        have pb_B := hb_pb w (by first | omega | (simp; omega)) pa_B
                        refine hK _ _ ?_; clear hK K
                        refine wpAny_done (by kernel_rfl) ?_ _
                        go_wp2_with fail
                        go_meet
                        exact ⟨pb_x, pb_z, pb_u, pb_v, pb_B⟩
                    · skip
                      refine step_load6 rfl _ rfl (by rfl) dr_v ?_
                      refine hK _ _ ?_; clear hK K
                      refine wpAny_ready (rs := [0]) (by kernel_rfl) (by simp) (AllReady.cons rfl (fun K hK => ?_) AllReady.nil)
                      refine step_load6 rfl _ rfl (by rfl) dr_u ?_
                      refine hK _ _ ?_; clear hK K
                      refine wpAny_ready (rs := [2]) (by kernel_rfl) (by simp) (AllReady.cons rfl (fun K hK => ?_) AllReady.nil)
                      refine step_store6 rfl _ _ rfl rfl (by rfl) (by rfl) rfl dr_x ?_
                      intro Wpa hw_pa ho_pa hb_pa
                      have pa_x := hw_pa
                      have pa_z := ho_pa _ _ (by first | omega | (simp; omega)) dr_z
                      have pa_u := ho_pa _ _ (by first | omega | (simp; omega)) dr_u
                      have pa_v := ho_pa _ _ (by first | omega | (simp; omega)) dr_v
                      have pa_B := hb_pa w (by first | omega | (simp; omega)) dr_B
                      refine hK _ _ ?_; clear hK K
                      refine wpAny_ready (rs := [3]) (by kernel_rfl) (by simp) (AllReady.cons rfl (fun K hK => ?_) AllReady.nil)
                      refine step_store6 rfl _ _ rfl rfl (by rfl) (by rfl) rfl pa_z ?_
                      intro Wpb hw_pb ho_pb hb_pb
                      have pb_x := ho_pb _ _ (by first | omega | (simp; omega)) pa_x
                      have pb_z := hw_pb
                      have pb_u := ho_pb _ _ (by first | omega | (simp; omega)) pa_u
                      have pb_v := ho_pb _ _ (by first | omega | (simp; omega)) pa_v
                      have pb_B := hb_pb w (by first | omega | (simp; omega)) pa_B
                      refine hK _ _ ?_; clear hK K
                      refine wpAny_done (by kernel_rfl) ?_ _
                      go_wp2_with fail
                      go_meet
                      exact ⟨pb_x, pb_z, pb_u, pb_v, pb_B⟩
                  case rest =>
                    as_aux_lemma =>
                      obtain ⟨x_x54, x_z54, x_u54, x_v54, hB54⟩ := hcut
                      obtain ⟨w54, rfl⟩ : ∃ u : World, u = wc := ⟨_, rfl⟩
                      clear hB53 hs53 c_t53 c_co53 x_x53 z_x53 c_x53_0 c_x53_1 c_x53_2 c_x53_3 c_x53_4 c_x53_5 f_x53_0 f_x53_1 f_x53_2 f_x53_3 f_x53_4 f_x53_5 x_z53 z_z53 c_z53_0 c_z53_1 c_z53_2 c_z53_3 c_z53_4 c_z53_5 f_z53_0 f_z53_1 f_z53_2 f_z53_3 f_z53_4 f_z53_5 x_u53 z_u53 c_u53_0 c_u53_1 c_u53_2 c_u53_3 c_u53_4 c_u53_5 f_u53_0 f_u53_1 f_u53_2 f_u53_3 f_u53_4 f_u53_5 x_v53 z_v53 c_v53_0 c_v53_1 c_v53_2 c_v53_3 c_v53_4 c_v53_5 f_v53_0 f_v53_1 f_v53_2 f_v53_3 f_v53_4 f_v53_5
                      have c_t54 := cell_below hB54 T0
                      have c_co54 := cell_below hB54 C0
                      have hs54 : w.heap.size ≤ w54.heap.size := hB54.size
                      have z_x54 := x_x54.lt
                      have c_x54_0 := x_x54.c 0 _ rfl; have f_x54_0 := x_x54.f 0 _ rfl
                      have c_x54_1 := x_x54.c 1 _ rfl; have f_x54_1 := x_x54.f 1 _ rfl
                      have c_x54_2 := x_x54.c 2 _ rfl; have f_x54_2 := x_x54.f 2 _ rfl
                      have c_x54_3 := x_x54.c 3 _ rfl; have f_x54_3 := x_x54.f 3 _ rfl
                      have c_x54_4 := x_x54.c 4 _ rfl; have f_x54_4 := x_x54.f 4 _ rfl
                      have c_x54_5 := x_x54.c 5 _ rfl; have f_x54_5 := x_x54.f 5 _ rfl
                      have z_z54 := x_z54.lt
                      have c_z54_0 := x_z54.c 0 _ rfl; have f_z54_0 := x_z54.f 0 _ rfl
                      have c_z54_1 := x_z54.c 1 _ rfl; have f_z54_1 := x_z54.f 1 _ rfl
                      have c_z54_2 := x_z54.c 2 _ rfl; have f_z54_2 := x_z54.f 2 _ rfl
                      have c_z54_3 := x_z54.c 3 _ rfl; have f_z54_3 := x_z54.f 3 _ rfl
                      have c_z54_4 := x_z54.c 4 _ rfl; have f_z54_4 := x_z54.f 4 _ rfl
                      have c_z54_5 := x_z54.c 5 _ rfl; have f_z54_5 := x_z54.f 5 _ rfl
                      have z_u54 := x_u54.lt
                      have c_u54_0 := x_u54.c 0 _ rfl; have f_u54_0 := x_u54.f 0 _ rfl
                      have c_u54_1 := x_u54.c 1 _ rfl; have f_u54_1 := x_u54.f 1 _ rfl
                      have c_u54_2 := x_u54.c 2 _ rfl; have f_u54_2 := x_u54.f 2 _ rfl
                      have c_u54_3 := x_u54.c 3 _ rfl; have f_u54_3 := x_u54.f 3 _ rfl
                      have c_u54_4 := x_u54.c 4 _ rfl; have f_u54_4 := x_u54.f 4 _ rfl
                      have c_u54_5 := x_u54.c 5 _ rfl; have f_u54_5 := x_u54.f 5 _ rfl
                      have z_v54 := x_v54.lt
                      have c_v54_0 := x_v54.c 0 _ rfl; have f_v54_0 := x_v54.f 0 _ rfl
                      have c_v54_1 := x_v54.c 1 _ rfl; have f_v54_1 := x_v54.f 1 _ rfl
                      have c_v54_2 := x_v54.c 2 _ rfl; have f_v54_2 := x_v54.f 2 _ rfl
                      have c_v54_3 := x_v54.c 3 _ rfl; have f_v54_3 := x_v54.f 3 _ rfl
                      have c_v54_4 := x_v54.c 4 _ rfl; have f_v54_4 := x_v54.f 4 _ rfl
                      have c_v54_5 := x_v54.c 5 _ rfl; have f_v54_5 := x_v54.f 5 _ rfl
                      go_upto_region 12 with fail
                      go_cut [14] (fun q0 wx => q0 = .int .i64 n1 ∧ Box wx (w.heap.size) [.int .i64 bu, .int .i64 ra, .int .i64 pe, .int .i64 L, .int .i64 Q, .int .u64 T] ∧ Box wx (w.heap.size + 1) [.int .i64 bu, .int .i64 ra, .int .i64 pe, .int .i64 L', .int .i64 Q', .int .u64 T] ∧ Box wx (b51) [.int .i64 x0, .int .i64 x1, .int .i64 x2, .int .i64 x3, .int .i64 x4, .int .u64 x5] ∧ Box wx (b52) [.int .i64 bu, .int .i64 ra, .int .i64 pe, .int .i64 L', .int .i64 Q', .int .u64 T] ∧ Below w.heap.size w wx)
                      case first =>
                        as_aux_lemma =>
                          go_region_held3 (fun w' => w'.cell? ⟨w.heap.size, 0, none⟩ = some (.int .i64 bu) ∧ w'.cell? ⟨w.heap.size, 1, none⟩ = some (.int .i64 ra) ∧ w'.cell? ⟨w.heap.size, 2, none⟩ = some (.int .i64 pe) ∧ w'.cell? ⟨w.heap.size, 3, none⟩ = some (.int .i64 L) ∧ w'.cell? ⟨w.heap.size, 4, none⟩ = some (.int .i64 Q) ∧ w'.cell? ⟨w.heap.size, 5, none⟩ = some (.int .u64 T) ∧ w'.cell? ⟨cb, coff + k, none⟩ = some (.int .i64 co)) (((repeat' apply And.intro) <;> (first | (go_keep; done) | go_cell)))
                            (first
                              | (go_at_call 16; refine (CH1 _).mono ?_; rintro e v1 ⟨rfl, hv1⟩; have hV1 : Below w.heap.size w v1 := below_thru (by go_grown) hv1; have hs_v1 : w.heap.size ≤ v1.heap.size := hV1.size; have x_x_v1 : Box v1 (w.heap.size) [.int .i64 bu, .int .i64 ra, .int .i64 pe, .int .i64 L, .int .i64 Q, .int .u64 T] := (by refine Box.below ?_ hv1; repeat (first | (with_reducible assumption) | (with_reducible refine Box.drew ?_) | (with_reducible refine Box.drewN ?_ _) | ((with_reducible refine Box.new ?_); simp; done) | (with_reducible apply Box.set2) | ((with_reducible apply Box.put); (with_reducible assumption); rfl) | (with_reducible refine Box.alloc ?_ _) | (with_reducible refine Box.other ?_ (by first | (dsimp only; omega) | omega) _))); have z_x_v1 := x_x_v1.lt; have c_x_v1_0 := x_x_v1.c 0 _ rfl; have f_x_v1_0 := x_x_v1.f 0 _ rfl; have c_x_v1_1 := x_x_v1.c 1 _ rfl; have f_x_v1_1 := x_x_v1.f 1 _ rfl; have c_x_v1_2 := x_x_v1.c 2 _ rfl; have f_x_v1_2 := x_x_v1.f 2 _ rfl; have c_x_v1_3 := x_x_v1.c 3 _ rfl; have f_x_v1_3 := x_x_v1.f 3 _ rfl; have c_x_v1_4 := x_x_v1.c 4 _ rfl; have f_x_v1_4 := x_x_v1.f 4 _ rfl; have c_x_v1_5 := x_x_v1.c 5 _ rfl; have f_x_v1_5 := x_x_v1.f 5 _ rfl; have x_z_v1 : Box v1 (w.heap.size + 1) [.int .i64 bu, .int .i64 ra, .int .i64 pe, .int .i64 L', .int .i64 Q', .int .u64 T] := (by refine Box.below ?_ hv1; repeat (first | (with_reducible assumption) | (with_reducible refine Box.drew ?_) | (with_reducible refine Box.drewN ?_ _) | ((with_reducible refine Box.new ?_); simp; done) | (with_reducible apply Box.set2) | ((with_reducible apply Box.put); (with_reducible assumption); rfl) | (with_reducible refine Box.alloc ?_ _) | (with_reducible refine Box.other ?_ (by first | (dsimp only; omega) | omega) _))); have z_z_v1 := x_z_v1.lt; have c_z_v1_0 := x_z_v1.c 0 _ rfl; have f_z_v1_0 := x_z_v1.f 0 _ rfl; have c_z_v1_1 := x_z_v1.c 1 _ rfl; have f_z_v1_1 := x_z_v1.f 1 _ rfl; have c_z_v1_2 := x_z_v1.c 2 _ rfl; have f_z_v1_2 := x_z_v1.f 2 _ rfl; have c_z_v1_3 := x_z_v1.c 3 _ rfl; have f_z_v1_3 := x_z_v1.f 3 _ rfl; have c_z_v1_4 := x_z_v1.c 4 _ rfl; have f_z_v1_4 := x_z_v1.f 4 _ rfl; have c_z_v1_5 := x_z_v1.c 5 _ rfl; have f_z_v1_5 := x_z_v1.f 5 _ rfl; have x_u_v1 : Box v1 (b51) [.int .i64 bu, .int .i64 ra, .int .i64 pe, .int .i64 L, .int .i64 Q, .int .u64 T] := (by refine Box.below ?_ hv1; repeat (first | (with_reducible assumption) | (with_reducible refine Box.drew ?_) | (with_reducible refine Box.drewN ?_ _) | ((with_reducible refine Box.new ?_); simp; done) | (with_reducible apply Box.set2) | ((with_reducible apply Box.put); (with_reducible assumption); rfl) | (with_reducible refine Box.alloc ?_ _) | (with_reducible refine Box.other ?_ (by first | (dsimp only; omega) | omega) _))); have z_u_v1 := x_u_v1.lt; have c_u_v1_0 := x_u_v1.c 0 _ rfl; have f_u_v1_0 := x_u_v1.f 0 _ rfl; have c_u_v1_1 := x_u_v1.c 1 _ rfl; have f_u_v1_1 := x_u_v1.f 1 _ rfl; have c_u_v1_2 := x_u_v1.c 2 _ rfl; have f_u_v1_2 := x_u_v1.f 2 _ rfl; have c_u_v1_3 := x_u_v1.c 3 _ rfl; have f_u_v1_3 := x_u_v1.f 3 _ rfl; have c_u_v1_4 := x_u_v1.c 4 _ rfl; have f_u_v1_4 := x_u_v1.f 4 _ rfl; have c_u_v1_5 := x_u_v1.c 5 _ rfl; have f_u_v1_5 := x_u_v1.f 5 _ rfl; have x_v_v1 : Box v1 (b52) [.int .i64 bu, .int .i64 ra, .int .i64 pe, .int .i64 L', .int .i64 Q', .int .u64 T] := (by refine Box.below ?_ hv1; repeat (first | (with_reducible assumption) | (with_reducible refine Box.drew ?_) | (with_reducible refine Box.drewN ?_ _) | ((with_reducible refine Box.new ?_); simp; done) | (with_reducible apply Box.set2) | ((with_reducible apply Box.put); (with_reducible assumption); rfl) | (with_reducible refine Box.alloc ?_ _) | (with_reducible refine Box.other ?_ (by first | (dsimp only; omega) | omega) _))); have z_v_v1 := x_v_v1.lt; have c_v_v1_0 := x_v_v1.c 0 _ rfl; have f_v_v1_0 := x_v_v1.f 0 _ rfl; have c_v_v1_1 := x_v_v1.c 1 _ rfl; have f_v_v1_1 := x_v_v1.f 1 _ rfl; have c_v_v1_2 := x_v_v1.c 2 _ rfl; have f_v_v1_2 := x_v_v1.f 2 _ rfl; have c_v_v1_3 := x_v_v1.c 3 _ rfl; have f_v_v1_3 := x_v_v1.f 3 _ rfl; have c_v_v1_4 := x_v_v1.c 4 _ rfl; have f_v_v1_4 := x_v_v1.f 4 _ rfl; have c_v_v1_5 := x_v_v1.c 5 _ rfl; have f_v_v1_5 := x_v_v1.f 5 _ rfl; have c_t_v1 := cell_below hV1 T0; have c_co_v1 := cell_below hV1 C0))
                          all_goals
                            go_wp2_with fail
                            go_meet
                            refine ⟨rfl, ?_, ?_, ?_, ?_, ?_⟩
                            all_goals first
                              | ((repeat (first | (with_reducible apply put6) | (with_reducible refine other6 ?_ (by first | (dsimp only; omega) | omega) _ _ _ _ _ _) | (with_reducible assumption) | (with_reducible refine Box.drew ?_) | (with_reducible refine Box.drewN ?_ _) | ((with_reducible refine Box.new ?_); simp; done) | (with_reducible apply Box.set2) | (with_reducible refine Box.alloc ?_ _) | (with_reducible refine Box.other ?_ (by first | (dsimp only; omega) | omega) _))); done)
                              | (go_grown; done)
                      case rest =>
                        as_aux_lemma =>
                          obtain ⟨rfl, x_x55, x_z55, x_u55, x_v55, hB55⟩ := hcut
                          obtain ⟨w55, rfl⟩ : ∃ u : World, u = wc := ⟨_, rfl⟩
                          clear hB54 hs54 c_t54 c_co54 x_x54 z_x54 c_x54_0 c_x54_1 c_x54_2 c_x54_3 c_x54_4 c_x54_5 f_x54_0 f_x54_1 f_x54_2 f_x54_3 f_x54_4 f_x54_5 x_z54 z_z54 c_z54_0 c_z54_1 c_z54_2 c_z54_3 c_z54_4 c_z54_5 f_z54_0 f_z54_1 f_z54_2 f_z54_3 f_z54_4 f_z54_5 x_u54 z_u54 c_u54_0 c_u54_1 c_u54_2 c_u54_3 c_u54_4 c_u54_5 f_u54_0 f_u54_1 f_u54_2 f_u54_3 f_u54_4 f_u54_5 x_v54 z_v54 c_v54_0 c_v54_1 c_v54_2 c_v54_3 c_v54_4 c_v54_5 f_v54_0 f_v54_1 f_v54_2 f_v54_3 f_v54_4 f_v54_5
                          have c_t55 := cell_below hB55 T0
                          have c_co55 := cell_below hB55 C0
                          have hs55 : w.heap.size ≤ w55.heap.size := hB55.size
                          have z_x55 := x_x55.lt
                          have c_x55_0 := x_x55.c 0 _ rfl; have f_x55_0 := x_x55.f 0 _ rfl
                          have c_x55_1 := x_x55.c 1 _ rfl; have f_x55_1 := x_x55.f 1 _ rfl
                          have c_x55_2 := x_x55.c 2 _ rfl; have f_x55_2 := x_x55.f 2 _ rfl
                          have c_x55_3 := x_x55.c 3 _ rfl; have f_x55_3 := x_x55.f 3 _ rfl
                          have c_x55_4 := x_x55.c 4 _ rfl; have f_x55_4 := x_x55.f 4 _ rfl
                          have c_x55_5 := x_x55.c 5 _ rfl; have f_x55_5 := x_x55.f 5 _ rfl
                          have z_z55 := x_z55.lt
                          have c_z55_0 := x_z55.c 0 _ rfl; have f_z55_0 := x_z55.f 0 _ rfl
                          have c_z55_1 := x_z55.c 1 _ rfl; have f_z55_1 := x_z55.f 1 _ rfl
                          have c_z55_2 := x_z55.c 2 _ rfl; have f_z55_2 := x_z55.f 2 _ rfl
                          have c_z55_3 := x_z55.c 3 _ rfl; have f_z55_3 := x_z55.f 3 _ rfl
                          have c_z55_4 := x_z55.c 4 _ rfl; have f_z55_4 := x_z55.f 4 _ rfl
                          have c_z55_5 := x_z55.c 5 _ rfl; have f_z55_5 := x_z55.f 5 _ rfl
                          have z_u55 := x_u55.lt
                          have c_u55_0 := x_u55.c 0 _ rfl; have f_u55_0 := x_u55.f 0 _ rfl
                          have c_u55_1 := x_u55.c 1 _ rfl; have f_u55_1 := x_u55.f 1 _ rfl
                          have c_u55_2 := x_u55.c 2 _ rfl; have f_u55_2 := x_u55.f 2 _ rfl
                          have c_u55_3 := x_u55.c 3 _ rfl; have f_u55_3 := x_u55.f 3 _ rfl
                          have c_u55_4 := x_u55.c 4 _ rfl; have f_u55_4 := x_u55.f 4 _ rfl
                          have c_u55_5 := x_u55.c 5 _ rfl; have f_u55_5 := x_u55.f 5 _ rfl
                          have z_v55 := x_v55.lt
                          have c_v55_0 := x_v55.c 0 _ rfl; have f_v55_0 := x_v55.f 0 _ rfl
                          have c_v55_1 := x_v55.c 1 _ rfl; have f_v55_1 := x_v55.f 1 _ rfl
                          have c_v55_2 := x_v55.c 2 _ rfl; have f_v55_2 := x_v55.f 2 _ rfl
                          have c_v55_3 := x_v55.c 3 _ rfl; have f_v55_3 := x_v55.f 3 _ rfl
                          have c_v55_4 := x_v55.c 4 _ rfl; have f_v55_4 := x_v55.f 4 _ rfl
                          have c_v55_5 := x_v55.c 5 _ rfl; have f_v55_5 := x_v55.f 5 _ rfl
                          go_upto_region 13 with fail
                          go_cut [15] (fun q0 wx => q0 = .int .i64 n2 ∧ Box wx (w.heap.size) [.int .i64 bu, .int .i64 ra, .int .i64 pe, .int .i64 L, .int .i64 Q, .int .u64 T] ∧ Box wx (w.heap.size + 1) [.int .i64 bu, .int .i64 ra, .int .i64 pe, .int .i64 L', .int .i64 Q', .int .u64 T] ∧ Box wx (b51) [.int .i64 x0, .int .i64 x1, .int .i64 x2, .int .i64 x3, .int .i64 x4, .int .u64 x5] ∧ Box wx (b52) [.int .i64 y0, .int .i64 y1, .int .i64 y2, .int .i64 y3, .int .i64 y4, .int .u64 y5] ∧ Below w.heap.size w wx)
                          case first =>
                            as_aux_lemma =>
                              go_region_held3 (fun w' => w'.cell? ⟨w.heap.size + 1, 0, none⟩ = some (.int .i64 bu) ∧ w'.cell? ⟨w.heap.size + 1, 1, none⟩ = some (.int .i64 ra) ∧ w'.cell? ⟨w.heap.size + 1, 2, none⟩ = some (.int .i64 pe) ∧ w'.cell? ⟨w.heap.size + 1, 3, none⟩ = some (.int .i64 L') ∧ w'.cell? ⟨w.heap.size + 1, 4, none⟩ = some (.int .i64 Q') ∧ w'.cell? ⟨w.heap.size + 1, 5, none⟩ = some (.int .u64 T) ∧ w'.cell? ⟨cb, coff + k, none⟩ = some (.int .i64 co)) (((repeat' apply And.intro) <;> (first | (go_keep; done) | go_cell)))
                                (first
                                  | (go_at_call 16; refine (CH2 _).mono ?_; rintro e v1 ⟨rfl, hv1⟩; have hV1 : Below w.heap.size w v1 := below_thru (by go_grown) hv1; have hs_v1 : w.heap.size ≤ v1.heap.size := hV1.size; have x_x_v1 : Box v1 (w.heap.size) [.int .i64 bu, .int .i64 ra, .int .i64 pe, .int .i64 L, .int .i64 Q, .int .u64 T] := (by refine Box.below ?_ hv1; repeat (first | (with_reducible assumption) | (with_reducible refine Box.drew ?_) | (with_reducible refine Box.drewN ?_ _) | ((with_reducible refine Box.new ?_); simp; done) | (with_reducible apply Box.set2) | ((with_reducible apply Box.put); (with_reducible assumption); rfl) | (with_reducible refine Box.alloc ?_ _) | (with_reducible refine Box.other ?_ (by first | (dsimp only; omega) | omega) _))); have z_x_v1 := x_x_v1.lt; have c_x_v1_0 := x_x_v1.c 0 _ rfl; have f_x_v1_0 := x_x_v1.f 0 _ rfl; have c_x_v1_1 := x_x_v1.c 1 _ rfl; have f_x_v1_1 := x_x_v1.f 1 _ rfl; have c_x_v1_2 := x_x_v1.c 2 _ rfl; have f_x_v1_2 := x_x_v1.f 2 _ rfl; have c_x_v1_3 := x_x_v1.c 3 _ rfl; have f_x_v1_3 := x_x_v1.f 3 _ rfl; have c_x_v1_4 := x_x_v1.c 4 _ rfl; have f_x_v1_4 := x_x_v1.f 4 _ rfl; have c_x_v1_5 := x_x_v1.c 5 _ rfl; have f_x_v1_5 := x_x_v1.f 5 _ rfl; have x_z_v1 : Box v1 (w.heap.size + 1) [.int .i64 bu, .int .i64 ra, .int .i64 pe, .int .i64 L', .int .i64 Q', .int .u64 T] := (by refine Box.below ?_ hv1; repeat (first | (with_reducible assumption) | (with_reducible refine Box.drew ?_) | (with_reducible refine Box.drewN ?_ _) | ((with_reducible refine Box.new ?_); simp; done) | (with_reducible apply Box.set2) | ((with_reducible apply Box.put); (with_reducible assumption); rfl) | (with_reducible refine Box.alloc ?_ _) | (with_reducible refine Box.other ?_ (by first | (dsimp only; omega) | omega) _))); have z_z_v1 := x_z_v1.lt; have c_z_v1_0 := x_z_v1.c 0 _ rfl; have f_z_v1_0 := x_z_v1.f 0 _ rfl; have c_z_v1_1 := x_z_v1.c 1 _ rfl; have f_z_v1_1 := x_z_v1.f 1 _ rfl; have c_z_v1_2 := x_z_v1.c 2 _ rfl; have f_z_v1_2 := x_z_v1.f 2 _ rfl; have c_z_v1_3 := x_z_v1.c 3 _ rfl; have f_z_v1_3 := x_z_v1.f 3 _ rfl; have c_z_v1_4 := x_z_v1.c 4 _ rfl; have f_z_v1_4 := x_z_v1.f 4 _ rfl; have c_z_v1_5 := x_z_v1.c 5 _ rfl; have f_z_v1_5 := x_z_v1.f 5 _ rfl; have x_u_v1 : Box v1 (b51) [.int .i64 x0, .int .i64 x1, .int .i64 x2, .int .i64 x3, .int .i64 x4, .int .u64 x5] := (by refine Box.below ?_ hv1; repeat (first | (with_reducible assumption) | (with_reducible refine Box.drew ?_) | (with_reducible refine Box.drewN ?_ _) | ((with_reducible refine Box.new ?_); simp; done) | (with_reducible apply Box.set2) | ((with_reducible apply Box.put); (with_reducible assumption); rfl) | (with_reducible refine Box.alloc ?_ _) | (with_reducible refine Box.other ?_ (by first | (dsimp only; omega) | omega) _))); have z_u_v1 := x_u_v1.lt; have c_u_v1_0 := x_u_v1.c 0 _ rfl; have f_u_v1_0 := x_u_v1.f 0 _ rfl; have c_u_v1_1 := x_u_v1.c 1 _ rfl; have f_u_v1_1 := x_u_v1.f 1 _ rfl; have c_u_v1_2 := x_u_v1.c 2 _ rfl; have f_u_v1_2 := x_u_v1.f 2 _ rfl; have c_u_v1_3 := x_u_v1.c 3 _ rfl; have f_u_v1_3 := x_u_v1.f 3 _ rfl; have c_u_v1_4 := x_u_v1.c 4 _ rfl; have f_u_v1_4 := x_u_v1.f 4 _ rfl; have c_u_v1_5 := x_u_v1.c 5 _ rfl; have f_u_v1_5 := x_u_v1.f 5 _ rfl; have x_v_v1 : Box v1 (b52) [.int .i64 bu, .int .i64 ra, .int .i64 pe, .int .i64 L', .int .i64 Q', .int .u64 T] := (by refine Box.below ?_ hv1; repeat (first | (with_reducible assumption) | (with_reducible refine Box.drew ?_) | (with_reducible refine Box.drewN ?_ _) | ((with_reducible refine Box.new ?_); simp; done) | (with_reducible apply Box.set2) | ((with_reducible apply Box.put); (with_reducible assumption); rfl) | (with_reducible refine Box.alloc ?_ _) | (with_reducible refine Box.other ?_ (by first | (dsimp only; omega) | omega) _))); have z_v_v1 := x_v_v1.lt; have c_v_v1_0 := x_v_v1.c 0 _ rfl; have f_v_v1_0 := x_v_v1.f 0 _ rfl; have c_v_v1_1 := x_v_v1.c 1 _ rfl; have f_v_v1_1 := x_v_v1.f 1 _ rfl; have c_v_v1_2 := x_v_v1.c 2 _ rfl; have f_v_v1_2 := x_v_v1.f 2 _ rfl; have c_v_v1_3 := x_v_v1.c 3 _ rfl; have f_v_v1_3 := x_v_v1.f 3 _ rfl; have c_v_v1_4 := x_v_v1.c 4 _ rfl; have f_v_v1_4 := x_v_v1.f 4 _ rfl; have c_v_v1_5 := x_v_v1.c 5 _ rfl; have f_v_v1_5 := x_v_v1.f 5 _ rfl; have c_t_v1 := cell_below hV1 T0; have c_co_v1 := cell_below hV1 C0))
                              all_goals
                                go_wp2_with fail
                                go_meet
                                refine ⟨rfl, ?_, ?_, ?_, ?_, ?_⟩
                                all_goals first
                                  | ((repeat (first | (with_reducible apply put6) | (with_reducible refine other6 ?_ (by first | (dsimp only; omega) | omega) _ _ _ _ _ _) | (with_reducible assumption) | (with_reducible refine Box.drew ?_) | (with_reducible refine Box.drewN ?_ _) | ((with_reducible refine Box.new ?_); simp; done) | (with_reducible apply Box.set2) | (with_reducible refine Box.alloc ?_ _) | (with_reducible refine Box.other ?_ (by first | (dsimp only; omega) | omega) _))); done)
                                  | (go_grown; done)
                          case rest =>
                            as_aux_lemma =>
                              obtain ⟨rfl, x_x56, x_z56, x_u56, x_v56, hB56⟩ := hcut
                              obtain ⟨w56, rfl⟩ : ∃ u : World, u = wc := ⟨_, rfl⟩
                              clear hB55 hs55 c_t55 c_co55 x_x55 z_x55 c_x55_0 c_x55_1 c_x55_2 c_x55_3 c_x55_4 c_x55_5 f_x55_0 f_x55_1 f_x55_2 f_x55_3 f_x55_4 f_x55_5 x_z55 z_z55 c_z55_0 c_z55_1 c_z55_2 c_z55_3 c_z55_4 c_z55_5 f_z55_0 f_z55_1 f_z55_2 f_z55_3 f_z55_4 f_z55_5 x_u55 z_u55 c_u55_0 c_u55_1 c_u55_2 c_u55_3 c_u55_4 c_u55_5 f_u55_0 f_u55_1 f_u55_2 f_u55_3 f_u55_4 f_u55_5 x_v55 z_v55 c_v55_0 c_v55_1 c_v55_2 c_v55_3 c_v55_4 c_v55_5 f_v55_0 f_v55_1 f_v55_2 f_v55_3 f_v55_4 f_v55_5
                              have c_t56 := cell_below hB56 T0
                              have c_co56 := cell_below hB56 C0
                              have hs56 : w.heap.size ≤ w56.heap.size := hB56.size
                              have z_x56 := x_x56.lt
                              have c_x56_0 := x_x56.c 0 _ rfl; have f_x56_0 := x_x56.f 0 _ rfl
                              have c_x56_1 := x_x56.c 1 _ rfl; have f_x56_1 := x_x56.f 1 _ rfl
                              have c_x56_2 := x_x56.c 2 _ rfl; have f_x56_2 := x_x56.f 2 _ rfl
                              have c_x56_3 := x_x56.c 3 _ rfl; have f_x56_3 := x_x56.f 3 _ rfl
                              have c_x56_4 := x_x56.c 4 _ rfl; have f_x56_4 := x_x56.f 4 _ rfl
                              have c_x56_5 := x_x56.c 5 _ rfl; have f_x56_5 := x_x56.f 5 _ rfl
                              have z_z56 := x_z56.lt
                              have c_z56_0 := x_z56.c 0 _ rfl; have f_z56_0 := x_z56.f 0 _ rfl
                              have c_z56_1 := x_z56.c 1 _ rfl; have f_z56_1 := x_z56.f 1 _ rfl
                              have c_z56_2 := x_z56.c 2 _ rfl; have f_z56_2 := x_z56.f 2 _ rfl
                              have c_z56_3 := x_z56.c 3 _ rfl; have f_z56_3 := x_z56.f 3 _ rfl
                              have c_z56_4 := x_z56.c 4 _ rfl; have f_z56_4 := x_z56.f 4 _ rfl
                              have c_z56_5 := x_z56.c 5 _ rfl; have f_z56_5 := x_z56.f 5 _ rfl
                              have z_u56 := x_u56.lt
                              have c_u56_0 := x_u56.c 0 _ rfl; have f_u56_0 := x_u56.f 0 _ rfl
                              have c_u56_1 := x_u56.c 1 _ rfl; have f_u56_1 := x_u56.f 1 _ rfl
                              have c_u56_2 := x_u56.c 2 _ rfl; have f_u56_2 := x_u56.f 2 _ rfl
                              have c_u56_3 := x_u56.c 3 _ rfl; have f_u56_3 := x_u56.f 3 _ rfl
                              have c_u56_4 := x_u56.c 4 _ rfl; have f_u56_4 := x_u56.f 4 _ rfl
                              have c_u56_5 := x_u56.c 5 _ rfl; have f_u56_5 := x_u56.f 5 _ rfl
                              have z_v56 := x_v56.lt
                              have c_v56_0 := x_v56.c 0 _ rfl; have f_v56_0 := x_v56.f 0 _ rfl
                              have c_v56_1 := x_v56.c 1 _ rfl; have f_v56_1 := x_v56.f 1 _ rfl
                              have c_v56_2 := x_v56.c 2 _ rfl; have f_v56_2 := x_v56.f 2 _ rfl
                              have c_v56_3 := x_v56.c 3 _ rfl; have f_v56_3 := x_v56.f 3 _ rfl
                              have c_v56_4 := x_v56.c 4 _ rfl; have f_v56_4 := x_v56.f 4 _ rfl
                              have c_v56_5 := x_v56.c 5 _ rfl; have f_v56_5 := x_v56.f 5 _ rfl
                              clear x_u56 z_u56 c_u56_0 c_u56_1 c_u56_2 c_u56_3 c_u56_4 c_u56_5 f_u56_0 f_u56_1 f_u56_2 f_u56_3 f_u56_4 f_u56_5
                              clear x_v56 z_v56 c_v56_0 c_v56_1 c_v56_2 c_v56_3 c_v56_4 c_v56_5 f_v56_0 f_v56_1 f_v56_2 f_v56_3 f_v56_4 f_v56_5
                              go_upto_region 18 with fail
                              go_cut [16, 17] (fun q0 q1 wx => q0 = .int .u64 n ∧ q1 = .int .i64 j ∧ Box wx (w.heap.size) [.int .i64 bu, .int .i64 ra, .int .i64 pe, .int .i64 L, .int .i64 Q, .int .u64 T] ∧ Box wx (w.heap.size + 1) [.int .i64 bu, .int .i64 ra, .int .i64 pe, .int .i64 L', .int .i64 Q', .int .u64 T] ∧ Below w.heap.size w wx)
                              case first =>
                                as_aux_lemma =>
                                  go_region_held3 (fun w' => w'.cell? ⟨w.heap.size, 0, none⟩ = some (.int .i64 bu) ∧ w'.cell? ⟨w.heap.size, 1, none⟩ = some (.int .i64 ra) ∧ w'.cell? ⟨w.heap.size, 2, none⟩ = some (.int .i64 pe) ∧ w'.cell? ⟨w.heap.size, 3, none⟩ = some (.int .i64 L) ∧ w'.cell? ⟨w.heap.size, 4, none⟩ = some (.int .i64 Q) ∧ w'.cell? ⟨w.heap.size, 5, none⟩ = some (.int .u64 T) ∧ w'.cell? ⟨cb, coff + k, none⟩ = some (.int .i64 co)) (((repeat' apply And.intro) <;> (first | (go_keep; done) | go_cell)))
                                    (first
                                      | (go_at_call 17; refine (W1 _).mono ?_; rintro e v1 ⟨rfl, hv1⟩; have hV1 : Below w.heap.size w v1 := below_thru (by go_grown) hv1; have hs_v1 : w.heap.size ≤ v1.heap.size := hV1.size; have x_x_v1 : Box v1 (w.heap.size) [.int .i64 bu, .int .i64 ra, .int .i64 pe, .int .i64 L, .int .i64 Q, .int .u64 T] := (by refine Box.below ?_ hv1; repeat (first | (with_reducible assumption) | (with_reducible refine Box.drew ?_) | (with_reducible refine Box.drewN ?_ _) | ((with_reducible refine Box.new ?_); simp; done) | (with_reducible apply Box.set2) | ((with_reducible apply Box.put); (with_reducible assumption); rfl) | (with_reducible refine Box.alloc ?_ _) | (with_reducible refine Box.other ?_ (by first | (dsimp only; omega) | omega) _))); have z_x_v1 := x_x_v1.lt; have c_x_v1_0 := x_x_v1.c 0 _ rfl; have f_x_v1_0 := x_x_v1.f 0 _ rfl; have c_x_v1_1 := x_x_v1.c 1 _ rfl; have f_x_v1_1 := x_x_v1.f 1 _ rfl; have c_x_v1_2 := x_x_v1.c 2 _ rfl; have f_x_v1_2 := x_x_v1.f 2 _ rfl; have c_x_v1_3 := x_x_v1.c 3 _ rfl; have f_x_v1_3 := x_x_v1.f 3 _ rfl; have c_x_v1_4 := x_x_v1.c 4 _ rfl; have f_x_v1_4 := x_x_v1.f 4 _ rfl; have c_x_v1_5 := x_x_v1.c 5 _ rfl; have f_x_v1_5 := x_x_v1.f 5 _ rfl; have x_z_v1 : Box v1 (w.heap.size + 1) [.int .i64 bu, .int .i64 ra, .int .i64 pe, .int .i64 L', .int .i64 Q', .int .u64 T] := (by refine Box.below ?_ hv1; repeat (first | (with_reducible assumption) | (with_reducible refine Box.drew ?_) | (with_reducible refine Box.drewN ?_ _) | ((with_reducible refine Box.new ?_); simp; done) | (with_reducible apply Box.set2) | ((with_reducible apply Box.put); (with_reducible assumption); rfl) | (with_reducible refine Box.alloc ?_ _) | (with_reducible refine Box.other ?_ (by first | (dsimp only; omega) | omega) _))); have z_z_v1 := x_z_v1.lt; have c_z_v1_0 := x_z_v1.c 0 _ rfl; have f_z_v1_0 := x_z_v1.f 0 _ rfl; have c_z_v1_1 := x_z_v1.c 1 _ rfl; have f_z_v1_1 := x_z_v1.f 1 _ rfl; have c_z_v1_2 := x_z_v1.c 2 _ rfl; have f_z_v1_2 := x_z_v1.f 2 _ rfl; have c_z_v1_3 := x_z_v1.c 3 _ rfl; have f_z_v1_3 := x_z_v1.f 3 _ rfl; have c_z_v1_4 := x_z_v1.c 4 _ rfl; have f_z_v1_4 := x_z_v1.f 4 _ rfl; have c_z_v1_5 := x_z_v1.c 5 _ rfl; have f_z_v1_5 := x_z_v1.f 5 _ rfl; have c_t_v1 := cell_below hV1 T0; have c_co_v1 := cell_below hV1 C0))
                                  all_goals
                                    go_wp2_with fail
                                    go_meet
                                    refine ⟨rfl, rfl, ?_, ?_, ?_⟩
                                    all_goals first
                                      | ((repeat (first | (with_reducible assumption) | (with_reducible refine Box.drew ?_) | (with_reducible refine Box.drewN ?_ _) | ((with_reducible refine Box.new ?_); simp; done) | (with_reducible apply Box.set2) | (with_reducible refine Box.alloc ?_ _) | (with_reducible refine Box.other ?_ (by first | (dsimp only; omega) | omega) _))); done)
                                      | (go_grown; done)
                              case rest =>
                                as_aux_lemma =>
                                  obtain ⟨rfl, rfl, x_x57, x_z57, hB57⟩ := hcut
                                  obtain ⟨w57, rfl⟩ : ∃ u : World, u = wc := ⟨_, rfl⟩
                                  clear hB56 hs56 c_t56 c_co56 x_x56 z_x56 c_x56_0 c_x56_1 c_x56_2 c_x56_3 c_x56_4 c_x56_5 f_x56_0 f_x56_1 f_x56_2 f_x56_3 f_x56_4 f_x56_5 x_z56 z_z56 c_z56_0 c_z56_1 c_z56_2 c_z56_3 c_z56_4 c_z56_5 f_z56_0 f_z56_1 f_z56_2 f_z56_3 f_z56_4 f_z56_5
                                  have c_t57 := cell_below hB57 T0
                                  have c_co57 := cell_below hB57 C0
                                  have hs57 : w.heap.size ≤ w57.heap.size := hB57.size
                                  have z_x57 := x_x57.lt
                                  have c_x57_0 := x_x57.c 0 _ rfl; have f_x57_0 := x_x57.f 0 _ rfl
                                  have c_x57_1 := x_x57.c 1 _ rfl; have f_x57_1 := x_x57.f 1 _ rfl
                                  have c_x57_2 := x_x57.c 2 _ rfl; have f_x57_2 := x_x57.f 2 _ rfl
                                  have c_x57_3 := x_x57.c 3 _ rfl; have f_x57_3 := x_x57.f 3 _ rfl
                                  have c_x57_4 := x_x57.c 4 _ rfl; have f_x57_4 := x_x57.f 4 _ rfl
                                  have c_x57_5 := x_x57.c 5 _ rfl; have f_x57_5 := x_x57.f 5 _ rfl
                                  have z_z57 := x_z57.lt
                                  have c_z57_0 := x_z57.c 0 _ rfl; have f_z57_0 := x_z57.f 0 _ rfl
                                  have c_z57_1 := x_z57.c 1 _ rfl; have f_z57_1 := x_z57.f 1 _ rfl
                                  have c_z57_2 := x_z57.c 2 _ rfl; have f_z57_2 := x_z57.f 2 _ rfl
                                  have c_z57_3 := x_z57.c 3 _ rfl; have f_z57_3 := x_z57.f 3 _ rfl
                                  have c_z57_4 := x_z57.c 4 _ rfl; have f_z57_4 := x_z57.f 4 _ rfl
                                  have c_z57_5 := x_z57.c 5 _ rfl; have f_z57_5 := x_z57.f 5 _ rfl
                                  go_upto_region 19 with fail
                                  go_cut [18, 19] (fun q0 q1 wx => q0 = .int .u64 m ∧ q1 = .int .i64 j ∧ Box wx (w.heap.size) [.int .i64 bu, .int .i64 ra, .int .i64 pe, .int .i64 L, .int .i64 Q, .int .u64 T] ∧ Box wx (w.heap.size + 1) [.int .i64 bu, .int .i64 ra, .int .i64 pe, .int .i64 L', .int .i64 Q', .int .u64 T] ∧ Below w.heap.size w wx)
                                  case first =>
                                    as_aux_lemma =>
                                      go_region_held3 (fun w' => w'.cell? ⟨w.heap.size + 1, 0, none⟩ = some (.int .i64 bu) ∧ w'.cell? ⟨w.heap.size + 1, 1, none⟩ = some (.int .i64 ra) ∧ w'.cell? ⟨w.heap.size + 1, 2, none⟩ = some (.int .i64 pe) ∧ w'.cell? ⟨w.heap.size + 1, 3, none⟩ = some (.int .i64 L') ∧ w'.cell? ⟨w.heap.size + 1, 4, none⟩ = some (.int .i64 Q') ∧ w'.cell? ⟨w.heap.size + 1, 5, none⟩ = some (.int .u64 T) ∧ w'.cell? ⟨cb, coff + k, none⟩ = some (.int .i64 co)) (((repeat' apply And.intro) <;> (first | (go_keep; done) | go_cell)))
                                        (first
                                          | (go_at_call 17; refine (W2 _).mono ?_; rintro e v1 ⟨rfl, hv1⟩; have hV1 : Below w.heap.size w v1 := below_thru (by go_grown) hv1; have hs_v1 : w.heap.size ≤ v1.heap.size := hV1.size; have x_x_v1 : Box v1 (w.heap.size) [.int .i64 bu, .int .i64 ra, .int .i64 pe, .int .i64 L, .int .i64 Q, .int .u64 T] := (by refine Box.below ?_ hv1; repeat (first | (with_reducible assumption) | (with_reducible refine Box.drew ?_) | (with_reducible refine Box.drewN ?_ _) | ((with_reducible refine Box.new ?_); simp; done) | (with_reducible apply Box.set2) | ((with_reducible apply Box.put); (with_reducible assumption); rfl) | (with_reducible refine Box.alloc ?_ _) | (with_reducible refine Box.other ?_ (by first | (dsimp only; omega) | omega) _))); have z_x_v1 := x_x_v1.lt; have c_x_v1_0 := x_x_v1.c 0 _ rfl; have f_x_v1_0 := x_x_v1.f 0 _ rfl; have c_x_v1_1 := x_x_v1.c 1 _ rfl; have f_x_v1_1 := x_x_v1.f 1 _ rfl; have c_x_v1_2 := x_x_v1.c 2 _ rfl; have f_x_v1_2 := x_x_v1.f 2 _ rfl; have c_x_v1_3 := x_x_v1.c 3 _ rfl; have f_x_v1_3 := x_x_v1.f 3 _ rfl; have c_x_v1_4 := x_x_v1.c 4 _ rfl; have f_x_v1_4 := x_x_v1.f 4 _ rfl; have c_x_v1_5 := x_x_v1.c 5 _ rfl; have f_x_v1_5 := x_x_v1.f 5 _ rfl; have x_z_v1 : Box v1 (w.heap.size + 1) [.int .i64 bu, .int .i64 ra, .int .i64 pe, .int .i64 L', .int .i64 Q', .int .u64 T] := (by refine Box.below ?_ hv1; repeat (first | (with_reducible assumption) | (with_reducible refine Box.drew ?_) | (with_reducible refine Box.drewN ?_ _) | ((with_reducible refine Box.new ?_); simp; done) | (with_reducible apply Box.set2) | ((with_reducible apply Box.put); (with_reducible assumption); rfl) | (with_reducible refine Box.alloc ?_ _) | (with_reducible refine Box.other ?_ (by first | (dsimp only; omega) | omega) _))); have z_z_v1 := x_z_v1.lt; have c_z_v1_0 := x_z_v1.c 0 _ rfl; have f_z_v1_0 := x_z_v1.f 0 _ rfl; have c_z_v1_1 := x_z_v1.c 1 _ rfl; have f_z_v1_1 := x_z_v1.f 1 _ rfl; have c_z_v1_2 := x_z_v1.c 2 _ rfl; have f_z_v1_2 := x_z_v1.f 2 _ rfl; have c_z_v1_3 := x_z_v1.c 3 _ rfl; have f_z_v1_3 := x_z_v1.f 3 _ rfl; have c_z_v1_4 := x_z_v1.c 4 _ rfl; have f_z_v1_4 := x_z_v1.f 4 _ rfl; have c_z_v1_5 := x_z_v1.c 5 _ rfl; have f_z_v1_5 := x_z_v1.f 5 _ rfl; have c_t_v1 := cell_below hV1 T0; have c_co_v1 := cell_below hV1 C0))
                                      all_goals
                                        go_wp2_with fail
                                        go_meet
                                        refine ⟨rfl, rfl, ?_, ?_, ?_⟩
                                        all_goals first
                                          | ((repeat (first | (with_reducible assumption) | (with_reducible refine Box.drew ?_) | (with_reducible refine Box.drewN ?_ _) | ((with_reducible refine Box.new ?_); simp; done) | (with_reducible apply Box.set2) | (with_reducible refine Box.alloc ?_ _) | (with_reducible refine Box.other ?_ (by first | (dsimp only; omega) | omega) _))); done)
                                          | (go_grown; done)
                                  case rest =>
                                    as_aux_lemma =>
                                      obtain ⟨rfl, rfl, x_x58, x_z58, hB58⟩ := hcut
                                      obtain ⟨w58, rfl⟩ : ∃ u : World, u = wc := ⟨_, rfl⟩
                                      clear hB57 hs57 c_t57 c_co57 x_x57 z_x57 c_x57_0 c_x57_1 c_x57_2 c_x57_3 c_x57_4 c_x57_5 f_x57_0 f_x57_1 f_x57_2 f_x57_3 f_x57_4 f_x57_5 x_z57 z_z57 c_z57_0 c_z57_1 c_z57_2 c_z57_3 c_z57_4 c_z57_5 f_z57_0 f_z57_1 f_z57_2 f_z57_3 f_z57_4 f_z57_5
                                      have c_t58 := cell_below hB58 T0
                                      have c_co58 := cell_below hB58 C0
                                      have hs58 : w.heap.size ≤ w58.heap.size := hB58.size
                                      have z_x58 := x_x58.lt
                                      have c_x58_0 := x_x58.c 0 _ rfl; have f_x58_0 := x_x58.f 0 _ rfl
                                      have c_x58_1 := x_x58.c 1 _ rfl; have f_x58_1 := x_x58.f 1 _ rfl
                                      have c_x58_2 := x_x58.c 2 _ rfl; have f_x58_2 := x_x58.f 2 _ rfl
                                      have c_x58_3 := x_x58.c 3 _ rfl; have f_x58_3 := x_x58.f 3 _ rfl
                                      have c_x58_4 := x_x58.c 4 _ rfl; have f_x58_4 := x_x58.f 4 _ rfl
                                      have c_x58_5 := x_x58.c 5 _ rfl; have f_x58_5 := x_x58.f 5 _ rfl
                                      have z_z58 := x_z58.lt
                                      have c_z58_0 := x_z58.c 0 _ rfl; have f_z58_0 := x_z58.f 0 _ rfl
                                      have c_z58_1 := x_z58.c 1 _ rfl; have f_z58_1 := x_z58.f 1 _ rfl
                                      have c_z58_2 := x_z58.c 2 _ rfl; have f_z58_2 := x_z58.f 2 _ rfl
                                      have c_z58_3 := x_z58.c 3 _ rfl; have f_z58_3 := x_z58.f 3 _ rfl
                                      have c_z58_4 := x_z58.c 4 _ rfl; have f_z58_4 := x_z58.f 4 _ rfl
                                      have c_z58_5 := x_z58.c 5 _ rfl; have f_z58_5 := x_z58.f 5 _ rfl
                                      go_wp2_with fail
                                      go_roundw
                                      case rel => exact ⟨k + 1, L, Q, L', Q', T, by go_num, by omega, BF, CF, VF, x_x58, x_z58, hB58⟩
                                      case measure => simp [intOf]; omega

end Go.Proofs.Ytmpcpflpcfanjaa
