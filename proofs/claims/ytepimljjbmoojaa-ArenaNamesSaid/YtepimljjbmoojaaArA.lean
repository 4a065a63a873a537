/-
  Package arena, walked: isPlace, Check.
-/
import Derived.Test.YtepimljjbmoojaaArMath
namespace Go.Proofs.Ytepimljjbmoojaa
open Go.RowKit

theorem size_ar (a b c : Value) : (Try.prog.info? 25).map (·.size) = some [a, b, c].length := by show _ = some 3; kernel_rfl
theorem size_bl : (Try.prog.info? 4).map (·.size) = some 1 := by kernel_rfl
theorem size_in : (Try.prog.info? 3).map (·.size) = some 1 := by kernel_rfl
theorem info_bl : (Try.prog.info? 4).map (fun i => (i.zero, i.size, i.bytes)) = some (some (.bool false), 1, 1) := by kernel_rfl
theorem info_in : (Try.prog.info? 3).map (fun i => (i.zero, i.size, i.bytes)) = some (some (.int .i64 0), 1, 8) := by kernel_rfl
theorem one_ar (a b : Option Addr) (n m c d : Nat) (x : Int) : ([Value.slice a n c, Value.slice b m d, .int .i64 x] : List Value).toArray.all (·.oneCell') = true := all_oneCell_toArray (fun u hu => by
  simp at hu
  rcases hu with rfl | rfl | rfl <;> rfl)
def ar0 : List Value := [.slice none 0 0, .slice none 0 0, .int .i64 0]
theorem IsR.getI {w : World} {a : Option Addr} {n c : Nat} {xs : List Int} (h : IsR LI w (.slice a n c) xs) {i : Nat} {x : Int} (hi : xs[i]? = some x) : ∃ b off, a = some ⟨b, off, Option.none⟩ ∧ w.cell? ⟨b, off + i, Option.none⟩ = some (.int .i64 x) := by
  obtain ⟨b, off, e, hc⟩ := h.get 1 rfl hi
  refine ⟨b, off, e, ?_⟩
  have := hc 0 (.int .i64 x) rfl
  simpa using this
theorem IsR.getB {w : World} {a : Option Addr} {n c : Nat} {xs : List Bool} (h : IsR LB w (.slice a n c) xs) {i : Nat} {x : Bool} (hi : xs[i]? = some x) : ∃ b off, a = some ⟨b, off, Option.none⟩ ∧ w.cell? ⟨b, off + i, Option.none⟩ = some (.bool x) := by
  obtain ⟨b, off, e, hc⟩ := h.get 1 rfl hi
  refine ⟨b, off, e, ?_⟩
  have := hc 0 (.bool x) rfl
  simpa using this
/-- Which of the first n places are marked. -/
def mark (n : Nat) (l : List Nat) : List Value := (List.range n).map fun i => .bool (decide (i ∈ l))
theorem mark_len (n : Nat) (l : List Nat) : (mark n l).length = n := by simp [mark]
theorem mark_at {n i : Nat} {l : List Nat} (h : i < n) : (mark n l)[i]? = some (.bool (decide (i ∈ l))) := by simp [mark, h]
theorem mark_set {n i : Nat} {l : List Nat} : mark n (l ++ [i]) = (mark n l).set i (.bool true) := by
  apply List.ext_getElem?
  intro j
  rw [List.getElem?_set]
  by_cases hj : j < n
  · rw [mark_at hj]
    by_cases e : i = j
    · subst e
      simp [mark_len, hj]
    · rw [if_neg e, mark_at hj]
      simp [Ne.symm e]
  · rw [List.getElem?_eq_none (by rw [mark_len]; omega)]
    by_cases e : i = j
    · subst e
      simp [mark_len, hj]
    · rw [if_neg e, List.getElem?_eq_none (by rw [mark_len]; omega)]
theorem mark_zero (n : Nat) : madeCells #[.bool false] n = (mark n []).toArray := by
  apply Array.ext
  · simp [madeCells, mark]
  · intro i h1 h2
    simp [madeCells, mark, Nat.mod_one]
theorem make_bools (m : Nat) (hm : m ≤ 1000000) (w : World) : (Instr.makeSlice 23 (.int .i64 (m : Int)) (.int .i64 (m : Int))).run Try.prog w = .ok (.slice (some ⟨w.heap.size, 0, none⟩) m m) (w.alloc (.cells (mark m []).toArray 4)) := by
  obtain ⟨ti, hin, hz0, hz1, hz2⟩ := info_parts info_bl
  rw [run_make (P := Try.prog) w 23 4 ti (.bool false) Try.underlying23 hin hz0 .i64 .i64 m m (by omega) (by omega) (by rw [hz2]; omega) (by omega), hz1]
  simp only [Int.toNat_natCast, Nat.mul_one]
  rw [← mark_zero]
  rfl

set_option maxRecDepth 100000 in
set_option maxHeartbeats 6400000 in
theorem ppl_a {v : Value} {A : Ar} {p : Int} (h : p < 0) (w : World) (h1 : IsA w v A) : Calls Try.prog 24 #[v, .int .i64 p] w fun e w' => e = .returned (.bool false) ∧ Below w.heap.size w w' := by
  have HA := Lib.hid h1
  obtain ⟨v1, v2, rfl, g1, g2⟩ := id h1
  obtain ⟨a1, c1, rfl, hr1⟩ := id g1; obtain ⟨a2, c2, rfl, hr2⟩ := id g2
  have m1 := hr1.most; have r1 := hr1.room; have m2 := hr2.most; have r2 := hr2.room; have H1 := Lib.hid g1; have H2 := Lib.hid g2
  clear hr1 hr2 g1 g2 h1
  have d0 : decide (0 ≤ p) = false := decide_eq_false (by omega)
  clear HA H1 H2 h
  go_enter Try.func24, Try.ntmps24
  go_upto_region 1 with fail
  refine F_gen (F := fun W => Code.wp _ _ _ _ W) (J := fun W => Box W (w.heap.size) ([.slice a1 A.nx.length c1, .slice a2 A.us.length c2, .int .i64 A.fr]) ∧ Below w.heap.size w W) (And.intro (Box.newc rfl rfl) (by go_grown)) ?_
  intro w0 ⟨e_a, hB0⟩
  have hs0 := hB0.size
  have x_a0 := e_a; clear e_a
  have ca := (x_a0).c 0 _ rfl
  have za := (x_a0).lt
  go_wp2_with fail
  go_returns
  exact ⟨rfl, hB0⟩

set_option maxRecDepth 100000 in
set_option maxHeartbeats 6400000 in
theorem ppl_b {v : Value} {A : Ar} {p : Int} (h : 0 ≤ p) (h2 : (A.nx.length : Int) ≤ p) (w : World) (h1 : IsA w v A) : Calls Try.prog 24 #[v, .int .i64 p] w fun e w' => e = .returned (.bool false) ∧ Below w.heap.size w w' := by
  have HA := Lib.hid h1
  obtain ⟨v1, v2, rfl, g1, g2⟩ := id h1
  obtain ⟨a1, c1, rfl, hr1⟩ := id g1; obtain ⟨a2, c2, rfl, hr2⟩ := id g2
  have m1 := hr1.most; have r1 := hr1.room; have m2 := hr2.most; have r2 := hr2.room; have H1 := Lib.hid g1; have H2 := Lib.hid g2
  clear hr1 hr2 g1 g2 h1
  have d0 : decide (0 ≤ p) = true := decide_eq_true (by omega)
  have d1 : decide (p < (A.nx.length : Int)) = false := decide_eq_false (by omega)
  clear HA H1 H2 h h2
  go_enter Try.func24, Try.ntmps24
  go_upto_region 1 with fail
  refine F_gen (F := fun W => Code.wp _ _ _ _ W) (J := fun W => Box W (w.heap.size) ([.slice a1 A.nx.length c1, .slice a2 A.us.length c2, .int .i64 A.fr]) ∧ Below w.heap.size w W) (And.intro (Box.newc rfl rfl) (by go_grown)) ?_
  intro w0 ⟨e_a, hB0⟩
  have hs0 := hB0.size
  have x_a0 := e_a; clear e_a
  have ca := (x_a0).c 0 _ rfl
  have za := (x_a0).lt
  go_wp2_with fail
  go_returns
  exact ⟨rfl, hB0⟩

set_option maxRecDepth 100000 in
set_option maxHeartbeats 6400000 in
theorem ppl_c {v : Value} {A : Ar} {p : Int} (h : 0 ≤ p) (h2 : p < (A.nx.length : Int)) (w : World) (h1 : IsA w v A) : Calls Try.prog 24 #[v, .int .i64 p] w fun e w' => e = .returned (.bool true) ∧ Below w.heap.size w w' := by
  have HA := Lib.hid h1
  obtain ⟨v1, v2, rfl, g1, g2⟩ := id h1
  obtain ⟨a1, c1, rfl, hr1⟩ := id g1; obtain ⟨a2, c2, rfl, hr2⟩ := id g2
  have m1 := hr1.most; have r1 := hr1.room; have m2 := hr2.most; have r2 := hr2.room; have H1 := Lib.hid g1; have H2 := Lib.hid g2
  clear hr1 hr2 g1 g2 h1
  have d0 : decide (0 ≤ p) = true := decide_eq_true (by omega)
  have d1 : decide (p < (A.nx.length : Int)) = true := decide_eq_true (by omega)
  clear HA H1 H2 h h2
  go_enter Try.func24, Try.ntmps24
  go_upto_region 1 with fail
  refine F_gen (F := fun W => Code.wp _ _ _ _ W) (J := fun W => Box W (w.heap.size) ([.slice a1 A.nx.length c1, .slice a2 A.us.length c2, .int .i64 A.fr]) ∧ Below w.heap.size w W) (And.intro (Box.newc rfl rfl) (by go_grown)) ?_
  intro w0 ⟨e_a, hB0⟩
  have hs0 := hB0.size
  have x_a0 := e_a; clear e_a
  have ca := (x_a0).c 0 _ rfl
  have za := (x_a0).lt
  go_wp2_with fail
  go_returns
  exact ⟨rfl, hB0⟩

theorem ppl_is {v : Value} {A : Ar} {p : Int} {b : Bool} (w : World) (h1 : IsA w v A) (hb : b = true ↔ 0 ≤ p ∧ p < (A.nx.length : Int)) : Calls Try.prog 24 #[v, .int .i64 p] w fun e w' => e = .returned (.bool b) ∧ Below w.heap.size w w' := by
  by_cases h : p < 0
  · rw [bool_eq12 hb (c := false) ⟨fun h => (Bool.false_ne_true h).elim, fun h => by omega⟩]
    exact ppl_a h w h1
  · by_cases h2 : (A.nx.length : Int) ≤ p
    · rw [bool_eq12 hb (c := false) ⟨fun h => (Bool.false_ne_true h).elim, fun h => by omega⟩]
      exact ppl_b (by omega) h2 w h1
    · rw [hb.2 ⟨by omega, by omega⟩]
      exact ppl_c (by omega) (by omega) w h1

set_option maxRecDepth 100000 in
set_option maxHeartbeats 6400000 in
theorem pchk_a {v : Value} {A : Ar} (h : A.nx.length < 1) (w : World) (h1 : IsA w v A) : Calls Try.prog 19 #[v] w fun e w' => e = .returned (.int .i64 8) ∧ Below w.heap.size w w' := by
  have HA := Lib.hid h1
  obtain ⟨v1, v2, rfl, g1, g2⟩ := id h1
  obtain ⟨a1, c1, rfl, hr1⟩ := id g1; obtain ⟨a2, c2, rfl, hr2⟩ := id g2
  have m1 := hr1.most; have r1 := hr1.room; have m2 := hr2.most; have r2 := hr2.room; have H1 := Lib.hid g1; have H2 := Lib.hid g2
  clear hr1 hr2 g1 g2 h1
  have d0 : decide ((A.nx.length : Int) < 1) = true := decide_eq_true (by omega)
  clear HA H1 H2 h
  go_enter Try.func19, Try.ntmps19
  go_upto_region 1 with fail
  refine F_gen (F := fun W => Code.wp _ _ _ _ W) (J := fun W => Box W (w.heap.size) ([.slice a1 A.nx.length c1, .slice a2 A.us.length c2, .int .i64 A.fr]) ∧ Below w.heap.size w W) (And.intro (Box.newc rfl rfl) (by go_grown)) ?_
  intro w0 ⟨e_a, hB0⟩
  have hs0 := hB0.size
  have x_a0 := e_a; clear e_a
  have ca := (x_a0).c 0 _ rfl
  have za := (x_a0).lt
  have cb := (x_a0).c 1 _ rfl
  have zb := (x_a0).lt
  go_wp2_with fail
  go_returns
  exact ⟨rfl, hB0⟩

set_option maxRecDepth 100000 in
set_option maxHeartbeats 6400000 in
theorem pchk_b {v : Value} {A : Ar} (h : 16 < A.nx.length) (w : World) (h1 : IsA w v A) : Calls Try.prog 19 #[v] w fun e w' => e = .returned (.int .i64 8) ∧ Below w.heap.size w w' := by
  have HA := Lib.hid h1
  obtain ⟨v1, v2, rfl, g1, g2⟩ := id h1
  obtain ⟨a1, c1, rfl, hr1⟩ := id g1; obtain ⟨a2, c2, rfl, hr2⟩ := id g2
  have m1 := hr1.most; have r1 := hr1.room; have m2 := hr2.most; have r2 := hr2.room; have H1 := Lib.hid g1; have H2 := Lib.hid g2
  clear hr1 hr2 g1 g2 h1
  have d0 : decide ((A.nx.length : Int) < 1) = false := decide_eq_false (by omega)
  have d1 : decide (16 < (A.nx.length : Int)) = true := decide_eq_true (by omega)
  clear HA H1 H2 h
  go_enter Try.func19, Try.ntmps19
  go_upto_region 1 with fail
  refine F_gen (F := fun W => Code.wp _ _ _ _ W) (J := fun W => Box W (w.heap.size) ([.slice a1 A.nx.length c1, .slice a2 A.us.length c2, .int .i64 A.fr]) ∧ Below w.heap.size w W) (And.intro (Box.newc rfl rfl) (by go_grown)) ?_
  intro w0 ⟨e_a, hB0⟩
  have hs0 := hB0.size
  have x_a0 := e_a; clear e_a
  have ca := (x_a0).c 0 _ rfl
  have za := (x_a0).lt
  have cb := (x_a0).c 1 _ rfl
  have zb := (x_a0).lt
  go_wp2_with fail
  go_returns
  exact ⟨rfl, hB0⟩

set_option maxRecDepth 100000 in
set_option maxHeartbeats 6400000 in
theorem pchk_c {v : Value} {A : Ar} (h : 1 ≤ A.nx.length ∧ A.nx.length ≤ 16) (h2 : A.us.length ≠ A.nx.length) (w : World) (h1 : IsA w v A) : Calls Try.prog 19 #[v] w fun e w' => e = .returned (.int .i64 8) ∧ Below w.heap.size w w' := by
  have HA := Lib.hid h1
  obtain ⟨v1, v2, rfl, g1, g2⟩ := id h1
  obtain ⟨a1, c1, rfl, hr1⟩ := id g1; obtain ⟨a2, c2, rfl, hr2⟩ := id g2
  have m1 := hr1.most; have r1 := hr1.room; have m2 := hr2.most; have r2 := hr2.room; have H1 := Lib.hid g1; have H2 := Lib.hid g2
  clear hr1 hr2 g1 g2 h1
  have d0 : decide ((A.nx.length : Int) < 1) = false := decide_eq_false (by omega)
  have d1 : decide (16 < (A.nx.length : Int)) = false := decide_eq_false (by omega)
  have d9 : ((A.us.length : Int) != (A.nx.length : Int)) = true := by rw [bne_iff_ne]; omega
  clear HA H1 H2 h h2
  go_enter Try.func19, Try.ntmps19
  go_upto_region 1 with fail
  refine F_gen (F := fun W => Code.wp _ _ _ _ W) (J := fun W => Box W (w.heap.size) ([.slice a1 A.nx.length c1, .slice a2 A.us.length c2, .int .i64 A.fr]) ∧ Below w.heap.size w W) (And.intro (Box.newc rfl rfl) (by go_grown)) ?_
  intro w0 ⟨e_a, hB0⟩
  have hs0 := hB0.size
  have x_a0 := e_a; clear e_a
  have ca := (x_a0).c 0 _ rfl
  have za := (x_a0).lt
  have cb := (x_a0).c 1 _ rfl
  have zb := (x_a0).lt
  go_wp2_with fail
  go_returns
  exact ⟨rfl, hB0⟩

set_option maxRecDepth 100000 in
set_option maxHeartbeats 6400000 in
theorem pchk_d {v : Value} {A : Ar} {q : Int} (hp : 1 ≤ A.nx.length) (hm : A.nx.length ≤ 16) (hu : A.us.length = A.nx.length) (hq : ChkA A q) (w : World) (h1 : IsA w v A) : Calls Try.prog 19 #[v] w fun e w' => e = .returned (.int .i64 q) ∧ Below w.heap.size w w' := by
  have HA := Lib.hid h1
  obtain ⟨v1, v2, rfl, g1, g2⟩ := id h1
  obtain ⟨a1, c1, rfl, hr1⟩ := id g1; obtain ⟨a2, c2, rfl, hr2⟩ := id g2
  have m1 := hr1.most; have r1 := hr1.room; have m2 := hr2.most; have r2 := hr2.room; have H1 := Lib.hid g1; have H2 := Lib.hid g2
  clear hr1 hr2 g1 g2 h1
  obtain ⟨n, hn⟩ : ∃ n, A.nx.length = n := ⟨_, rfl⟩
  rw [hu] at r2 H2 HA ⊢; rw [hn] at hu hp hm r1 r2 H1 H2 HA ⊢
  have HN := Lib.hid hn; have HU := Lib.hid hu; have HQ := Lib.hid hq; clear hn hu hq
  have MB := fun W => make_bools n (by omega) W
  have PL := fun (W : World) (p : Int) (b : Bool) (h : IsA W (.agg #[.slice a1 n c1, .slice a2 n c2, .int .i64 A.fr]) A) (hb : b = true ↔ 0 ≤ p ∧ p < (n : Int)) => ppl_is (p := p) (b := b) W h (by rw [HN.out]; exact hb)
  have d0 : decide ((n : Int) < 1) = false := decide_eq_false (by omega); have d1 : decide (16 < (n : Int)) = false := decide_eq_false (by omega)
  have SA := Lib.hid (size_ar (.slice a1 n c1) (.slice a2 n c2) (.int .i64 A.fr))
  go_enter Try.func19, Try.ntmps19
  go_upto_region 1 with fail
  refine F_gen (F := fun W => Code.wp _ _ _ _ W) (J := fun W => Box W (w.heap.size) ([.slice a1 n c1, .slice a2 n c2, .int .i64 A.fr]) ∧ Below w.heap.size w W) (And.intro (Box.newc rfl rfl) (by go_grown)) ?_
  intro w0 ⟨e_a, hB0⟩
  have hs0 := hB0.size
  have x_a0 := e_a; clear e_a
  have hlo := x_a0.lt
  have ca := (x_a0).c 0 _ rfl
  have za := (x_a0).lt
  have cb := (x_a0).c 1 _ rfl
  have zb := (x_a0).lt
  go_upto_region 5 with fail
  clear d0 d1 ca za cb zb MB
  refine F_gen (F := fun W => Code.wp _ _ _ _ W) (J := fun W => Box W (w.heap.size) ([.slice a1 n c1, .slice a2 n c2, .int .i64 A.fr]) ∧ Box W (w0.heap.size) (mark n []) ∧ Below w.heap.size w W) (And.intro (x_a0.alloc _) (And.intro (Box.newc (l := mark n []) rfl rfl) (hB0.alloc (by first | exact hs0 | (simp; omega)) _))) ?_
  intro w1 ⟨x_a1, x_l1, hB1⟩
  clear x_a0 hB0 hs0
  have hs1 := hB1.size
  have ca := (x_a1).c 2 _ rfl
  have za := (x_a1).lt
  go_wp2_with fail
  clear ca za
  go_loopg [5] n (fun k p5 wr => ∃ (l : List Nat) (p : Int), p5 = .int .i64 p ∧ k = n - l.length ∧ Hid (Run A l p) ∧ Box wr w.heap.size [.slice a1 n c1, .slice a2 n c2, .int .i64 A.fr] ∧ Box wr w0.heap.size (mark n l) ∧ Below w.heap.size w wr)
  case atStart => exact ⟨[], A.fr, rfl, rfl, Lib.hid (Run.start A), x_a1, x_l1, hB1⟩
  case round =>
    clear x_a1 x_l1 hB1 hs1
    obtain ⟨l, p, rfl, rfl, HR, x_a, x_l, hB⟩ := hrel
    have hs := hB.size; have ltl := x_l.lt
    by_cases hp1 : p = -1
    case neg =>
      have d0 : (p != -1) = true := by rw [bne_iff_ne]; exact hp1
      by_cases hpl : 0 ≤ p ∧ p < (n : Int)
      case neg =>
        have HX := Lib.hid (show (8 : Int) = q from ChkA.uniq (ChkA.bad fun l' => HR.out.out hp1 (by rw [HN.out]; omega)) HQ.out)
        go_wp2_with (refine wpList_load_box9 rfl _ _ rfl x_a rfl Try.underlying25 rfl SA.out ?_)
        refine (PL _ p false (HA.out.below hB) ⟨fun h => (Bool.false_ne_true h).elim, fun h => absurd h hpl⟩).mono ?_
        rintro e w2 ⟨rfl, hb⟩
        have x_a2 := Box.below x_a hb; have x_l2 := Box.below x_l hb; have hB2 := below_thru hB hb; have hs2 := hB2.size
        clear x_a x_l hB hb hs ltl
        clear hpl HR
        go_wp2_with fail
        go_returns
        exact ⟨ret_i12 HX.out, hB2⟩
      case pos =>
        obtain ⟨i, rfl⟩ : ∃ i : Nat, p = (i : Int) := ⟨p.toNat, by omega⟩
        have hin : i < n := by omega
        go_wp2_with (refine wpList_load_box9 rfl _ _ rfl x_a rfl Try.underlying25 rfl SA.out ?_)
        refine (PL _ (i : Int) true (HA.out.below hB) ⟨fun _ => hpl, fun _ => rfl⟩).mono ?_
        rintro e w2 ⟨rfl, hb⟩
        have x_a2 := Box.below x_a hb; have x_l2 := Box.below x_l hb; have hB2 := below_thru hB hb; have hs2 := hB2.size
        clear x_a x_l hB hb hs ltl
        obtain ⟨x, hx⟩ : ∃ x, A.nx[i]? = some x := ⟨_, List.getElem?_eq_getElem (by rw [HN.out]; exact hin)⟩
        obtain ⟨u, hu⟩ : ∃ u, A.us[i]? = some u := ⟨_, List.getElem?_eq_getElem (by rw [HU.out]; exact hin)⟩
        obtain ⟨b1, o1, rfl, e1⟩ := H1.out.getI hx
        obtain ⟨b2, o2, rfl, e2⟩ := H2.out.getB hu
        have f1 := cell_below hB2 e1; have f2 := cell_below hB2 e2; have f3 := x_l2.c i _ (mark_at hin)
        have ca := x_a2.c 0 _ rfl; have cb := x_a2.c 1 _ rfl; have za := x_a2.lt; have z1 := lt_of_cell f1; have z2 := lt_of_cell f2; have z3 := x_l2.lt
        have i0 : (0 : Int) ≤ (i : Int) := (by omega); have i1 : (i : Int) < (n : Int) := (by omega)
        have E1 := Lib.hid e1; clear e1 e2 hpl hp1
        cases u with
        | true =>
          have HX := Lib.hid (show (8 : Int) = q from ChkA.uniq (ChkA.bad fun l' => HR.out.taken hu) HQ.out)
          clear HR hx hu
          go_wp2_with fail
          go_returns
          exact ⟨ret_i12 HX.out, hB2⟩
        | false =>
          by_cases hil : i ∈ l
          case pos =>
            have HX := Lib.hid (show (8 : Int) = q from ChkA.uniq (ChkA.bad fun l' => HR.out.twice hil) HQ.out)
            rw [decide_eq_true hil] at f3
            clear HR hx hu hil
            go_wp2_with fail
            go_returns
            exact ⟨ret_i12 HX.out, hB2⟩
          case neg =>
            have HR2 := Lib.hid (HR.out.step hx hu hil)
            have HG := Lib.hid (show n - (l ++ [i]).length < n - l.length from by
              have := nodup_le n (l ++ [i]) HR2.out.nodup (fun j hj => by have := HR2.out.lt hj; rw [HN.out] at this; exact this)
              rw [List.length_append, List.length_singleton] at this ⊢
              omega)
            rw [decide_eq_false hil] at f3
            have ML := Lib.hid (mark_len n l); have MS := Lib.hid (mark_set (n := n) (i := i) (l := l))
            have HI := Lib.hid (show i < (mark n l).length by rw [ML.out]; exact hin)
            clear HR hx hu hil hin
            go_upto_region 7 with (refine wpList_store_cell (k := i) (ws := mark n (l ++ [i])) (v := .bool true) rfl _ _ _ rfl x_l2 rfl rfl rfl rfl size_bl HI.out MS.out ?_; intro W3 hW3)
            have x_a3 := hW3.past _ _ (by omega) x_a2; have x_l3 := hW3.box; have hB3 := hW3.below _ _ (by omega) hB2
            clear f1 f2 f3 ca cb za z1 z2 z3 x_a2 x_l2 hs2
            have hs3 := hB3.size
            have f1 := cell_below hB3 (show w.cell? ⟨b1, o1 + i, none⟩ = some (.int .i64 x) from E1.out); have z1 := lt_of_cell f1; have ca := x_a3.c 0 _ rfl; have za := x_a3.lt
            go_wp2_with fail
            go_roundg (n - (l ++ [i]).length)
            case measure => exact HG.out
            case rel => exact ⟨_, x, rfl, rfl, HR2, x_a3, x_l3, hB3⟩
    case pos =>
      subst hp1
      have ca := x_a.c 1 _ rfl; have za := x_a.lt
      go_wp2_with fail
      clear ca za
      go_loopw [58] (fun i58 wr => ∃ k : Nat, k ≤ n ∧ i58 = .int .i64 k ∧ Hid (Seen A l k) ∧ Box wr w.heap.size [.slice a1 n c1, .slice a2 n c2, .int .i64 A.fr] ∧ Box wr w0.heap.size (mark n l) ∧ Below w.heap.size w wr) (fun i58 _ => n - (intOf i58).toNat)
      case atStart => exact ⟨0, Nat.zero_le _, rfl, Lib.hid (Seen.zero A l), x_a, x_l, hB⟩
      case round =>
        clear x_a x_l hB hs ltl
        obtain ⟨k, hk, rfl, HS, x_a, x_l, hB⟩ := hrel
        have hs := hB.size
        by_cases hlt : k < n
        case neg =>
          have HX := Lib.hid (show (0 : Int) = q from ChkA.uniq (ChkA.good (HR.out.valid (by rw [HN.out]; omega) (by rw [HN.out]; omega) (by rw [HU.out, HN.out]) HS.out (by rw [HU.out]; omega))) HQ.out)
          clear HS HR
          have hd : decide ((k : Int) < (n : Int)) = false := decide_eq_false (by omega)
          go_wp2_with fail
          go_returns
          exact ⟨ret_i12 HX.out, hB⟩
        case pos =>
          obtain ⟨x, hx⟩ : ∃ x, A.nx[k]? = some x := ⟨_, List.getElem?_eq_getElem (by rw [HN.out]; exact hlt)⟩
          obtain ⟨u, hu⟩ : ∃ u, A.us[k]? = some u := ⟨_, List.getElem?_eq_getElem (by rw [HU.out]; exact hlt)⟩
          obtain ⟨b1, o1, rfl, e1⟩ := H1.out.getI hx
          obtain ⟨b2, o2, rfl, e2⟩ := H2.out.getB hu
          have f1 := cell_below hB e1; have f2 := cell_below hB e2; have f3 := x_l.c k _ (mark_at hlt)
          have ca := x_a.c 0 _ rfl; have cb := x_a.c 1 _ rfl; have za := x_a.lt; have z1 := lt_of_cell f1; have z2 := lt_of_cell f2; have z3 := x_l.lt
          have i0 : (0 : Int) ≤ (k : Int) := (by omega); have i1 : (k : Int) < (n : Int) := (by omega)
          clear e1 e2
          cases u with
          | true =>
            have hnl : k ∉ l := fun q => by
              have := HR.out.free k q
              rw [hu] at this
              cases this
            by_cases hx1 : x = -1
            case pos =>
              subst hx1
              have HS2 := Lib.hid (HS.out.succ (by rw [hu]; simp [hnl]) (fun _ => hx))
              clear HS hx hu hnl f3
              go_wp2_with fail
              go_roundw
              case rel => exact ⟨k + 1, by omega, by go_num, HS2, x_a, x_l, hB⟩
              case measure => simp [intOf]; omega
            case neg =>
              have d2 : (x != -1) = true := by rw [bne_iff_ne]; exact hx1
              have HX := Lib.hid (show (8 : Int) = q from ChkA.uniq (ChkA.bad fun l' hv => by
                obtain rfl := HR.out.fin hv
                have := hv.next k (by rw [HN.out]; exact hlt) hnl
                rw [hx] at this
                exact hx1 (by simpa using this)) HQ.out)
              clear HR HS hx hu hnl hx1 f3
              go_wp2_with fail
              go_returns
              exact ⟨ret_i12 HX.out, hB⟩
          | false =>
            by_cases hkl : k ∈ l
            case pos =>
              rw [decide_eq_true hkl] at f3
              have HS2 := Lib.hid (HS.out.succ (by rw [hu]; simp [hkl]) (fun h => absurd hkl h))
              clear HS hx hu hkl
              go_wp2_with fail
              go_roundw
              case rel => exact ⟨k + 1, by omega, by go_num, HS2, x_a, x_l, hB⟩
              case measure => simp [intOf]; omega
            case neg =>
              rw [decide_eq_false hkl] at f3
              have HX := Lib.hid (show (8 : Int) = q from ChkA.uniq (ChkA.bad fun l' hv => by
                obtain rfl := HR.out.fin hv
                have := hv.used k (by rw [HN.out]; exact hlt)
                rw [hu] at this
                simp [hkl] at this) HQ.out)
              clear HR HS hx hu hkl
              go_wp2_with fail
              go_returns
              exact ⟨ret_i12 HX.out, hB⟩

theorem pchk_is {v : Value} {A : Ar} {q : Int} (w : World) (h1 : IsA w v A) (hq : ChkA A q) : Calls Try.prog 19 #[v] w fun e w' => e = .returned (.int .i64 q) ∧ Below w.heap.size w w' := by
  by_cases h : A.nx.length < 1
  · rw [hq.uniq (ChkA.big (Or.inl h))]
    exact pchk_a h w h1
  · by_cases h2 : 16 < A.nx.length
    · rw [hq.uniq (ChkA.big (Or.inr (Or.inl h2)))]
      exact pchk_b h2 w h1
    · by_cases h3 : A.us.length = A.nx.length
      · exact pchk_d (by omega) (by omega) h3 hq w h1
      · rw [hq.uniq (ChkA.big (Or.inr (Or.inr h3)))]
        exact pchk_c ⟨by omega, by omega⟩ h3 w h1

end Go.Proofs.Ytepimljjbmoojaa
