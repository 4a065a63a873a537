/-
  Package lru, walked: isPlace, isListed, Check.
-/
import Derived.Test.YtjhlpkkefdohjaaLrMath
import Derived.Test.YtjhlpkkefdohjaaArE
namespace Go.Proofs.Ytjhlpkkefdohjaa
open Go.RowKit

theorem size_od (a b c d : Value) : (Try.prog.info? 24).map (·.size) = some [a, b, c, d].length := by show _ = some 4; kernel_rfl
theorem one_od (a b : Option Addr) (n m c d : Nat) (x y : Int) : ([Value.slice a n c, Value.slice b m d, .int .i64 x, .int .i64 y] : List Value).toArray.all (·.oneCell') = true := all_oneCell_toArray (fun u hu => by
  simp at hu
  rcases hu with rfl | rfl | rfl | rfl <;> rfl)
def od0 : List Value := [.slice none 0 0, .slice none 0 0, .int .i64 0, .int .i64 0]
theorem VO.listed {O : Od} {l : List Nat} (_h : VO O l) {i : Nat} : i ∈ l ↔ hdO l = (i : Int) ∨ prvO (-1) l i ≠ -1 := by
  constructor
  · intro hi
    obtain ⟨a, b, e⟩ := List.append_of_mem hi
    have hn := _h.nodup
    rw [e] at hn ⊢
    have hia : i ∉ a := fun q => (List.nodup_append.1 hn).2.2 i q i List.mem_cons_self rfl
    rw [prvO_mid hia]
    cases a with
    | nil => exact Or.inl rfl
    | cons c a =>
      refine Or.inr fun q => ?_
      have := lstO_none.1 q
      cases this
  · rintro (h | h)
    · exact Classical.byContradiction fun q => hdO_ne q h
    · exact Classical.byContradiction fun q => h (prvO_not q)

set_option maxRecDepth 100000 in
set_option maxHeartbeats 6400000 in
theorem plpl_a {v : Value} {O : Od} {p : Int} (h : p < 0) (w : World) (h1 : IsO w v O) : Calls Try.prog 30 #[v, .int .i64 p] w fun e w' => e = .returned (.bool false) ∧ Below w.heap.size w w' := by
  have HO := Lib.hid h1
  obtain ⟨v1, v2, rfl, g1, g2⟩ := id h1
  obtain ⟨a1, c1, rfl, hr1⟩ := id g1; obtain ⟨a2, c2, rfl, hr2⟩ := id g2
  have m1 := hr1.most; have r1 := hr1.room; have m2 := hr2.most; have r2 := hr2.room; have H1 := Lib.hid g1; have H2 := Lib.hid g2
  clear hr1 hr2 g1 g2 h1
  have d0 : decide (0 ≤ p) = false := decide_eq_false (by omega)
  clear HO H1 H2 h
  go_enter Try.func30, Try.ntmps30
  go_upto_region 1 with fail
  refine F_gen (F := fun W => Code.wp _ _ _ _ W) (J := fun W => Box W (w.heap.size) ([.slice a1 O.pv.length c1, .slice a2 O.nx.length c2, .int .i64 O.hd, .int .i64 O.tl]) ∧ Below w.heap.size w W) (And.intro (Box.newc rfl rfl) (by go_grown)) ?_
  intro w0 ⟨e_a, hB0⟩
  have hs0 := hB0.size
  have x_a0 := e_a; clear e_a
  have ca := (x_a0).c 0 _ rfl
  have za := (x_a0).lt
  go_wp2_with fail
  go_returns
  exact ⟨rfl, hB0⟩

set_option maxRecDepth 100000 in
set_option maxHeartbeats 6400000 in
theorem plpl_b {v : Value} {O : Od} {p : Int} (h : 0 ≤ p) (h2 : (O.pv.length : Int) ≤ p) (w : World) (h1 : IsO w v O) : Calls Try.prog 30 #[v, .int .i64 p] w fun e w' => e = .returned (.bool false) ∧ Below w.heap.size w w' := by
  have HO := Lib.hid h1
  obtain ⟨v1, v2, rfl, g1, g2⟩ := id h1
  obtain ⟨a1, c1, rfl, hr1⟩ := id g1; obtain ⟨a2, c2, rfl, hr2⟩ := id g2
  have m1 := hr1.most; have r1 := hr1.room; have m2 := hr2.most; have r2 := hr2.room; have H1 := Lib.hid g1; have H2 := Lib.hid g2
  clear hr1 hr2 g1 g2 h1
  have d0 : decide (0 ≤ p) = true := decide_eq_true (by omega)
  have d1 : decide (p < (O.pv.length : Int)) = false := decide_eq_false (by omega)
  clear HO H1 H2 h h2
  go_enter Try.func30, Try.ntmps30
  go_upto_region 1 with fail
  refine F_gen (F := fun W => Code.wp _ _ _ _ W) (J := fun W => Box W (w.heap.size) ([.slice a1 O.pv.length c1, .slice a2 O.nx.length c2, .int .i64 O.hd, .int .i64 O.tl]) ∧ Below w.heap.size w W) (And.intro (Box.newc rfl rfl) (by go_grown)) ?_
  intro w0 ⟨e_a, hB0⟩
  have hs0 := hB0.size
  have x_a0 := e_a; clear e_a
  have ca := (x_a0).c 0 _ rfl
  have za := (x_a0).lt
  go_wp2_with fail
  go_returns
  exact ⟨rfl, hB0⟩

set_option maxRecDepth 100000 in
set_option maxHeartbeats 6400000 in
theorem plpl_c {v : Value} {O : Od} {p : Int} (h : 0 ≤ p) (h2 : p < (O.pv.length : Int)) (w : World) (h1 : IsO w v O) : Calls Try.prog 30 #[v, .int .i64 p] w fun e w' => e = .returned (.bool true) ∧ Below w.heap.size w w' := by
  have HO := Lib.hid h1
  obtain ⟨v1, v2, rfl, g1, g2⟩ := id h1
  obtain ⟨a1, c1, rfl, hr1⟩ := id g1; obtain ⟨a2, c2, rfl, hr2⟩ := id g2
  have m1 := hr1.most; have r1 := hr1.room; have m2 := hr2.most; have r2 := hr2.room; have H1 := Lib.hid g1; have H2 := Lib.hid g2
  clear hr1 hr2 g1 g2 h1
  have d0 : decide (0 ≤ p) = true := decide_eq_true (by omega)
  have d1 : decide (p < (O.pv.length : Int)) = true := decide_eq_true (by omega)
  clear HO H1 H2 h h2
  go_enter Try.func30, Try.ntmps30
  go_upto_region 1 with fail
  refine F_gen (F := fun W => Code.wp _ _ _ _ W) (J := fun W => Box W (w.heap.size) ([.slice a1 O.pv.length c1, .slice a2 O.nx.length c2, .int .i64 O.hd, .int .i64 O.tl]) ∧ Below w.heap.size w W) (And.intro (Box.newc rfl rfl) (by go_grown)) ?_
  intro w0 ⟨e_a, hB0⟩
  have hs0 := hB0.size
  have x_a0 := e_a; clear e_a
  have ca := (x_a0).c 0 _ rfl
  have za := (x_a0).lt
  go_wp2_with fail
  go_returns
  exact ⟨rfl, hB0⟩

theorem plpl_is {v : Value} {O : Od} {p : Int} {b : Bool} (w : World) (h1 : IsO w v O) (hb : b = true ↔ 0 ≤ p ∧ p < (O.pv.length : Int)) : Calls Try.prog 30 #[v, .int .i64 p] w fun e w' => e = .returned (.bool b) ∧ Below w.heap.size w w' := by
  by_cases h : p < 0
  · rw [bool_eq12 hb (c := false) ⟨fun h => (Bool.false_ne_true h).elim, fun h => by omega⟩]
    exact plpl_a h w h1
  · by_cases h2 : (O.pv.length : Int) ≤ p
    · rw [bool_eq12 hb (c := false) ⟨fun h => (Bool.false_ne_true h).elim, fun h => by omega⟩]
      exact plpl_b (by omega) h2 w h1
    · rw [hb.2 ⟨by omega, by omega⟩]
      exact plpl_c (by omega) (by omega) w h1

set_option maxRecDepth 100000 in
set_option maxHeartbeats 6400000 in
theorem plis_a {v : Value} {O : Od} {i : Nat} (h : O.hd = (i : Int)) (w : World) (h1 : IsO w v O) : Calls Try.prog 31 #[v, .int .i64 (i : Int)] w fun e w' => e = .returned (.bool true) ∧ Below w.heap.size w w' := by
  have HO := Lib.hid h1
  obtain ⟨v1, v2, rfl, g1, g2⟩ := id h1
  obtain ⟨a1, c1, rfl, hr1⟩ := id g1; obtain ⟨a2, c2, rfl, hr2⟩ := id g2
  have m1 := hr1.most; have r1 := hr1.room; have m2 := hr2.most; have r2 := hr2.room; have H1 := Lib.hid g1; have H2 := Lib.hid g2
  clear hr1 hr2 g1 g2 h1
  have d0 : ((i : Int) == O.hd) = true := by rw [beq_iff_eq]; omega
  clear HO H1 H2 h
  go_enter Try.func31, Try.ntmps31
  go_upto_region 1 with fail
  refine F_gen (F := fun W => Code.wp _ _ _ _ W) (J := fun W => Box W (w.heap.size) ([.slice a1 O.pv.length c1, .slice a2 O.nx.length c2, .int .i64 O.hd, .int .i64 O.tl]) ∧ Below w.heap.size w W) (And.intro (Box.newc rfl rfl) (by go_grown)) ?_
  intro w0 ⟨e_a, hB0⟩
  have hs0 := hB0.size
  have x_a0 := e_a; clear e_a
  have ca := (x_a0).c 2 _ rfl
  have za := (x_a0).lt
  go_wp2_with fail
  go_returns
  exact ⟨rfl, hB0⟩

set_option maxRecDepth 100000 in
set_option maxHeartbeats 6400000 in
theorem plis_b {v : Value} {O : Od} {i : Nat} {y : Int} {b : Bool} (h : O.hd ≠ (i : Int)) (hi : i < O.pv.length) (hy : O.pv[i]? = some y) (hb : b = true ↔ y ≠ -1) (w : World) (h1 : IsO w v O) : Calls Try.prog 31 #[v, .int .i64 (i : Int)] w fun e w' => e = .returned (.bool b) ∧ Below w.heap.size w w' := by
  have HO := Lib.hid h1
  obtain ⟨v1, v2, rfl, g1, g2⟩ := id h1
  obtain ⟨a1, c1, rfl, hr1⟩ := id g1; obtain ⟨a2, c2, rfl, hr2⟩ := id g2
  have m1 := hr1.most; have r1 := hr1.room; have m2 := hr2.most; have r2 := hr2.room; have H1 := Lib.hid g1; have H2 := Lib.hid g2
  clear hr1 hr2 g1 g2 h1
  have d0 : ((i : Int) == O.hd) = false := by rw [beq_eq_false_iff_ne]; omega
  obtain ⟨b1, o1, rfl, f1⟩ := H1.out.getI hy; have F1 := Lib.hid f1; have z1 := lt_of_cell f1; clear f1
  have HB := Lib.hid (show (y != -1) = b from bool_eq12 (bne_iff_ne (a := y) (b := -1)) hb)
  obtain ⟨n, hn⟩ : ∃ n, O.pv.length = n := ⟨_, rfl⟩; rw [hn] at hi r1 ⊢; have i0 : (0 : Int) ≤ (i : Int) := (by omega); have i1 : (i : Int) < (n : Int) := (by omega); clear HO H1 H2 h hn hy hb hi
  go_enter Try.func31, Try.ntmps31
  go_upto_region 1 with fail
  refine F_gen (F := fun W => Code.wp _ _ _ _ W) (J := fun W => Box W (w.heap.size) ([.slice (some ⟨b1, o1, none⟩) n c1, .slice a2 O.nx.length c2, .int .i64 O.hd, .int .i64 O.tl]) ∧ Below w.heap.size w W) (And.intro (Box.newc rfl rfl) (by go_grown)) ?_
  intro w0 ⟨e_a, hB0⟩
  have hs0 := hB0.size
  have x_a0 := e_a; clear e_a
  have ca := (x_a0).c 2 _ rfl
  have za := (x_a0).lt
  have cb := (x_a0).c 0 _ rfl
  have zb := (x_a0).lt
  have f1 := cell_below hB0 F1.out; have z2 := lt_of_cell f1; have hb9 := HB.out
  go_wp2_with fail
  go_returns
  exact ⟨rfl, hB0⟩

theorem plis_is {v : Value} {O : Od} {l : List Nat} {i : Nat} {b : Bool} (hV : VO O l) (hi : i < O.pv.length) (w : World) (h1 : IsO w v O) (hb : b = true ↔ i ∈ l) : Calls Try.prog 31 #[v, .int .i64 (i : Int)] w fun e w' => e = .returned (.bool b) ∧ Below w.heap.size w w' := by
  by_cases h : O.hd = (i : Int)
  · rw [hb.2 (hV.listed.2 (Or.inl (by rw [← hV.hd]; exact h)))]
    exact plis_a h w h1
  · refine plis_b h hi (hV.pv hi) (hb.trans ?_) w h1
    rw [hV.listed, ← hV.hd]
    exact ⟨fun q => q.resolve_left h, Or.inr⟩

set_option maxRecDepth 100000 in
set_option maxHeartbeats 6400000 in
theorem plchk_a {v : Value} {O : Od} (h : O.pv.length < 1) (w : World) (h1 : IsO w v O) : Calls Try.prog 21 #[v] w fun e w' => e = .returned (.int .i64 8) ∧ Below w.heap.size w w' := by
  have HO := Lib.hid h1
  obtain ⟨v1, v2, rfl, g1, g2⟩ := id h1
  obtain ⟨a1, c1, rfl, hr1⟩ := id g1; obtain ⟨a2, c2, rfl, hr2⟩ := id g2
  have m1 := hr1.most; have r1 := hr1.room; have m2 := hr2.most; have r2 := hr2.room; have H1 := Lib.hid g1; have H2 := Lib.hid g2
  clear hr1 hr2 g1 g2 h1
  have d0 : decide ((O.pv.length : Int) < 1) = true := decide_eq_true (by omega)
  clear HO H1 H2 h
  go_enter Try.func21, Try.ntmps21
  go_upto_region 1 with fail
  refine F_gen (F := fun W => Code.wp _ _ _ _ W) (J := fun W => Box W (w.heap.size) ([.slice a1 O.pv.length c1, .slice a2 O.nx.length c2, .int .i64 O.hd, .int .i64 O.tl]) ∧ Below w.heap.size w W) (And.intro (Box.newc rfl rfl) (by go_grown)) ?_
  intro w0 ⟨e_a, hB0⟩
  have hs0 := hB0.size
  have x_a0 := e_a; clear e_a
  have ca := (x_a0).c 0 _ rfl
  have za := (x_a0).lt
  have cb := (x_a0).c 1 _ rfl
  have zb := (x_a0).lt
  go_wp2_with fail
  go_returns
  exact ⟨rfl, hB0⟩

set_option maxRecDepth 100000 in
set_option maxHeartbeats 6400000 in
theorem plchk_b {v : Value} {O : Od} (h : 16 < O.pv.length) (w : World) (h1 : IsO w v O) : Calls Try.prog 21 #[v] w fun e w' => e = .returned (.int .i64 8) ∧ Below w.heap.size w w' := by
  have HO := Lib.hid h1
  obtain ⟨v1, v2, rfl, g1, g2⟩ := id h1
  obtain ⟨a1, c1, rfl, hr1⟩ := id g1; obtain ⟨a2, c2, rfl, hr2⟩ := id g2
  have m1 := hr1.most; have r1 := hr1.room; have m2 := hr2.most; have r2 := hr2.room; have H1 := Lib.hid g1; have H2 := Lib.hid g2
  clear hr1 hr2 g1 g2 h1
  have d0 : decide ((O.pv.length : Int) < 1) = false := decide_eq_false (by omega)
  have d1 : decide (16 < (O.pv.length : Int)) = true := decide_eq_true (by omega)
  clear HO H1 H2 h
  go_enter Try.func21, Try.ntmps21
  go_upto_region 1 with fail
  refine F_gen (F := fun W => Code.wp _ _ _ _ W) (J := fun W => Box W (w.heap.size) ([.slice a1 O.pv.length c1, .slice a2 O.nx.length c2, .int .i64 O.hd, .int .i64 O.tl]) ∧ Below w.heap.size w W) (And.intro (Box.newc rfl rfl) (by go_grown)) ?_
  intro w0 ⟨e_a, hB0⟩
  have hs0 := hB0.size
  have x_a0 := e_a; clear e_a
  have ca := (x_a0).c 0 _ rfl
  have za := (x_a0).lt
  have cb := (x_a0).c 1 _ rfl
  have zb := (x_a0).lt
  go_wp2_with fail
  go_returns
  exact ⟨rfl, hB0⟩

set_option maxRecDepth 100000 in
set_option maxHeartbeats 6400000 in
theorem plchk_c {v : Value} {O : Od} (h : 1 ≤ O.pv.length ∧ O.pv.length ≤ 16) (h2 : O.nx.length ≠ O.pv.length) (w : World) (h1 : IsO w v O) : Calls Try.prog 21 #[v] w fun e w' => e = .returned (.int .i64 8) ∧ Below w.heap.size w w' := by
  have HO := Lib.hid h1
  obtain ⟨v1, v2, rfl, g1, g2⟩ := id h1
  obtain ⟨a1, c1, rfl, hr1⟩ := id g1; obtain ⟨a2, c2, rfl, hr2⟩ := id g2
  have m1 := hr1.most; have r1 := hr1.room; have m2 := hr2.most; have r2 := hr2.room; have H1 := Lib.hid g1; have H2 := Lib.hid g2
  clear hr1 hr2 g1 g2 h1
  have d0 : decide ((O.pv.length : Int) < 1) = false := decide_eq_false (by omega)
  have d1 : decide (16 < (O.pv.length : Int)) = false := decide_eq_false (by omega)
  have d9 : ((O.nx.length : Int) != (O.pv.length : Int)) = true := by rw [bne_iff_ne]; omega
  clear HO H1 H2 h h2
  go_enter Try.func21, Try.ntmps21
  go_upto_region 1 with fail
  refine F_gen (F := fun W => Code.wp _ _ _ _ W) (J := fun W => Box W (w.heap.size) ([.slice a1 O.pv.length c1, .slice a2 O.nx.length c2, .int .i64 O.hd, .int .i64 O.tl]) ∧ Below w.heap.size w W) (And.intro (Box.newc rfl rfl) (by go_grown)) ?_
  intro w0 ⟨e_a, hB0⟩
  have hs0 := hB0.size
  have x_a0 := e_a; clear e_a
  have ca := (x_a0).c 0 _ rfl
  have za := (x_a0).lt
  have cb := (x_a0).c 1 _ rfl
  have zb := (x_a0).lt
  go_wp2_with fail
  go_returns
  exact ⟨rfl, hB0⟩

set_option maxRecDepth 100000 in
set_option maxHeartbeats 6400000 in
theorem plchk_d {v : Value} {O : Od} {q : Int} (hp : 1 ≤ O.pv.length) (hm : O.pv.length ≤ 16) (hu : O.nx.length = O.pv.length) (hq : ChkO O q) (w : World) (h1 : IsO w v O) : Calls Try.prog 21 #[v] w fun e w' => e = .returned (.int .i64 q) ∧ Below w.heap.size w w' := by
  have HO := Lib.hid h1
  obtain ⟨v1, v2, rfl, g1, g2⟩ := id h1
  obtain ⟨a1, c1, rfl, hr1⟩ := id g1; obtain ⟨a2, c2, rfl, hr2⟩ := id g2
  have m1 := hr1.most; have r1 := hr1.room; have m2 := hr2.most; have r2 := hr2.room; have H1 := Lib.hid g1; have H2 := Lib.hid g2
  clear hr1 hr2 g1 g2 h1
  obtain ⟨n, hn⟩ : ∃ n, O.pv.length = n := ⟨_, rfl⟩
  rw [hu] at r2 H2 HO ⊢; rw [hn] at hu r1 H1 HO hp hm ⊢
  have HN := Lib.hid hn; have HU := Lib.hid hu; clear hn hu
  have HQ := Lib.hid hq; clear hq
  have MB := fun W => make_bools n (by omega) W
  have PL := fun (W : World) (p : Int) (b : Bool) (h : IsO W (.agg [.slice a1 n c1, .slice a2 n c2, .int .i64 O.hd, .int .i64 O.tl].toArray) O) (hb : b = true ↔ 0 ≤ p ∧ p < (n : Int)) => plpl_is (p := p) (b := b) W h (by rw [HN.out]; exact hb)
  have d0 : decide ((n : Int) < 1) = false := decide_eq_false (by omega)
  have d1 : decide (16 < (n : Int)) = false := decide_eq_false (by omega)
  have SA := Lib.hid (size_od (.slice a1 n c1) (.slice a2 n c2) (.int .i64 O.hd) (.int .i64 O.tl))
  go_enter Try.func21, Try.ntmps21
  go_upto_region 1 with fail
  refine F_gen (F := fun W => Code.wp _ _ _ _ W) (J := fun W => Box W (w.heap.size) ([.slice a1 n c1, .slice a2 n c2, .int .i64 O.hd, .int .i64 O.tl]) ∧ Below w.heap.size w W) (And.intro (Box.newc rfl rfl) (by go_grown)) ?_
  intro w0 ⟨e_a, hB0⟩
  have hs0 := hB0.size
  have x_a0 := e_a; clear e_a
  have hlo := x_a0.lt
  have ca := (x_a0).c 0 _ rfl
  have za := (x_a0).lt
  have cb := (x_a0).c 1 _ rfl
  have zb := (x_a0).lt
  go_upto_region 5 with fail
  clear d0 d1 ca za cb zb MB
  refine F_gen (F := fun W => Code.wp _ _ _ _ W) (J := fun W => Box W (w.heap.size) ([.slice a1 n c1, .slice a2 n c2, .int .i64 O.hd, .int .i64 O.tl]) ∧ Box W (w0.heap.size) (mark n []) ∧ Below w.heap.size w W) (And.intro (x_a0.alloc _) (And.intro (Box.newc (l := mark n []) rfl rfl) (hB0.alloc (by first | exact hs0 | (simp; omega)) _))) ?_
  intro w1 ⟨x_a1, x_l1, hB1⟩
  clear x_a0 hB0 hs0
  have hs1 := hB1.size
  have ca := (x_a1).c 2 _ rfl
  have za := (x_a1).lt
  go_wp2_with fail
  clear ca za
  go_loopg [5, 6] n (fun k p5 p6 wr => ∃ (l : List Nat) (p la : Int), p6 = .int .i64 p ∧ p5 = .int .i64 la ∧ k = n - l.length ∧ Hid (la = lstO (-1) l) ∧ Hid (RunO O l p) ∧ Box wr w.heap.size [.slice a1 n c1, .slice a2 n c2, .int .i64 O.hd, .int .i64 O.tl] ∧ Box wr w0.heap.size (mark n l) ∧ Below w.heap.size w wr)
  case atStart => exact ⟨[], O.hd, -1, rfl, rfl, rfl, Lib.hid rfl, Lib.hid (RunO.start O), x_a1, x_l1, hB1⟩
  case round =>
    clear x_a1 x_l1 hB1 hs1
    obtain ⟨l, p, la, rfl, rfl, rfl, HL, HR, x_a, x_l, hB⟩ := hrel
    have hs := hB.size; have ltl := x_l.lt
    by_cases hp1 : p = -1
    case neg =>
      have d0 : (p != -1) = true := by rw [bne_iff_ne]; exact hp1
      by_cases hpl : 0 ≤ p ∧ p < (n : Int)
      case neg =>
        have HX := Lib.hid (show (8 : Int) = q from ChkO.uniq (ChkO.bad fun l' => HR.out.out hp1 (by rw [HN.out]; omega)) HQ.out)
        go_wp2_with (refine wpList_load_box9 rfl _ _ rfl x_a rfl Try.underlying24 rfl SA.out ?_)
        refine (PL _ p false (HO.out.below hB) ⟨fun h => (Bool.false_ne_true h).elim, fun h => absurd h hpl⟩).mono ?_
        rintro e w2 ⟨rfl, hb⟩
        have x_a2 := Box.below x_a hb; have x_l2 := Box.below x_l hb; have hB2 := below_thru hB hb; have hs2 := hB2.size
        clear x_a x_l hB hb hs ltl
        clear hpl HR HL
        go_wp2_with fail
        go_returns
        exact ⟨ret_i12 HX.out, hB2⟩
      case pos =>
        obtain ⟨i, rfl⟩ : ∃ i : Nat, p = (i : Int) := ⟨p.toNat, by omega⟩
        have hin : i < n := by omega
        go_wp2_with (refine wpList_load_box9 rfl _ _ rfl x_a rfl Try.underlying24 rfl SA.out ?_)
        refine (PL _ (i : Int) true (HO.out.below hB) ⟨fun _ => hpl, fun _ => rfl⟩).mono ?_
        rintro e w2 ⟨rfl, hb⟩
        have x_a2 := Box.below x_a hb; have x_l2 := Box.below x_l hb; have hB2 := below_thru hB hb; have hs2 := hB2.size
        clear x_a x_l hB hb hs ltl
        obtain ⟨x, hx⟩ : ∃ x, O.nx[i]? = some x := ⟨_, List.getElem?_eq_getElem (by rw [HU.out]; exact hin)⟩
        obtain ⟨u, hu⟩ : ∃ u, O.pv[i]? = some u := ⟨_, List.getElem?_eq_getElem (by rw [HN.out]; exact hin)⟩
        obtain ⟨b1, o1, rfl, e1⟩ := H1.out.getI hu; obtain ⟨b2, o2, rfl, e2⟩ := H2.out.getI hx
        have f1 := cell_below hB2 e1; have E2 := Lib.hid e2
        have ca := x_a2.c 0 _ rfl; have za := x_a2.lt; have z1 := lt_of_cell f1; have z3 := x_l2.lt
        have i0 : (0 : Int) ≤ (i : Int) := (by omega); have i1 : (i : Int) < (n : Int) := (by omega)
        clear e1 e2 hpl hp1
        by_cases hul : u = la
        case neg =>
          have HX := Lib.hid (show (8 : Int) = q from ChkO.uniq (ChkO.bad fun l' => HR.out.diff hu (by rw [← HL.out]; exact hul)) HQ.out)
          have d1 : (u != la) = true := by rw [bne_iff_ne]; exact hul
          clear HR HL hx hu hul
          go_wp2_with fail
          go_returns
          exact ⟨ret_i12 HX.out, hB2⟩
        case pos =>
          subst hul
          have d1 : (u != u) = false := bne_self_eq_false u
          have HR2 := Lib.hid (HR.out.step hx (by rw [hu, HL.out]))
          have HL2 := Lib.hid (show ((i : Nat) : Int) = lstO (-1) (l ++ [i]) from (lstO_snoc l i (-1)).symm)
          have HG := Lib.hid (show n - (l ++ [i]).length < n - l.length from by
            have := nodup_le n (l ++ [i]) HR2.out.nodup (fun j hj => by have := HR2.out.lt hj; rw [HU.out] at this; exact this)
            rw [List.length_append, List.length_singleton] at this ⊢
            omega)
          have ML := Lib.hid (mark_len n l); have MS := Lib.hid (mark_set (n := n) (i := i) (l := l))
          have HI := Lib.hid (show i < (mark n l).length by rw [ML.out]; exact hin)
          clear HR HL hx hu hin
          go_upto_region 7 with (refine wpList_store_cell (k := i) (ws := mark n (l ++ [i])) (v := .bool true) rfl _ _ _ rfl x_l2 rfl rfl rfl rfl size_bl HI.out MS.out ?_; intro W3 hW3)
          have x_a3 := hW3.past _ _ (by omega) x_a2; have x_l3 := hW3.box; have hB3 := hW3.below _ _ (by omega) hB2
          clear f1 ca za z1 z3 x_a2 x_l2 hs2
          have hs3 := hB3.size
          have f2 := cell_below hB3 (show w.cell? ⟨b2, o2 + i, none⟩ = some (.int .i64 x) from E2.out); have z2 := lt_of_cell f2; have ca := x_a3.c 1 _ rfl; have za := x_a3.lt
          go_wp2_with fail
          go_roundg (n - (l ++ [i]).length)
          case measure => exact HG.out
          case rel => exact ⟨_, x, _, rfl, rfl, rfl, HL2, HR2, x_a3, x_l3, hB3⟩
    case pos =>
      subst hp1
      have ca := x_a.c 3 _ rfl; have za := x_a.lt
      by_cases ht : O.tl = la
      case neg =>
        have HX := Lib.hid (show (8 : Int) = q from ChkO.uniq (ChkO.bad fun l' hv => by
          obtain rfl := HR.out.fin hv
          exact ht (by rw [hv.tl, HL.out])) HQ.out)
        have d1 : (O.tl != la) = true := by rw [bne_iff_ne]; exact ht
        clear HR HL ht
        go_wp2_with fail
        go_returns
        exact ⟨ret_i12 HX.out, hB⟩
      case pos =>
        have d1 : (O.tl != la) = false := by rw [bne_eq_false_iff_eq]; exact ht
        have HT := Lib.hid (show O.tl = lstO (-1) l by rw [ht, HL.out])
        clear HL ht
        go_wp2_with fail
        clear ca za
        go_loopw [59] (fun i59 wr => ∃ k : Nat, k ≤ n ∧ i59 = .int .i64 k ∧ Hid (SeenO O l k) ∧ Box wr w.heap.size [.slice a1 n c1, .slice a2 n c2, .int .i64 O.hd, .int .i64 O.tl] ∧ Box wr w0.heap.size (mark n l) ∧ Below w.heap.size w wr) (fun i59 _ => n - (intOf i59).toNat)
        case atStart => exact ⟨0, Nat.zero_le _, rfl, Lib.hid (SeenO.zero O l), x_a, x_l, hB⟩
        case round =>
          clear x_a x_l hB hs ltl d1
          obtain ⟨k, hk, rfl, HS, x_a, x_l, hB⟩ := hrel
          have hs := hB.size
          by_cases hlt : k < n
          case neg =>
            have HX := Lib.hid (show (0 : Int) = q from ChkO.uniq (ChkO.good (HR.out.good (by rw [HN.out]; omega) (by rw [HN.out]; omega) (by rw [HU.out, HN.out]) HT.out HS.out (by rw [HN.out]; omega))) HQ.out)
            clear HS HR HT
            have hd : decide ((k : Int) < (n : Int)) = false := decide_eq_false (by omega)
            go_wp2_with fail
            go_returns
            exact ⟨ret_i12 HX.out, hB⟩
          case pos =>
            obtain ⟨x, hx⟩ : ∃ x, O.pv[k]? = some x := ⟨_, List.getElem?_eq_getElem (by rw [HN.out]; exact hlt)⟩
            obtain ⟨y, hy⟩ : ∃ u, O.nx[k]? = some u := ⟨_, List.getElem?_eq_getElem (by rw [HU.out]; exact hlt)⟩
            obtain ⟨b1, o1, rfl, e1⟩ := H1.out.getI hx; obtain ⟨b2, o2, rfl, e2⟩ := H2.out.getI hy
            have f1 := cell_below hB e1; have f2 := cell_below hB e2; have f3 := x_l.c k _ (mark_at hlt)
            have ca := x_a.c 0 _ rfl; have cb := x_a.c 1 _ rfl; have za := x_a.lt; have z1 := lt_of_cell f1; have z2 := lt_of_cell f2; have z3 := x_l.lt
            have i0 : (0 : Int) ≤ (k : Int) := (by omega); have i1 : (k : Int) < (n : Int) := (by omega)
            clear e1 e2
            by_cases hkl : k ∈ l
            case pos =>
              rw [decide_eq_true hkl] at f3
              have HS2 := Lib.hid (HS.out.succ (fun h => absurd hkl h))
              clear HS hx hy hkl
              go_wp2_with fail
              go_roundw
              case rel => exact ⟨k + 1, by omega, by go_num, HS2, x_a, x_l, hB⟩
              case measure => simp [intOf]; omega
            case neg =>
              rw [decide_eq_false hkl] at f3
              by_cases hx1 : x = -1
              case neg =>
                have d2 : (x != -1) = true := by rw [bne_iff_ne]; exact hx1
                have HX := Lib.hid (show (8 : Int) = q from ChkO.uniq (ChkO.bad fun l' hv => by
                  obtain rfl := HR.out.fin hv
                  have := hv.pv (by rw [HN.out]; exact hlt)
                  rw [hx, prvO_not hkl] at this
                  exact hx1 (by simpa using this)) HQ.out)
                clear HR HS HT hx hy hkl hx1
                go_wp2_with fail
                go_returns
                exact ⟨ret_i12 HX.out, hB⟩
              case pos =>
                subst hx1
                by_cases hy1 : y = -1
                case neg =>
                  have d2 : (y != -1) = true := by rw [bne_iff_ne]; exact hy1
                  have HX := Lib.hid (show (8 : Int) = q from ChkO.uniq (ChkO.bad fun l' hv => by
                    obtain rfl := HR.out.fin hv
                    have := hv.nx (by rw [HN.out]; exact hlt)
                    rw [hy, nxtO_not hkl] at this
                    exact hy1 (by simpa using this)) HQ.out)
                  clear HR HS HT hx hy hkl hy1
                  go_wp2_with fail
                  go_returns
                  exact ⟨ret_i12 HX.out, hB⟩
                case pos =>
                  subst hy1
                  have HS2 := Lib.hid (HS.out.succ (fun _ => ⟨hx, hy⟩))
                  clear HS hx hy hkl
                  go_wp2_with fail
                  go_roundw
                  case rel => exact ⟨k + 1, by omega, by go_num, HS2, x_a, x_l, hB⟩
                  case measure => simp [intOf]; omega

theorem plchk_is {v : Value} {O : Od} {q : Int} (w : World) (h1 : IsO w v O) (hq : ChkO O q) : Calls Try.prog 21 #[v] w fun e w' => e = .returned (.int .i64 q) ∧ Below w.heap.size w w' := by
  by_cases h : O.pv.length < 1
  · rw [hq.uniq (ChkO.big (Or.inl h))]
    exact plchk_a h w h1
  · by_cases h2 : 16 < O.pv.length
    · rw [hq.uniq (ChkO.big (Or.inr (Or.inl h2)))]
      exact plchk_b h2 w h1
    · by_cases h3 : O.nx.length = O.pv.length
      · exact plchk_d (by omega) (by omega) h3 hq w h1
      · rw [hq.uniq (ChkO.big (Or.inr (Or.inr h3)))]
        exact plchk_c ⟨by omega, by omega⟩ h3 w h1


end Go.Proofs.Ytjhlpkkefdohjaa
