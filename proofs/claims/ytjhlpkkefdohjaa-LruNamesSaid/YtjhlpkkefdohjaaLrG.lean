/-
  The reference of layer 15, walked: Great, SameInts, Same, All.
-/
import Derived.Test.YtjhlpkkefdohjaaLrC
namespace Go.Proofs.Ytjhlpkkefdohjaa
open Go.RowKit

set_option maxRecDepth 100000 in
set_option maxHeartbeats 6400000 in
theorem rlgreat_a {v : Value} {O : Od} (h : 100 < O.pv.length) (w : World) (h1 : IsO w v O) : Calls Try.prog 8 #[v] w fun e w' => e = .returned (.bool true) ∧ Below w.heap.size w w' := by
  have HO := Lib.hid h1
  obtain ⟨v1, v2, rfl, g1, g2⟩ := id h1
  obtain ⟨a1, c1, rfl, hr1⟩ := id g1; obtain ⟨a2, c2, rfl, hr2⟩ := id g2
  have m1 := hr1.most; have r1 := hr1.room; have m2 := hr2.most; have r2 := hr2.room; have H1 := Lib.hid g1; have H2 := Lib.hid g2
  clear hr1 hr2 g1 g2 h1
  have d0 : decide (100 < (O.pv.length : Int)) = true := decide_eq_true (by omega)
  clear HO H1 H2 h
  go_enter Try.func8, Try.ntmps8
  go_upto_region 1 with fail
  refine F_gen (F := fun W => Code.wp _ _ _ _ W) (J := fun W => Box W (w.heap.size) ([.slice a1 O.pv.length c1, .slice a2 O.nx.length c2, .int .i64 O.hd, .int .i64 O.tl]) ∧ Below w.heap.size w W) (And.intro (Box.newc rfl rfl) (by go_grown)) ?_
  intro w0 ⟨e_a, hB0⟩
  have hs0 := hB0.size
  have x_a0 := e_a; clear e_a
  have ca := (x_a0).c 0 _ rfl
  have za := (x_a0).lt
  have cb := (x_a0).c 1 _ rfl
  have zb := (x_a0).lt
  go_wp2_with fail
  go_returns
  exact ⟨rfl, hB0⟩

set_option maxRecDepth 100000 in
set_option maxHeartbeats 6400000 in
theorem rlgreat_b {v : Value} {O : Od} (h : O.pv.length ≤ 100) (h2 : 100 < O.nx.length) (w : World) (h1 : IsO w v O) : Calls Try.prog 8 #[v] w fun e w' => e = .returned (.bool true) ∧ Below w.heap.size w w' := by
  have HO := Lib.hid h1
  obtain ⟨v1, v2, rfl, g1, g2⟩ := id h1
  obtain ⟨a1, c1, rfl, hr1⟩ := id g1; obtain ⟨a2, c2, rfl, hr2⟩ := id g2
  have m1 := hr1.most; have r1 := hr1.room; have m2 := hr2.most; have r2 := hr2.room; have H1 := Lib.hid g1; have H2 := Lib.hid g2
  clear hr1 hr2 g1 g2 h1
  have d0 : decide (100 < (O.pv.length : Int)) = false := decide_eq_false (by omega)
  have d1 : decide (100 < (O.nx.length : Int)) = true := decide_eq_true (by omega)
  clear HO H1 H2 h h2
  go_enter Try.func8, Try.ntmps8
  go_upto_region 1 with fail
  refine F_gen (F := fun W => Code.wp _ _ _ _ W) (J := fun W => Box W (w.heap.size) ([.slice a1 O.pv.length c1, .slice a2 O.nx.length c2, .int .i64 O.hd, .int .i64 O.tl]) ∧ Below w.heap.size w W) (And.intro (Box.newc rfl rfl) (by go_grown)) ?_
  intro w0 ⟨e_a, hB0⟩
  have hs0 := hB0.size
  have x_a0 := e_a; clear e_a
  have ca := (x_a0).c 0 _ rfl
  have za := (x_a0).lt
  have cb := (x_a0).c 1 _ rfl
  have zb := (x_a0).lt
  go_wp2_with fail
  go_returns
  exact ⟨rfl, hB0⟩

set_option maxRecDepth 100000 in
set_option maxHeartbeats 6400000 in
theorem rlgreat_c {v : Value} {O : Od} (h : O.pv.length ≤ 100) (h2 : O.nx.length ≤ 100) (w : World) (h1 : IsO w v O) : Calls Try.prog 8 #[v] w fun e w' => e = .returned (.bool false) ∧ Below w.heap.size w w' := by
  have HO := Lib.hid h1
  obtain ⟨v1, v2, rfl, g1, g2⟩ := id h1
  obtain ⟨a1, c1, rfl, hr1⟩ := id g1; obtain ⟨a2, c2, rfl, hr2⟩ := id g2
  have m1 := hr1.most; have r1 := hr1.room; have m2 := hr2.most; have r2 := hr2.room; have H1 := Lib.hid g1; have H2 := Lib.hid g2
  clear hr1 hr2 g1 g2 h1
  have d0 : decide (100 < (O.pv.length : Int)) = false := decide_eq_false (by omega)
  have d1 : decide (100 < (O.nx.length : Int)) = false := decide_eq_false (by omega)
  clear HO H1 H2 h h2
  go_enter Try.func8, Try.ntmps8
  go_upto_region 1 with fail
  refine F_gen (F := fun W => Code.wp _ _ _ _ W) (J := fun W => Box W (w.heap.size) ([.slice a1 O.pv.length c1, .slice a2 O.nx.length c2, .int .i64 O.hd, .int .i64 O.tl]) ∧ Below w.heap.size w W) (And.intro (Box.newc rfl rfl) (by go_grown)) ?_
  intro w0 ⟨e_a, hB0⟩
  have hs0 := hB0.size
  have x_a0 := e_a; clear e_a
  have ca := (x_a0).c 0 _ rfl
  have za := (x_a0).lt
  have cb := (x_a0).c 1 _ rfl
  have zb := (x_a0).lt
  go_wp2_with fail
  go_returns
  exact ⟨rfl, hB0⟩

def GrO (O : Od) : Prop := 100 < O.pv.length ∨ 100 < O.nx.length
theorem rlgreat_is {v : Value} {O : Od} {b : Bool} (w : World) (h1 : IsO w v O) (hb : b = true ↔ GrO O) : Calls Try.prog 8 #[v] w fun e w' => e = .returned (.bool b) ∧ Below w.heap.size w w' := by
  by_cases h : 100 < O.pv.length
  · rw [hb.2 (Or.inl h)]
    exact rlgreat_a h w h1
  · by_cases h2 : 100 < O.nx.length
    · rw [hb.2 (Or.inr h2)]
      exact rlgreat_b (by omega) h2 w h1
    · rw [bool_eq12 hb (c := false) ⟨fun h => (Bool.false_ne_true h).elim, fun q => by rcases q with q | q <;> omega⟩]
      exact rlgreat_c (by omega) (by omega) w h1

set_option maxRecDepth 100000 in
set_option maxHeartbeats 6400000 in
theorem rlsi_a {v u : Value} {xs ys : List Int} (h : xs.length ≠ ys.length) (w : World) (h1 : IsR LI w v xs) (h2 : IsR LI w u ys) : Calls Try.prog 23 #[v, u] w fun e w' => e = .returned (.bool false) ∧ Below w.heap.size w w' := by
  obtain ⟨a1, c1, rfl, hr1⟩ := id h1; obtain ⟨a2, c2, rfl, hr2⟩ := id h2; have m1 := hr1.most; have r1 := hr1.room; have m2 := hr2.most; have r2 := hr2.room; have H1 := Lib.hid h1; have H2 := Lib.hid h2; clear hr1 hr2 h1 h2; have hB0 := Below.refl w.heap.size w
  have d0 : ((xs.length : Int) != (ys.length : Int)) = true := by rw [bne_iff_ne]; omega
  clear H1 H2 h
  go_enter Try.func23, Try.ntmps23
  go_wp2_with fail
  go_returns
  exact ⟨rfl, hB0⟩

set_option maxRecDepth 100000 in
set_option maxHeartbeats 6400000 in
theorem rlsi_b {v u : Value} {xs ys : List Int} {b : Bool} (h : xs.length = ys.length) (hb : b = true ↔ xs = ys) (w : World) (h1 : IsR LI w v xs) (h2 : IsR LI w u ys) : Calls Try.prog 23 #[v, u] w fun e w' => e = .returned (.bool b) ∧ Below w.heap.size w w' := by
  obtain ⟨a1, c1, rfl, hr1⟩ := id h1; obtain ⟨a2, c2, rfl, hr2⟩ := id h2; have m1 := hr1.most; have r1 := hr1.room; have m2 := hr2.most; have r2 := hr2.room; have H1 := Lib.hid h1; have H2 := Lib.hid h2; clear hr1 hr2 h1 h2; have hB0 := Below.refl w.heap.size w
  obtain ⟨n, hn⟩ : ∃ n, xs.length = n := ⟨_, rfl⟩; rw [← h] at r2 H2 ⊢; rw [hn] at r1 r2 H1 H2 ⊢; have HN := Lib.hid hn; have HU := Lib.hid (h.symm.trans hn); have HB := Lib.hid hb; clear hn h hb
  skip
  have hs0 := hB0.size
  go_enter Try.func23, Try.ntmps23
  go_wp2_with fail
  go_loopw [5] (fun i wr => ∃ k : Nat, k ≤ n ∧ i = .int .i64 k ∧ Hid (∀ j : Nat, j < k → xs[j]? = ys[j]?) ∧ Below w.heap.size w wr) (fun i _ => n - (intOf i).toNat)
  case atStart => exact ⟨0, Nat.zero_le _, rfl, Lib.hid (fun _ h => absurd h (Nat.not_lt_zero _)), hB0⟩
  case round =>
    clear hB0 hs0
    obtain ⟨k, hk, rfl, HE, hB⟩ := hrel
    have hs := hB.size
    by_cases hlt : k < n
    case pos =>
      obtain ⟨x, hx⟩ : ∃ x, xs[k]? = some x := ⟨_, List.getElem?_eq_getElem (by rw [HN.out]; exact hlt)⟩; obtain ⟨y, hy⟩ : ∃ x, ys[k]? = some x := ⟨_, List.getElem?_eq_getElem (by rw [HU.out]; exact hlt)⟩
      obtain ⟨b1, o1, rfl, e1⟩ := H1.out.getI hx; obtain ⟨b2, o2, rfl, e2⟩ := H2.out.getI hy
      have f1 := cell_below hB e1; have f2 := cell_below hB e2; have i0 : (0 : Int) ≤ (k : Int) := (by omega); have i1 : (k : Int) < (n : Int) := (by omega)
      clear e1 e2
      go_upto_region 6 with fail
      by_cases he : x = y
      case pos =>
        subst he
        have HE2 : Hid (∀ j : Nat, j < k + 1 → xs[j]? = ys[j]?) := Lib.hid (fun j hj => by
          rcases Nat.lt_or_ge j k with g | g
          · exact HE.out j g
          · obtain rfl : j = k := by omega
            rw [hx, hy])
        have d1 : (x != x) = false := bne_self_eq_false x
        clear hx hy HE
        have hB7 := hB; have hs7 := hs; clear hB hs
        refine wp_region_held_drew (S := fun W => W.cell? ⟨b1, o1 + k, none⟩ = some (.int .i64 x) ∧ W.cell? ⟨b2, o2 + k, none⟩ = some (.int .i64 x)) (by kernel_rfl) (And.intro f1 f2) (fun _ => ?_)
        refine F_drew (F := fun W => wpAnyH _ _ _ _ _ _ _ _ W) ?_
        intro Ws0 hbs0
        clear hs7
        have c_x_s0 := cell_below hbs0 f1
        have c_y_s0 := cell_below hbs0 f2
        have Bs0 := below_thru hB7 hbs0
        clear f1 f2 hB7 hbs0
        refine takeH 0 17 (v := ?vs0_1) rfl (by rfl) (by kernel_rfl) (by kernel_rfl) (by kernel_rfl) (fun _ _ _ h => h) (Or.inl ⟨by rfl, ?_⟩) ((And.intro c_x_s0 c_y_s0)) ?_
        rotate_left
        · intro wq hSq
          go_simp
          exact rfl
        try simp only [Act.put, List.setIfInBounds_toArray, List.set_cons_zero, List.set_cons_succ]
        refine takeH 1 18 (v := ?vs1_2) rfl (by rfl) (by kernel_rfl) (by kernel_rfl) (by kernel_rfl) (fun _ _ _ h => h) (Or.inl ⟨by rfl, ?_⟩) ((And.intro c_x_s0 c_y_s0)) ?_
        rotate_left
        · intro wq hSq
          go_simp
          exact rfl
        try simp only [Act.put, List.setIfInBounds_toArray, List.set_cons_zero, List.set_cons_succ]
        refine takeH 2 19 (v := ?vs2_3) rfl (by rfl) (by kernel_rfl) (by kernel_rfl) (by kernel_rfl) (fun _ _ _ h => h) (Or.inl ⟨by rfl, ?_⟩) ((And.intro c_x_s0 c_y_s0)) ?_
        rotate_left
        · intro wq hSq
          go_simp
          exact rfl
        try simp only [Act.put, List.setIfInBounds_toArray, List.set_cons_zero, List.set_cons_succ]
        refine takeH 3 20 (v := ?vs3_4) rfl (by rfl) (by kernel_rfl) (by kernel_rfl) (by kernel_rfl) (fun _ _ _ h => h) (Or.inl ⟨by rfl, ?_⟩) ((And.intro c_x_s0 c_y_s0)) ?_
        rotate_left
        · intro wq hSq
          have cq := hSq.1
          have zq := lt_of_cell cq
          go_simp
          exact rfl
        try simp only [Act.put, List.setIfInBounds_toArray, List.set_cons_zero, List.set_cons_succ]
        refine takeH 4 21 (v := ?vs4_5) rfl (by rfl) (by kernel_rfl) (by kernel_rfl) (by kernel_rfl) (fun _ _ _ h => h) (Or.inl ⟨by rfl, ?_⟩) ((And.intro c_x_s0 c_y_s0)) ?_
        rotate_left
        · intro wq hSq
          go_simp
          exact rfl
        try simp only [Act.put, List.setIfInBounds_toArray, List.set_cons_zero, List.set_cons_succ]
        refine takeH 5 22 (v := ?vs5_6) rfl (by rfl) (by kernel_rfl) (by kernel_rfl) (by kernel_rfl) (fun _ _ _ h => h) (Or.inl ⟨by rfl, ?_⟩) ((And.intro c_x_s0 c_y_s0)) ?_
        rotate_left
        · intro wq hSq
          go_simp
          exact rfl
        try simp only [Act.put, List.setIfInBounds_toArray, List.set_cons_zero, List.set_cons_succ]
        refine takeH 6 23 (v := ?vs6_7) rfl (by rfl) (by kernel_rfl) (by kernel_rfl) (by kernel_rfl) (fun _ _ _ h => h) (Or.inl ⟨by rfl, ?_⟩) ((And.intro c_x_s0 c_y_s0)) ?_
        rotate_left
        · intro wq hSq
          go_simp
          exact rfl
        try simp only [Act.put, List.setIfInBounds_toArray, List.set_cons_zero, List.set_cons_succ]
        refine takeH 7 24 (v := ?vs7_8) rfl (by rfl) (by kernel_rfl) (by kernel_rfl) (by kernel_rfl) (fun _ _ _ h => h) (Or.inl ⟨by rfl, ?_⟩) ((And.intro c_x_s0 c_y_s0)) ?_
        rotate_left
        · intro wq hSq
          have cq := hSq.2
          have zq := lt_of_cell cq
          go_simp
          exact rfl
        try simp only [Act.put, List.setIfInBounds_toArray, List.set_cons_zero, List.set_cons_succ]
        refine takeH 8 25 (v := ?vs8_9) rfl (by rfl) (by kernel_rfl) (by kernel_rfl) (by kernel_rfl) (fun _ _ _ h => h) (Or.inl ⟨by rfl, ?_⟩) ((And.intro c_x_s0 c_y_s0)) ?_
        rotate_left
        · intro wq hSq
          go_simp
          exact rfl
        try simp only [Act.put, List.setIfInBounds_toArray, List.set_cons_zero, List.set_cons_succ]
        refine wpAnyH_done (by kernel_rfl) ?_ _
        go_wp2_with fail
        go_roundw
        case rel => exact ⟨k + 1, by omega, by go_num, HE2, Bs0⟩
        case measure => simp [intOf]; omega
      case neg =>
        have HX := Lib.hid (show false = b from (bool_eq12 HB.out (c := false) ⟨fun h => (Bool.false_ne_true h).elim, fun q => by
          rw [q, hy] at hx
          cases hx
          exact absurd rfl he⟩).symm)
        have d1 : (x != y) = true := by rw [bne_iff_ne]; exact he
        clear hx hy HE he
        have hB7 := hB; have hs7 := hs; clear hB hs
        refine wp_region_held_drew (S := fun W => W.cell? ⟨b1, o1 + k, none⟩ = some (.int .i64 x) ∧ W.cell? ⟨b2, o2 + k, none⟩ = some (.int .i64 y)) (by kernel_rfl) (And.intro f1 f2) (fun _ => ?_)
        refine F_drew (F := fun W => wpAnyH _ _ _ _ _ _ _ _ W) ?_
        intro Wu0 hbu0
        clear hs7
        have c_x_u0 := cell_below hbu0 f1
        have c_y_u0 := cell_below hbu0 f2
        have Bu0 := below_thru hB7 hbu0
        clear f1 f2 hB7 hbu0
        refine takeH 0 17 (v := ?vu0_1) rfl (by rfl) (by kernel_rfl) (by kernel_rfl) (by kernel_rfl) (fun _ _ _ h => h) (Or.inl ⟨by rfl, ?_⟩) ((And.intro c_x_u0 c_y_u0)) ?_
        rotate_left
        · intro wq hSq
          go_simp
          exact rfl
        try simp only [Act.put, List.setIfInBounds_toArray, List.set_cons_zero, List.set_cons_succ]
        refine takeH 1 18 (v := ?vu1_2) rfl (by rfl) (by kernel_rfl) (by kernel_rfl) (by kernel_rfl) (fun _ _ _ h => h) (Or.inl ⟨by rfl, ?_⟩) ((And.intro c_x_u0 c_y_u0)) ?_
        rotate_left
        · intro wq hSq
          go_simp
          exact rfl
        try simp only [Act.put, List.setIfInBounds_toArray, List.set_cons_zero, List.set_cons_succ]
        refine takeH 2 19 (v := ?vu2_3) rfl (by rfl) (by kernel_rfl) (by kernel_rfl) (by kernel_rfl) (fun _ _ _ h => h) (Or.inl ⟨by rfl, ?_⟩) ((And.intro c_x_u0 c_y_u0)) ?_
        rotate_left
        · intro wq hSq
          go_simp
          exact rfl
        try simp only [Act.put, List.setIfInBounds_toArray, List.set_cons_zero, List.set_cons_succ]
        refine takeH 3 20 (v := ?vu3_4) rfl (by rfl) (by kernel_rfl) (by kernel_rfl) (by kernel_rfl) (fun _ _ _ h => h) (Or.inl ⟨by rfl, ?_⟩) ((And.intro c_x_u0 c_y_u0)) ?_
        rotate_left
        · intro wq hSq
          have cq := hSq.1
          have zq := lt_of_cell cq
          go_simp
          exact rfl
        try simp only [Act.put, List.setIfInBounds_toArray, List.set_cons_zero, List.set_cons_succ]
        refine takeH 4 21 (v := ?vu4_5) rfl (by rfl) (by kernel_rfl) (by kernel_rfl) (by kernel_rfl) (fun _ _ _ h => h) (Or.inl ⟨by rfl, ?_⟩) ((And.intro c_x_u0 c_y_u0)) ?_
        rotate_left
        · intro wq hSq
          go_simp
          exact rfl
        try simp only [Act.put, List.setIfInBounds_toArray, List.set_cons_zero, List.set_cons_succ]
        refine takeH 5 22 (v := ?vu5_6) rfl (by rfl) (by kernel_rfl) (by kernel_rfl) (by kernel_rfl) (fun _ _ _ h => h) (Or.inl ⟨by rfl, ?_⟩) ((And.intro c_x_u0 c_y_u0)) ?_
        rotate_left
        · intro wq hSq
          go_simp
          exact rfl
        try simp only [Act.put, List.setIfInBounds_toArray, List.set_cons_zero, List.set_cons_succ]
        refine takeH 6 23 (v := ?vu6_7) rfl (by rfl) (by kernel_rfl) (by kernel_rfl) (by kernel_rfl) (fun _ _ _ h => h) (Or.inl ⟨by rfl, ?_⟩) ((And.intro c_x_u0 c_y_u0)) ?_
        rotate_left
        · intro wq hSq
          go_simp
          exact rfl
        try simp only [Act.put, List.setIfInBounds_toArray, List.set_cons_zero, List.set_cons_succ]
        refine takeH 7 24 (v := ?vu7_8) rfl (by rfl) (by kernel_rfl) (by kernel_rfl) (by kernel_rfl) (fun _ _ _ h => h) (Or.inl ⟨by rfl, ?_⟩) ((And.intro c_x_u0 c_y_u0)) ?_
        rotate_left
        · intro wq hSq
          have cq := hSq.2
          have zq := lt_of_cell cq
          go_simp
          exact rfl
        try simp only [Act.put, List.setIfInBounds_toArray, List.set_cons_zero, List.set_cons_succ]
        refine takeH 8 25 (v := ?vu8_9) rfl (by rfl) (by kernel_rfl) (by kernel_rfl) (by kernel_rfl) (fun _ _ _ h => h) (Or.inl ⟨by rfl, ?_⟩) ((And.intro c_x_u0 c_y_u0)) ?_
        rotate_left
        · intro wq hSq
          go_simp
          exact rfl
        try simp only [Act.put, List.setIfInBounds_toArray, List.set_cons_zero, List.set_cons_succ]
        refine wpAnyH_done (by kernel_rfl) ?_ _
        go_wp2_with fail
        go_returns
        exact ⟨ret_b12 HX.out, Bu0⟩
    case neg =>
      have HX := Lib.hid (show true = b from (HB.out.2 (by
        apply List.ext_getElem?
        intro j
        by_cases hj : j < n
        · exact HE.out j (by omega)
        · rw [List.getElem?_eq_none (by rw [HN.out]; omega), List.getElem?_eq_none (by rw [HU.out]; omega)])).symm)
      clear HE
      have hd : decide ((k : Int) < (n : Int)) = false := decide_eq_false (by omega)
      go_wp2_with fail
      go_returns
      exact ⟨ret_b12 HX.out, hB⟩

theorem rlsi_is {v u : Value} {xs ys : List Int} {b : Bool} (w : World) (h1 : IsR LI w v xs) (h2 : IsR LI w u ys) (hb : b = true ↔ xs = ys) : Calls Try.prog 23 #[v, u] w fun e w' => e = .returned (.bool b) ∧ Below w.heap.size w w' := by
  by_cases h : xs.length = ys.length
  · exact rlsi_b h hb w h1 h2
  · rw [bool_eq12 hb (c := false) ⟨fun h => (Bool.false_ne_true h).elim, fun q => absurd (congrArg List.length q) h⟩]
    exact rlsi_a h w h1 h2

set_option maxRecDepth 100000 in
set_option maxHeartbeats 6400000 in
theorem rlsame_a {v u : Value} {O U : Od} (hp : O.pv ≠ U.pv) (w : World) (h1 : IsO w v O) (h2 : IsO w u U) : Calls Try.prog 16 #[v, u] w fun e w' => e = .returned (.bool false) ∧ Below w.heap.size w w' := by
  have S1 := fun (W : World) (a b : Value) (h : IsR LI W a O.pv) (g : IsR LI W b U.pv) => rlsi_is (b := false) W h g ⟨fun h => (Bool.false_ne_true h).elim, fun h => absurd h hp⟩
  clear hp
  have HO := Lib.hid h1
  obtain ⟨v1, v2, rfl, g1, g2⟩ := id h1
  obtain ⟨a1, c1, rfl, hr1⟩ := id g1; obtain ⟨a2, c2, rfl, hr2⟩ := id g2
  have m1 := hr1.most; have r1 := hr1.room; have m2 := hr2.most; have r2 := hr2.room; have H1 := Lib.hid g1; have H2 := Lib.hid g2
  clear hr1 hr2 g1 g2 h1
  obtain ⟨v3, v4, rfl, g3, g4⟩ := id h2; obtain ⟨a3, c3, rfl, hr3⟩ := id g3; obtain ⟨a4, c4, rfl, hr4⟩ := id g4; have H3 := Lib.hid g3; have H4 := Lib.hid g4; clear hr3 hr4 g3 g4 h2
  go_enter Try.func16, Try.ntmps16
  go_upto_region 1 with fail
  refine F_gen (F := fun W => Code.wp _ _ _ _ W) (J := fun W => Box W (w.heap.size) ([.slice a1 O.pv.length c1, .slice a2 O.nx.length c2, .int .i64 O.hd, .int .i64 O.tl]) ∧ Box W (w.heap.size + 1) ([.slice a3 U.pv.length c3, .slice a4 U.nx.length c4, .int .i64 U.hd, .int .i64 U.tl]) ∧ Below w.heap.size w W) (And.intro (Box.alloc (Box.newc rfl rfl) _) (And.intro (Box.newc rfl (by simp)) (by go_grown))) ?_
  intro w0 ⟨e_a, e_b, hB0⟩
  have hs0 := hB0.size
  have x_a0 := e_a; clear e_a
  have x_b0 := e_b; clear e_b
  have ca0 := (x_a0).c 0 _ rfl
  have za0 := (x_a0).lt
  have cb0 := (x_b0).c 0 _ rfl
  have zb0 := (x_b0).lt
  go_wp2_with fail
  refine (S1 _ _ _ (H1.out.below hB0) (H3.out.below hB0)).mono ?_
  rintro e w1 ⟨rfl, hb⟩
  clear ca0 za0 cb0 zb0
  have hB1 : Below w.heap.size w w1 := below_thru hB0 hb
  have hs1 := hB1.size
  have x_a1 : Box w1 (w.heap.size) ([.slice a1 O.pv.length c1, .slice a2 O.nx.length c2, .int .i64 O.hd, .int .i64 O.tl]) := Box.below x_a0 hb
  have x_b1 : Box w1 (w.heap.size + 1) ([.slice a3 U.pv.length c3, .slice a4 U.nx.length c4, .int .i64 U.hd, .int .i64 U.tl]) := Box.below x_b0 hb
  clear hB0 hs0 x_a0 x_b0
  clear hb
  go_wp2_with fail
  go_returns
  exact ⟨rfl, hB1⟩

set_option maxRecDepth 100000 in
set_option maxHeartbeats 6400000 in
theorem rlsame_b {v u : Value} {O U : Od} (hp : O.pv = U.pv) (hx : O.nx ≠ U.nx) (w : World) (h1 : IsO w v O) (h2 : IsO w u U) : Calls Try.prog 16 #[v, u] w fun e w' => e = .returned (.bool false) ∧ Below w.heap.size w w' := by
  have S1 := fun (W : World) (a b : Value) (h : IsR LI W a O.pv) (g : IsR LI W b U.pv) => rlsi_is (b := true) W h g ⟨fun _ => hp, fun _ => rfl⟩
  have S2 := fun (W : World) (a b : Value) (h : IsR LI W a O.nx) (g : IsR LI W b U.nx) => rlsi_is (b := false) W h g ⟨fun h => (Bool.false_ne_true h).elim, fun h => absurd h hx⟩
  clear hp hx
  have HO := Lib.hid h1
  obtain ⟨v1, v2, rfl, g1, g2⟩ := id h1
  obtain ⟨a1, c1, rfl, hr1⟩ := id g1; obtain ⟨a2, c2, rfl, hr2⟩ := id g2
  have m1 := hr1.most; have r1 := hr1.room; have m2 := hr2.most; have r2 := hr2.room; have H1 := Lib.hid g1; have H2 := Lib.hid g2
  clear hr1 hr2 g1 g2 h1
  obtain ⟨v3, v4, rfl, g3, g4⟩ := id h2; obtain ⟨a3, c3, rfl, hr3⟩ := id g3; obtain ⟨a4, c4, rfl, hr4⟩ := id g4; have H3 := Lib.hid g3; have H4 := Lib.hid g4; clear hr3 hr4 g3 g4 h2
  go_enter Try.func16, Try.ntmps16
  go_upto_region 1 with fail
  refine F_gen (F := fun W => Code.wp _ _ _ _ W) (J := fun W => Box W (w.heap.size) ([.slice a1 O.pv.length c1, .slice a2 O.nx.length c2, .int .i64 O.hd, .int .i64 O.tl]) ∧ Box W (w.heap.size + 1) ([.slice a3 U.pv.length c3, .slice a4 U.nx.length c4, .int .i64 U.hd, .int .i64 U.tl]) ∧ Below w.heap.size w W) (And.intro (Box.alloc (Box.newc rfl rfl) _) (And.intro (Box.newc rfl (by simp)) (by go_grown))) ?_
  intro w0 ⟨e_a, e_b, hB0⟩
  have hs0 := hB0.size
  have x_a0 := e_a; clear e_a
  have x_b0 := e_b; clear e_b
  have ca0 := (x_a0).c 0 _ rfl
  have za0 := (x_a0).lt
  have cb0 := (x_b0).c 0 _ rfl
  have zb0 := (x_b0).lt
  go_wp2_with fail
  refine (S1 _ _ _ (H1.out.below hB0) (H3.out.below hB0)).mono ?_
  rintro e w1 ⟨rfl, hb⟩
  clear ca0 za0 cb0 zb0
  have hB1 : Below w.heap.size w w1 := below_thru hB0 hb
  have hs1 := hB1.size
  have x_a1 : Box w1 (w.heap.size) ([.slice a1 O.pv.length c1, .slice a2 O.nx.length c2, .int .i64 O.hd, .int .i64 O.tl]) := Box.below x_a0 hb
  have x_b1 : Box w1 (w.heap.size + 1) ([.slice a3 U.pv.length c3, .slice a4 U.nx.length c4, .int .i64 U.hd, .int .i64 U.tl]) := Box.below x_b0 hb
  clear hB0 hs0 x_a0 x_b0
  clear hb
  have ca1 := (x_a1).c 1 _ rfl
  have za1 := (x_a1).lt
  have cb1 := (x_b1).c 1 _ rfl
  have zb1 := (x_b1).lt
  go_wp2_with fail
  refine (S2 _ _ _ (H2.out.below hB1) (H4.out.below hB1)).mono ?_
  rintro e w2 ⟨rfl, hb⟩
  clear ca1 za1 cb1 zb1
  have hB2 : Below w.heap.size w w2 := below_thru hB1 hb
  have hs2 := hB2.size
  have x_a2 : Box w2 (w.heap.size) ([.slice a1 O.pv.length c1, .slice a2 O.nx.length c2, .int .i64 O.hd, .int .i64 O.tl]) := Box.below x_a1 hb
  have x_b2 : Box w2 (w.heap.size + 1) ([.slice a3 U.pv.length c3, .slice a4 U.nx.length c4, .int .i64 U.hd, .int .i64 U.tl]) := Box.below x_b1 hb
  clear hB1 hs1 x_a1 x_b1
  clear hb
  go_wp2_with fail
  go_returns
  exact ⟨rfl, hB2⟩

set_option maxRecDepth 100000 in
set_option maxHeartbeats 6400000 in
theorem rlsame_c {v u : Value} {O U : Od} (hp : O.pv = U.pv) (hx : O.nx = U.nx) (hh : O.hd ≠ U.hd) (w : World) (h1 : IsO w v O) (h2 : IsO w u U) : Calls Try.prog 16 #[v, u] w fun e w' => e = .returned (.bool false) ∧ Below w.heap.size w w' := by
  have S1 := fun (W : World) (a b : Value) (h : IsR LI W a O.pv) (g : IsR LI W b U.pv) => rlsi_is (b := true) W h g ⟨fun _ => hp, fun _ => rfl⟩
  have S2 := fun (W : World) (a b : Value) (h : IsR LI W a O.nx) (g : IsR LI W b U.nx) => rlsi_is (b := true) W h g ⟨fun _ => hx, fun _ => rfl⟩
  have d1 : (O.hd == U.hd) = false := beq_eq_false_iff_ne.2 hh
  clear hp hx hh
  have HO := Lib.hid h1
  obtain ⟨v1, v2, rfl, g1, g2⟩ := id h1
  obtain ⟨a1, c1, rfl, hr1⟩ := id g1; obtain ⟨a2, c2, rfl, hr2⟩ := id g2
  have m1 := hr1.most; have r1 := hr1.room; have m2 := hr2.most; have r2 := hr2.room; have H1 := Lib.hid g1; have H2 := Lib.hid g2
  clear hr1 hr2 g1 g2 h1
  obtain ⟨v3, v4, rfl, g3, g4⟩ := id h2; obtain ⟨a3, c3, rfl, hr3⟩ := id g3; obtain ⟨a4, c4, rfl, hr4⟩ := id g4; have H3 := Lib.hid g3; have H4 := Lib.hid g4; clear hr3 hr4 g3 g4 h2
  go_enter Try.func16, Try.ntmps16
  go_upto_region 1 with fail
  refine F_gen (F := fun W => Code.wp _ _ _ _ W) (J := fun W => Box W (w.heap.size) ([.slice a1 O.pv.length c1, .slice a2 O.nx.length c2, .int .i64 O.hd, .int .i64 O.tl]) ∧ Box W (w.heap.size + 1) ([.slice a3 U.pv.length c3, .slice a4 U.nx.length c4, .int .i64 U.hd, .int .i64 U.tl]) ∧ Below w.heap.size w W) (And.intro (Box.alloc (Box.newc rfl rfl) _) (And.intro (Box.newc rfl (by simp)) (by go_grown))) ?_
  intro w0 ⟨e_a, e_b, hB0⟩
  have hs0 := hB0.size
  have x_a0 := e_a; clear e_a
  have x_b0 := e_b; clear e_b
  have ca0 := (x_a0).c 0 _ rfl
  have za0 := (x_a0).lt
  have cb0 := (x_b0).c 0 _ rfl
  have zb0 := (x_b0).lt
  go_wp2_with fail
  refine (S1 _ _ _ (H1.out.below hB0) (H3.out.below hB0)).mono ?_
  rintro e w1 ⟨rfl, hb⟩
  clear ca0 za0 cb0 zb0
  have hB1 : Below w.heap.size w w1 := below_thru hB0 hb
  have hs1 := hB1.size
  have x_a1 : Box w1 (w.heap.size) ([.slice a1 O.pv.length c1, .slice a2 O.nx.length c2, .int .i64 O.hd, .int .i64 O.tl]) := Box.below x_a0 hb
  have x_b1 : Box w1 (w.heap.size + 1) ([.slice a3 U.pv.length c3, .slice a4 U.nx.length c4, .int .i64 U.hd, .int .i64 U.tl]) := Box.below x_b0 hb
  clear hB0 hs0 x_a0 x_b0
  clear hb
  have ca1 := (x_a1).c 1 _ rfl
  have za1 := (x_a1).lt
  have cb1 := (x_b1).c 1 _ rfl
  have zb1 := (x_b1).lt
  go_wp2_with fail
  refine (S2 _ _ _ (H2.out.below hB1) (H4.out.below hB1)).mono ?_
  rintro e w2 ⟨rfl, hb⟩
  clear ca1 za1 cb1 zb1
  have hB2 : Below w.heap.size w w2 := below_thru hB1 hb
  have hs2 := hB2.size
  have x_a2 : Box w2 (w.heap.size) ([.slice a1 O.pv.length c1, .slice a2 O.nx.length c2, .int .i64 O.hd, .int .i64 O.tl]) := Box.below x_a1 hb
  have x_b2 : Box w2 (w.heap.size + 1) ([.slice a3 U.pv.length c3, .slice a4 U.nx.length c4, .int .i64 U.hd, .int .i64 U.tl]) := Box.below x_b1 hb
  clear hB1 hs1 x_a1 x_b1
  clear hb
  have ca2 := (x_a2).c 2 _ rfl
  have za2 := (x_a2).lt
  have cb2 := (x_b2).c 2 _ rfl
  have zb2 := (x_b2).lt
  go_wp2_with fail
  go_returns
  exact ⟨rfl, hB2⟩

set_option maxRecDepth 100000 in
set_option maxHeartbeats 6400000 in
theorem rlsame_d {v u : Value} {O U : Od} (hp : O.pv = U.pv) (hx : O.nx = U.nx) (hh : O.hd = U.hd) (ht : O.tl ≠ U.tl) (w : World) (h1 : IsO w v O) (h2 : IsO w u U) : Calls Try.prog 16 #[v, u] w fun e w' => e = .returned (.bool false) ∧ Below w.heap.size w w' := by
  have S1 := fun (W : World) (a b : Value) (h : IsR LI W a O.pv) (g : IsR LI W b U.pv) => rlsi_is (b := true) W h g ⟨fun _ => hp, fun _ => rfl⟩
  have S2 := fun (W : World) (a b : Value) (h : IsR LI W a O.nx) (g : IsR LI W b U.nx) => rlsi_is (b := true) W h g ⟨fun _ => hx, fun _ => rfl⟩
  have d1 : (O.hd == U.hd) = true := beq_iff_eq.2 hh
  have d2 : (O.tl == U.tl) = false := beq_eq_false_iff_ne.2 ht
  clear hp hx hh ht
  have HO := Lib.hid h1
  obtain ⟨v1, v2, rfl, g1, g2⟩ := id h1
  obtain ⟨a1, c1, rfl, hr1⟩ := id g1; obtain ⟨a2, c2, rfl, hr2⟩ := id g2
  have m1 := hr1.most; have r1 := hr1.room; have m2 := hr2.most; have r2 := hr2.room; have H1 := Lib.hid g1; have H2 := Lib.hid g2
  clear hr1 hr2 g1 g2 h1
  obtain ⟨v3, v4, rfl, g3, g4⟩ := id h2; obtain ⟨a3, c3, rfl, hr3⟩ := id g3; obtain ⟨a4, c4, rfl, hr4⟩ := id g4; have H3 := Lib.hid g3; have H4 := Lib.hid g4; clear hr3 hr4 g3 g4 h2
  go_enter Try.func16, Try.ntmps16
  go_upto_region 1 with fail
  refine F_gen (F := fun W => Code.wp _ _ _ _ W) (J := fun W => Box W (w.heap.size) ([.slice a1 O.pv.length c1, .slice a2 O.nx.length c2, .int .i64 O.hd, .int .i64 O.tl]) ∧ Box W (w.heap.size + 1) ([.slice a3 U.pv.length c3, .slice a4 U.nx.length c4, .int .i64 U.hd, .int .i64 U.tl]) ∧ Below w.heap.size w W) (And.intro (Box.alloc (Box.newc rfl rfl) _) (And.intro (Box.newc rfl (by simp)) (by go_grown))) ?_
  intro w0 ⟨e_a, e_b, hB0⟩
  have hs0 := hB0.size
  have x_a0 := e_a; clear e_a
  have x_b0 := e_b; clear e_b
  have ca0 := (x_a0).c 0 _ rfl
  have za0 := (x_a0).lt
  have cb0 := (x_b0).c 0 _ rfl
  have zb0 := (x_b0).lt
  go_wp2_with fail
  refine (S1 _ _ _ (H1.out.below hB0) (H3.out.below hB0)).mono ?_
  rintro e w1 ⟨rfl, hb⟩
  clear ca0 za0 cb0 zb0
  have hB1 : Below w.heap.size w w1 := below_thru hB0 hb
  have hs1 := hB1.size
  have x_a1 : Box w1 (w.heap.size) ([.slice a1 O.pv.length c1, .slice a2 O.nx.length c2, .int .i64 O.hd, .int .i64 O.tl]) := Box.below x_a0 hb
  have x_b1 : Box w1 (w.heap.size + 1) ([.slice a3 U.pv.length c3, .slice a4 U.nx.length c4, .int .i64 U.hd, .int .i64 U.tl]) := Box.below x_b0 hb
  clear hB0 hs0 x_a0 x_b0
  clear hb
  have ca1 := (x_a1).c 1 _ rfl
  have za1 := (x_a1).lt
  have cb1 := (x_b1).c 1 _ rfl
  have zb1 := (x_b1).lt
  go_wp2_with fail
  refine (S2 _ _ _ (H2.out.below hB1) (H4.out.below hB1)).mono ?_
  rintro e w2 ⟨rfl, hb⟩
  clear ca1 za1 cb1 zb1
  have hB2 : Below w.heap.size w w2 := below_thru hB1 hb
  have hs2 := hB2.size
  have x_a2 : Box w2 (w.heap.size) ([.slice a1 O.pv.length c1, .slice a2 O.nx.length c2, .int .i64 O.hd, .int .i64 O.tl]) := Box.below x_a1 hb
  have x_b2 : Box w2 (w.heap.size + 1) ([.slice a3 U.pv.length c3, .slice a4 U.nx.length c4, .int .i64 U.hd, .int .i64 U.tl]) := Box.below x_b1 hb
  clear hB1 hs1 x_a1 x_b1
  clear hb
  have ca2 := (x_a2).c 2 _ rfl
  have za2 := (x_a2).lt
  have cb2 := (x_b2).c 2 _ rfl
  have zb2 := (x_b2).lt
  have ca3 := (x_a2).c 3 _ rfl
  have za3 := (x_a2).lt
  have cb3 := (x_b2).c 3 _ rfl
  have zb3 := (x_b2).lt
  go_wp2_with fail
  go_returns
  exact ⟨rfl, hB2⟩

set_option maxRecDepth 100000 in
set_option maxHeartbeats 6400000 in
theorem rlsame_e {v u : Value} {O U : Od} (hp : O.pv = U.pv) (hx : O.nx = U.nx) (hh : O.hd = U.hd) (ht : O.tl = U.tl) (w : World) (h1 : IsO w v O) (h2 : IsO w u U) : Calls Try.prog 16 #[v, u] w fun e w' => e = .returned (.bool true) ∧ Below w.heap.size w w' := by
  have S1 := fun (W : World) (a b : Value) (h : IsR LI W a O.pv) (g : IsR LI W b U.pv) => rlsi_is (b := true) W h g ⟨fun _ => hp, fun _ => rfl⟩
  have S2 := fun (W : World) (a b : Value) (h : IsR LI W a O.nx) (g : IsR LI W b U.nx) => rlsi_is (b := true) W h g ⟨fun _ => hx, fun _ => rfl⟩
  have d1 : (O.hd == U.hd) = true := beq_iff_eq.2 hh
  have d2 : (O.tl == U.tl) = true := beq_iff_eq.2 ht
  clear hp hx hh ht
  have HO := Lib.hid h1
  obtain ⟨v1, v2, rfl, g1, g2⟩ := id h1
  obtain ⟨a1, c1, rfl, hr1⟩ := id g1; obtain ⟨a2, c2, rfl, hr2⟩ := id g2
  have m1 := hr1.most; have r1 := hr1.room; have m2 := hr2.most; have r2 := hr2.room; have H1 := Lib.hid g1; have H2 := Lib.hid g2
  clear hr1 hr2 g1 g2 h1
  obtain ⟨v3, v4, rfl, g3, g4⟩ := id h2; obtain ⟨a3, c3, rfl, hr3⟩ := id g3; obtain ⟨a4, c4, rfl, hr4⟩ := id g4; have H3 := Lib.hid g3; have H4 := Lib.hid g4; clear hr3 hr4 g3 g4 h2
  go_enter Try.func16, Try.ntmps16
  go_upto_region 1 with fail
  refine F_gen (F := fun W => Code.wp _ _ _ _ W) (J := fun W => Box W (w.heap.size) ([.slice a1 O.pv.length c1, .slice a2 O.nx.length c2, .int .i64 O.hd, .int .i64 O.tl]) ∧ Box W (w.heap.size + 1) ([.slice a3 U.pv.length c3, .slice a4 U.nx.length c4, .int .i64 U.hd, .int .i64 U.tl]) ∧ Below w.heap.size w W) (And.intro (Box.alloc (Box.newc rfl rfl) _) (And.intro (Box.newc rfl (by simp)) (by go_grown))) ?_
  intro w0 ⟨e_a, e_b, hB0⟩
  have hs0 := hB0.size
  have x_a0 := e_a; clear e_a
  have x_b0 := e_b; clear e_b
  have ca0 := (x_a0).c 0 _ rfl
  have za0 := (x_a0).lt
  have cb0 := (x_b0).c 0 _ rfl
  have zb0 := (x_b0).lt
  go_wp2_with fail
  refine (S1 _ _ _ (H1.out.below hB0) (H3.out.below hB0)).mono ?_
  rintro e w1 ⟨rfl, hb⟩
  clear ca0 za0 cb0 zb0
  have hB1 : Below w.heap.size w w1 := below_thru hB0 hb
  have hs1 := hB1.size
  have x_a1 : Box w1 (w.heap.size) ([.slice a1 O.pv.length c1, .slice a2 O.nx.length c2, .int .i64 O.hd, .int .i64 O.tl]) := Box.below x_a0 hb
  have x_b1 : Box w1 (w.heap.size + 1) ([.slice a3 U.pv.length c3, .slice a4 U.nx.length c4, .int .i64 U.hd, .int .i64 U.tl]) := Box.below x_b0 hb
  clear hB0 hs0 x_a0 x_b0
  clear hb
  have ca1 := (x_a1).c 1 _ rfl
  have za1 := (x_a1).lt
  have cb1 := (x_b1).c 1 _ rfl
  have zb1 := (x_b1).lt
  go_wp2_with fail
  refine (S2 _ _ _ (H2.out.below hB1) (H4.out.below hB1)).mono ?_
  rintro e w2 ⟨rfl, hb⟩
  clear ca1 za1 cb1 zb1
  have hB2 : Below w.heap.size w w2 := below_thru hB1 hb
  have hs2 := hB2.size
  have x_a2 : Box w2 (w.heap.size) ([.slice a1 O.pv.length c1, .slice a2 O.nx.length c2, .int .i64 O.hd, .int .i64 O.tl]) := Box.below x_a1 hb
  have x_b2 : Box w2 (w.heap.size + 1) ([.slice a3 U.pv.length c3, .slice a4 U.nx.length c4, .int .i64 U.hd, .int .i64 U.tl]) := Box.below x_b1 hb
  clear hB1 hs1 x_a1 x_b1
  clear hb
  have ca2 := (x_a2).c 2 _ rfl
  have za2 := (x_a2).lt
  have cb2 := (x_b2).c 2 _ rfl
  have zb2 := (x_b2).lt
  have ca3 := (x_a2).c 3 _ rfl
  have za3 := (x_a2).lt
  have cb3 := (x_b2).c 3 _ rfl
  have zb3 := (x_b2).lt
  go_wp2_with fail
  go_returns
  exact ⟨rfl, hB2⟩

theorem rlsame_is {v u : Value} {O U : Od} {b : Bool} (hb : b = true ↔ O = U) (w : World) (h1 : IsO w v O) (h2 : IsO w u U) : Calls Try.prog 16 #[v, u] w fun e w' => e = .returned (.bool b) ∧ Below w.heap.size w w' := by
  have no : O ≠ U → b = false := fun h => bool_eq12 hb ⟨fun h => (Bool.false_ne_true h).elim, fun q => absurd q h⟩
  by_cases hp : O.pv = U.pv
  · by_cases hx : O.nx = U.nx
    · by_cases hh : O.hd = U.hd
      · by_cases ht : O.tl = U.tl
        · rw [hb.2 (Od.ext' hp hx hh ht)]
          exact rlsame_e hp hx hh ht w h1 h2
        · rw [no fun e => ht (by rw [e])]
          exact rlsame_d hp hx hh ht w h1 h2
      · rw [no fun e => hh (by rw [e])]
        exact rlsame_c hp hx hh w h1 h2
    · rw [no fun e => hx (by rw [e])]
      exact rlsame_b hp hx w h1 h2
  · rw [no fun e => hp (by rw [e])]
    exact rlsame_a hp w h1 h2

set_option maxRecDepth 100000 in
set_option maxHeartbeats 6400000 in
theorem rlall_is {v : Value} {O : Od} {r : Option (List Nat)} (w : World) (h1 : IsO w v O) (hm : O.nx.length ≤ 200) (hr : FrA ⟨O.nx, [], O.hd⟩ r) : Calls Try.prog 35 #[v] w fun e w' => ∃ u, e = .returned (.tuple #[u, .bool r.isSome]) ∧ IsR LI w' u (nums (r.getD [])) ∧ (∀ k, u.ownBlock = some k → w.heap.size ≤ k) ∧ Below w.heap.size w w' := by
  have HO := Lib.hid h1
  obtain ⟨v1, v2, rfl, g1, g2⟩ := id h1
  obtain ⟨a1, c1, rfl, hr1⟩ := id g1; obtain ⟨a2, c2, rfl, hr2⟩ := id g2
  have m1 := hr1.most; have r1 := hr1.room; have m2 := hr2.most; have r2 := hr2.room; have H1 := Lib.hid g1; have H2 := Lib.hid g2
  clear hr1 hr2 g1 g2 h1
  obtain ⟨n, hn⟩ : ∃ n, O.nx.length = n := ⟨_, rfl⟩
  rw [hn] at hm r2 H2 HO ⊢
  have HN := Lib.hid hn; have HR := Lib.hid hr; clear hn hr
  have IN := fun (W : World) (u : Value) (l : List Nat) (i : Nat) (b : Bool) (h : IsR LI W u (nums l)) (hb : b = true ↔ i ∈ l) => rin_is (x := (i : Int)) (b := b) W h (hb.trans nums_mem.symm)
  obtain ⟨ti, hin, hz0, hz1, hz2⟩ := info_parts info_in
  go_enter Try.func35, Try.ntmps35
  go_upto_region 1 with fail
  refine F_gen (F := fun W => Code.wp _ _ _ _ W) (J := fun W => Box W (w.heap.size) ([.slice a1 O.pv.length c1, .slice a2 n c2, .int .i64 O.hd, .int .i64 O.tl]) ∧ Below w.heap.size w W) (And.intro (Box.newc rfl rfl) (by go_grown)) ?_
  intro w0 ⟨e_a, hB0⟩
  have hs0 := hB0.size
  have x_a0 := e_a; clear e_a
  have lo := x_a0.lt
  have ca := (x_a0).c 2 _ rfl
  have za := (x_a0).lt
  go_wp2_with fail
  clear ca za
  go_loopg [4, 5] n (fun k p4 p5 wr => ∃ (l : List Nat) (p : Int), p5 = .int .i64 p ∧ k = n - l.length ∧ Hid (Way (Ar.mk O.nx [] O.hd) l p) ∧ Hid (wr.ownsRow (w.heap.size + 1) 3 1 p4 l.length (flatR LI (nums l))) ∧ Box wr w.heap.size [.slice a1 O.pv.length c1, .slice a2 n c2, .int .i64 O.hd, .int .i64 O.tl] ∧ Below w.heap.size w wr)
  case atStart => exact ⟨[], O.hd, rfl, rfl, Lib.hid ⟨rfl, List.nodup_nil⟩, Lib.hid ownR_none, x_a0, hB0⟩
  case round =>
    clear x_a0 hB0 hs0 lo
    obtain ⟨l, p, rfl, rfl, HW, HO2, x_a, hB⟩ := hrel
    have hs := hB.size; have za := x_a.lt; have ca := x_a.c 1 _ rfl
    obtain ⟨pa, pc, rfl⟩ := own_slR HO2.out
    have HLn := Lib.hid (show l.length ≤ n by have := nodup_le n l HW.out.2 (fun i hi => by have h9 : i < O.nx.length := HW.out.1.lt i hi; have h8 := HN.out; omega); exact this)
    by_cases hp1 : p = -1
    case pos =>
      subst hp1
      have HX := Lib.hid (HR.out.yes HW.out)
      have HI : Hid (IsR LI wr (.slice pa l.length pc) (nums l)) := Lib.hid (IsR.own HO2.out rfl (nums_len l).symm); have HK := Lib.hid (ownR_block HO2.out)
      clear HW HO2
      go_wp2_with fail
      go_returns
      rw [HX.out]
      exact ⟨_, rfl, HI.out, (fun q e => by have := HK.out q e; omega), hB⟩
    case neg =>
      have d0 : (p != -1) = true := by rw [bne_iff_ne]; exact hp1
      by_cases hlo : p < 0
      case pos =>
        have HX := Lib.hid (HR.out.no fun l' => HW.out.out hp1 (Or.inl hlo))
        have d1 : decide (p < 0) = true := decide_eq_true hlo
        clear HW HO2 hp1
        go_wp2_with fail
        go_returns
        rw [HX.out]
        exact ⟨_, rfl, IsR.none, none_own _, hB⟩
      case neg =>
        have d1 : decide (p < 0) = false := decide_eq_false hlo
        by_cases hhi : (n : Int) ≤ p
        case pos =>
          have HX := Lib.hid (HR.out.no fun l' => HW.out.out hp1 (Or.inr (by have h8 := HN.out; show (O.nx.length : Int) ≤ p; omega)))
          have d2 : decide ((n : Int) ≤ p) = true := decide_eq_true hhi
          clear HW HO2 hp1
          go_wp2_with fail
          go_returns
          rw [HX.out]
          exact ⟨_, rfl, IsR.none, none_own _, hB⟩
        case neg =>
          have d2 : decide ((n : Int) ≤ p) = false := decide_eq_false hhi
          obtain ⟨i, rfl⟩ : ∃ i : Nat, p = (i : Int) := ⟨p.toNat, by omega⟩
          have hin_ : i < n := by omega
          obtain ⟨b, hb⟩ := bool_of (i ∈ l)
          have HI : Hid (IsR LI wr (.slice pa l.length pc) (nums l)) := Lib.hid (IsR.own HO2.out rfl (nums_len l).symm)
          obtain ⟨x, hx⟩ : ∃ x, O.nx[i]? = some x := ⟨_, List.getElem?_eq_getElem (by rw [HN.out]; exact hin_)⟩
          obtain ⟨b1, o1, rfl, e1⟩ := H2.out.getI hx
          have E1 := Lib.hid e1; clear e1
          go_wp2_with fail
          refine (IN _ _ l i b HI.out hb).mono ?_
          rintro e w2 ⟨rfl, hb2⟩
          have x_a2 := Box.below x_a hb2; have hB2 := below_thru hB hb2; have hs2 := hB2.size; have HO3 := Lib.hid (ownR_below HO2.out hb2)
          clear x_a hB hb2 hs ca za HO2 HI d0 d1 d2
          cases b with
          | true =>
            have HX := Lib.hid (HR.out.no fun l' => HW.out.twice (hb.1 rfl))
            clear HW HO3 hp1 hb hx
            go_wp2_with fail
            go_returns
            rw [HX.out]
            exact ⟨_, rfl, IsR.none, none_own _, hB2⟩
          | false =>
            have hil : i ∉ l := fun q => Bool.false_ne_true (hb.2 q)
            have HW2 := Lib.hid (HW.out.step hx hil)
            have HG := Lib.hid (show n - (l ++ [i]).length < n - l.length from by
              have := nodup_le n (l ++ [i]) HW2.out.2 (fun j hj => by have h9 : j < O.nx.length := HW2.out.1.lt j hj; have h8 := HN.out; omega)
              rw [List.length_append, List.length_singleton] at this ⊢
              omega)
            clear HW hp1 hb hx hil hin_
            have ltz := x_a2.lt
            have LX : IsR LI (w2.alloc (.cells #[.int .i64 (i : Int)] 3)) (.slice (some ⟨w2.heap.size, 0, none⟩) 1 1) [(i : Int)] := IsR.built [(i : Int)] rfl rfl rfl rfl (show 1 ≤ 1000 by decide)
            have LO := ownR_below HO3.out ((Below.refl _ _).alloc (Nat.le_refl _) (.cells #[.int .i64 (i : Int)] 3))
            have HL2 := HLn.out
            go_upto_region 4 with (at_builtin; refine wpList_append_rows rfl LI _ _ 22 rfl (w.heap.size + 1) 3 ti (.int .i64 0) 1 8 rfl Try.underlying22 hin hz0 hz1 hz2 rfl _ l.length _ rfl LO _ [(i : Int)] rfl LX (by have := HLn.out; unfold maxLen; simp; omega) (by have := HLn.out; simp; omega) (by simp; omega) ?_; intro v40 w40 own4 gr4)
            have hKB := (Below.refl (w.heap.size + 1) _).grown gr4 (by simp; omega) (ownR_block LO)
            have x_a3 : Box w40 w.heap.size _ := Box.keep12 (x_a2.alloc (.cells #[.int .i64 (i : Int)] 3)) hKB (by omega)
            have hB3 : Below w.heap.size w w40 := (hB2.alloc (by omega) (.cells #[.int .i64 (i : Int)] 3)).trans (hKB.mono (by omega))
            have HO4 : Hid (w40.ownsRow (w.heap.size + 1) 3 1 v40 (l ++ [i]).length (flatR LI (nums (l ++ [i])))) := Lib.hid (by
              rw [nums_snoc, flatR_app, List.length_append]
              exact own4)
            clear own4 gr4 hKB LO LX HO3 x_a2 hB2 hs2 ltz HL2
            have hs3 := hB3.size
            have f1 := cell_below hB3 E1.out; have z1 := lt_of_cell f1; have ca := x_a3.c 1 _ rfl; have za := x_a3.lt; have i0 : (0 : Int) ≤ (i : Int) := (by omega); have i1 : (i : Int) < (n : Int) := (by omega)
            go_wp2_with fail
            go_roundg (n - (l ++ [i]).length)
            case measure => exact HG.out
            case rel => exact ⟨_, x, rfl, rfl, HW2, HO4, x_a3, hB3⟩


end Go.Proofs.Ytjhlpkkefdohjaa
