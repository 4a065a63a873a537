/-
  The reference of layer 13, walked: Same, New.
-/
import Derived.Test.YtepimljjbmoojaaArF
namespace Go.Proofs.Ytepimljjbmoojaa
open Go.RowKit

theorem size_si : (Try.prog.info? 22).map (·.size) = some 1 := by kernel_rfl
theorem size_sb : (Try.prog.info? 23).map (·.size) = some 1 := by kernel_rfl
set_option maxRecDepth 100000 in
set_option maxHeartbeats 6400000 in
theorem rsame_a {v u : Value} {A B : Ar} (hf : A.fr ≠ B.fr) (w : World) (h1 : IsA w v A) (h2 : IsA w u B) : Calls Try.prog 16 #[v, u] w fun e w' => e = .returned (.bool false) ∧ Below w.heap.size w w' := by
  have HA := Lib.hid h1
  obtain ⟨v1, v2, rfl, g1, g2⟩ := id h1
  obtain ⟨a1, c1, rfl, hr1⟩ := id g1; obtain ⟨a2, c2, rfl, hr2⟩ := id g2
  have m1 := hr1.most; have r1 := hr1.room; have m2 := hr2.most; have r2 := hr2.room; have H1 := Lib.hid g1; have H2 := Lib.hid g2
  clear hr1 hr2 g1 g2 h1
  obtain ⟨v3, v4, rfl, g3, g4⟩ := id h2
  obtain ⟨a3, c3, rfl, hr3⟩ := id g3; obtain ⟨a4, c4, rfl, hr4⟩ := id g4
  have m3 := hr3.most; have r3 := hr3.room; have m4 := hr4.most; have r4 := hr4.room; have H3 := Lib.hid g3; have H4 := Lib.hid g4
  clear hr3 hr4 g3 g4 h2
  have d0 : (A.fr != B.fr) = true := by rw [bne_iff_ne]; omega
  clear HA H1 H2 H3 H4 hf
  go_enter Try.func16, Try.ntmps16
  go_upto_region 1 with fail
  refine F_gen (F := fun W => Code.wp _ _ _ _ W) (J := fun W => Box W (w.heap.size) ([.slice a1 A.nx.length c1, .slice a2 A.us.length c2, .int .i64 A.fr]) ∧ Box W (w.heap.size + 1) ([.slice a3 B.nx.length c3, .slice a4 B.us.length c4, .int .i64 B.fr]) ∧ Below w.heap.size w W) (And.intro (Box.alloc (Box.newc rfl rfl) _) (And.intro (Box.newc rfl (by simp)) (by go_grown))) ?_
  intro w0 ⟨e_a, e_b, hB0⟩
  have hs0 := hB0.size
  have x_a0 := e_a; clear e_a
  have x_b0 := e_b; clear e_b
  have ca0 := (x_a0).c 0 _ rfl
  have za0 := (x_a0).lt
  have ca1 := (x_a0).c 1 _ rfl
  have za1 := (x_a0).lt
  have ca2 := (x_a0).c 2 _ rfl
  have za2 := (x_a0).lt
  have cb0 := (x_b0).c 0 _ rfl
  have zb0 := (x_b0).lt
  have cb1 := (x_b0).c 1 _ rfl
  have zb1 := (x_b0).lt
  have cb2 := (x_b0).c 2 _ rfl
  have zb2 := (x_b0).lt
  go_wp2_with fail
  go_returns
  exact ⟨rfl, hB0⟩

set_option maxRecDepth 100000 in
set_option maxHeartbeats 6400000 in
theorem rsame_b {v u : Value} {A B : Ar} (hf : A.fr = B.fr) (hn : A.nx.length ≠ B.nx.length) (w : World) (h1 : IsA w v A) (h2 : IsA w u B) : Calls Try.prog 16 #[v, u] w fun e w' => e = .returned (.bool false) ∧ Below w.heap.size w w' := by
  have HA := Lib.hid h1
  obtain ⟨v1, v2, rfl, g1, g2⟩ := id h1
  obtain ⟨a1, c1, rfl, hr1⟩ := id g1; obtain ⟨a2, c2, rfl, hr2⟩ := id g2
  have m1 := hr1.most; have r1 := hr1.room; have m2 := hr2.most; have r2 := hr2.room; have H1 := Lib.hid g1; have H2 := Lib.hid g2
  clear hr1 hr2 g1 g2 h1
  obtain ⟨v3, v4, rfl, g3, g4⟩ := id h2
  obtain ⟨a3, c3, rfl, hr3⟩ := id g3; obtain ⟨a4, c4, rfl, hr4⟩ := id g4
  have m3 := hr3.most; have r3 := hr3.room; have m4 := hr4.most; have r4 := hr4.room; have H3 := Lib.hid g3; have H4 := Lib.hid g4
  clear hr3 hr4 g3 g4 h2
  have d0 : (A.fr != B.fr) = false := by rw [bne_eq_false_iff_eq]; omega
  have d1 : ((A.nx.length : Int) != (B.nx.length : Int)) = true := by rw [bne_iff_ne]; omega
  clear HA H1 H2 H3 H4 hf hn
  go_enter Try.func16, Try.ntmps16
  go_upto_region 1 with fail
  refine F_gen (F := fun W => Code.wp _ _ _ _ W) (J := fun W => Box W (w.heap.size) ([.slice a1 A.nx.length c1, .slice a2 A.us.length c2, .int .i64 A.fr]) ∧ Box W (w.heap.size + 1) ([.slice a3 B.nx.length c3, .slice a4 B.us.length c4, .int .i64 B.fr]) ∧ Below w.heap.size w W) (And.intro (Box.alloc (Box.newc rfl rfl) _) (And.intro (Box.newc rfl (by simp)) (by go_grown))) ?_
  intro w0 ⟨e_a, e_b, hB0⟩
  have hs0 := hB0.size
  have x_a0 := e_a; clear e_a
  have x_b0 := e_b; clear e_b
  have ca0 := (x_a0).c 0 _ rfl
  have za0 := (x_a0).lt
  have ca1 := (x_a0).c 1 _ rfl
  have za1 := (x_a0).lt
  have ca2 := (x_a0).c 2 _ rfl
  have za2 := (x_a0).lt
  have cb0 := (x_b0).c 0 _ rfl
  have zb0 := (x_b0).lt
  have cb1 := (x_b0).c 1 _ rfl
  have zb1 := (x_b0).lt
  have cb2 := (x_b0).c 2 _ rfl
  have zb2 := (x_b0).lt
  go_wp2_with fail
  go_returns
  exact ⟨rfl, hB0⟩

set_option maxRecDepth 100000 in
set_option maxHeartbeats 6400000 in
theorem rsame_c {v u : Value} {A B : Ar} (hf : A.fr = B.fr) (hn : A.nx.length = B.nx.length) (hu : A.us.length ≠ B.us.length) (w : World) (h1 : IsA w v A) (h2 : IsA w u B) : Calls Try.prog 16 #[v, u] w fun e w' => e = .returned (.bool false) ∧ Below w.heap.size w w' := by
  have HA := Lib.hid h1
  obtain ⟨v1, v2, rfl, g1, g2⟩ := id h1
  obtain ⟨a1, c1, rfl, hr1⟩ := id g1; obtain ⟨a2, c2, rfl, hr2⟩ := id g2
  have m1 := hr1.most; have r1 := hr1.room; have m2 := hr2.most; have r2 := hr2.room; have H1 := Lib.hid g1; have H2 := Lib.hid g2
  clear hr1 hr2 g1 g2 h1
  obtain ⟨v3, v4, rfl, g3, g4⟩ := id h2
  obtain ⟨a3, c3, rfl, hr3⟩ := id g3; obtain ⟨a4, c4, rfl, hr4⟩ := id g4
  have m3 := hr3.most; have r3 := hr3.room; have m4 := hr4.most; have r4 := hr4.room; have H3 := Lib.hid g3; have H4 := Lib.hid g4
  clear hr3 hr4 g3 g4 h2
  have d0 : (A.fr != B.fr) = false := by rw [bne_eq_false_iff_eq]; omega
  have d1 : ((A.nx.length : Int) != (B.nx.length : Int)) = false := by rw [bne_eq_false_iff_eq]; omega
  have d2 : ((A.us.length : Int) != (B.us.length : Int)) = true := by rw [bne_iff_ne]; omega
  clear HA H1 H2 H3 H4 hf hn hu
  go_enter Try.func16, Try.ntmps16
  go_upto_region 1 with fail
  refine F_gen (F := fun W => Code.wp _ _ _ _ W) (J := fun W => Box W (w.heap.size) ([.slice a1 A.nx.length c1, .slice a2 A.us.length c2, .int .i64 A.fr]) ∧ Box W (w.heap.size + 1) ([.slice a3 B.nx.length c3, .slice a4 B.us.length c4, .int .i64 B.fr]) ∧ Below w.heap.size w W) (And.intro (Box.alloc (Box.newc rfl rfl) _) (And.intro (Box.newc rfl (by simp)) (by go_grown))) ?_
  intro w0 ⟨e_a, e_b, hB0⟩
  have hs0 := hB0.size
  have x_a0 := e_a; clear e_a
  have x_b0 := e_b; clear e_b
  have ca0 := (x_a0).c 0 _ rfl
  have za0 := (x_a0).lt
  have ca1 := (x_a0).c 1 _ rfl
  have za1 := (x_a0).lt
  have ca2 := (x_a0).c 2 _ rfl
  have za2 := (x_a0).lt
  have cb0 := (x_b0).c 0 _ rfl
  have zb0 := (x_b0).lt
  have cb1 := (x_b0).c 1 _ rfl
  have zb1 := (x_b0).lt
  have cb2 := (x_b0).c 2 _ rfl
  have zb2 := (x_b0).lt
  go_wp2_with fail
  go_returns
  exact ⟨rfl, hB0⟩

set_option maxRecDepth 100000 in
set_option maxHeartbeats 6400000 in
theorem rsame_d {v u : Value} {A B : Ar} {b : Bool} (hf : A.fr = B.fr) (hn : A.nx.length = B.nx.length) (hu : A.us.length = B.us.length) (hb : b = true ↔ A = B) (w : World) (h1 : IsA w v A) (h2 : IsA w u B) : Calls Try.prog 16 #[v, u] w fun e w' => e = .returned (.bool b) ∧ Below w.heap.size w w' := by
  have HA := Lib.hid h1
  obtain ⟨v1, v2, rfl, g1, g2⟩ := id h1
  obtain ⟨a1, c1, rfl, hr1⟩ := id g1; obtain ⟨a2, c2, rfl, hr2⟩ := id g2
  have m1 := hr1.most; have r1 := hr1.room; have m2 := hr2.most; have r2 := hr2.room; have H1 := Lib.hid g1; have H2 := Lib.hid g2
  clear hr1 hr2 g1 g2 h1
  obtain ⟨v3, v4, rfl, g3, g4⟩ := id h2
  obtain ⟨a3, c3, rfl, hr3⟩ := id g3; obtain ⟨a4, c4, rfl, hr4⟩ := id g4
  have m3 := hr3.most; have r3 := hr3.room; have m4 := hr4.most; have r4 := hr4.room; have H3 := Lib.hid g3; have H4 := Lib.hid g4
  clear hr3 hr4 g3 g4 h2
  rw [← hn] at r3 H3 ⊢; rw [← hu] at r4 H4 ⊢; rw [← hf]
  obtain ⟨n, hn2⟩ : ∃ n, A.nx.length = n := ⟨_, rfl⟩; obtain ⟨m, hu2⟩ : ∃ n, A.us.length = n := ⟨_, rfl⟩; rw [hn2] at r1 r3 H1 H3 HA ⊢; rw [hu2] at r2 r4 H2 H4 HA ⊢
  have HN := Lib.hid hn2; have HU := Lib.hid hu2; have HN2 := Lib.hid (hn.symm.trans hn2); have HU2 := Lib.hid (hu.symm.trans hu2); have HF := Lib.hid hf; have HB := Lib.hid hb; clear HA hn hu hn2 hu2 hf hb
  obtain ⟨f, hf⟩ : ∃ f, A.fr = f := ⟨_, rfl⟩; rw [hf]; clear hf
  go_enter Try.func16, Try.ntmps16
  go_upto_region 1 with fail
  refine F_gen (F := fun W => Code.wp _ _ _ _ W) (J := fun W => Box W (w.heap.size) ([.slice a1 n c1, .slice a2 m c2, .int .i64 f]) ∧ Box W (w.heap.size + 1) ([.slice a3 n c3, .slice a4 m c4, .int .i64 f]) ∧ Below w.heap.size w W) (And.intro (Box.alloc (Box.newc rfl rfl) _) (And.intro (Box.newc rfl (by simp)) (by go_grown))) ?_
  intro w0 ⟨e_a, e_b, hB0⟩
  have hs0 := hB0.size
  have x_a0 := e_a; clear e_a
  have x_b0 := e_b; clear e_b
  have ca0 := (x_a0).c 0 _ rfl
  have za0 := (x_a0).lt
  have ca1 := (x_a0).c 1 _ rfl
  have za1 := (x_a0).lt
  have ca2 := (x_a0).c 2 _ rfl
  have za2 := (x_a0).lt
  have cb0 := (x_b0).c 0 _ rfl
  have zb0 := (x_b0).lt
  have cb1 := (x_b0).c 1 _ rfl
  have zb1 := (x_b0).lt
  have cb2 := (x_b0).c 2 _ rfl
  have zb2 := (x_b0).lt
  go_wp2_with fail
  clear ca0 za0 ca1 za1 ca2 za2 cb0 zb0 cb1 zb1 cb2 zb2
  go_loopw [5] (fun i wr => ∃ k : Nat, k ≤ n ∧ i = .int .i64 k ∧ Hid (∀ j : Nat, j < k → A.nx[j]? = B.nx[j]?) ∧ Box wr w.heap.size [.slice a1 n c1, .slice a2 m c2, .int .i64 f] ∧ Box wr (w.heap.size + 1) [.slice a3 n c3, .slice a4 m c4, .int .i64 f] ∧ Below w.heap.size w wr) (fun i _ => n - (intOf i).toNat)
  case atStart => exact ⟨0, Nat.zero_le _, rfl, Lib.hid (fun _ h => absurd h (Nat.not_lt_zero _)), x_a0, x_b0, hB0⟩
  case round =>
    clear x_a0 x_b0 hB0 hs0
    obtain ⟨k, hk, rfl, HE, x_a, x_b, hB⟩ := hrel
    have hs := hB.size; have ca := x_a.c 0 _ rfl; have za := x_a.lt
    by_cases hlt : k < n
    case pos =>
      obtain ⟨x, hx⟩ : ∃ x, A.nx[k]? = some x := ⟨_, List.getElem?_eq_getElem (by rw [HN.out]; exact hlt)⟩; obtain ⟨y, hy⟩ : ∃ x, B.nx[k]? = some x := ⟨_, List.getElem?_eq_getElem (by rw [HN2.out]; exact hlt)⟩
      obtain ⟨b1, o1, rfl, e1⟩ := H1.out.getI hx; obtain ⟨b2, o2, rfl, e2⟩ := H3.out.getI hy
      have f1 := cell_below hB e1; have f2 := cell_below hB e2; have i0 : (0 : Int) ≤ (k : Int) := (by omega); have i1 : (k : Int) < (n : Int) := (by omega)
      clear e1 e2
      go_upto_region 6 with fail
      clear ca za
      by_cases he : x = y
      case pos =>
        subst he
        have HE2 : Hid (∀ j : Nat, j < k + 1 → A.nx[j]? = B.nx[j]?) := Lib.hid (fun j hj => by
          rcases Nat.lt_or_ge j k with g | g
          · exact HE.out j g
          · obtain rfl : j = k := by omega
            rw [hx, hy])
        have d1 : (x != x) = false := bne_self_eq_false x
        clear hx hy HE
        have x_a7 := x_a; have x_b7 := x_b; have hB7 := hB; have hs7 := hs; clear x_a x_b hB hs
        refine wp_region_held_drew (S := fun W => Box W (w.heap.size) ([.slice (some ⟨b1, o1, none⟩) n c1, .slice a2 m c2, .int .i64 f]) ∧ Box W (w.heap.size + 1) ([.slice (some ⟨b2, o2, none⟩) n c3, .slice a4 m c4, .int .i64 f]) ∧ W.cell? ⟨b1, o1 + k, none⟩ = some (.int .i64 x) ∧ W.cell? ⟨b2, o2 + k, none⟩ = some (.int .i64 x)) (by kernel_rfl) (And.intro (x_a7).drew (And.intro (x_b7).drew (And.intro f1 f2))) (fun _ => ?_)
        refine F_drew (F := fun W => wpAnyH _ _ _ _ _ _ _ _ W) ?_
        intro Ws00 hbs00
        clear hs7
        have x_a_s00 : Box Ws00 (w.heap.size) ([.slice (some ⟨b1, o1, none⟩) n c1, .slice a2 m c2, .int .i64 f]) := Box.below x_a7 hbs00
        have x_b_s00 : Box Ws00 (w.heap.size + 1) ([.slice (some ⟨b2, o2, none⟩) n c3, .slice a4 m c4, .int .i64 f]) := Box.below x_b7 hbs00
        have c_p_s00 := cell_below hbs00 f1
        have c_q_s00 := cell_below hbs00 f2
        have Bs00 := below_thru hB7 hbs00
        clear x_a7 x_b7 f1 f2 hB7 hbs00
        refine takeH 0 37 (v := ?vs00_1) rfl (by rfl) (by kernel_rfl) (by kernel_rfl) (by kernel_rfl) (fun _ _ _ h => h) (Or.inl ⟨by rfl, ?_⟩) ((And.intro x_a_s00 (And.intro x_b_s00 (And.intro c_p_s00 c_q_s00)))) ?_
        rotate_left
        · intro wq hSq
          go_simp
          exact rfl
        try simp only [Act.put, List.setIfInBounds_toArray, List.set_cons_zero, List.set_cons_succ]
        refine takeH 1 38 (v := ?vs01_2) rfl (by rfl) (by kernel_rfl) (by kernel_rfl) (by kernel_rfl) (fun _ _ _ h => h) (Or.inl ⟨by rfl, ?_⟩) ((And.intro x_a_s00 (And.intro x_b_s00 (And.intro c_p_s00 c_q_s00)))) ?_
        rotate_left
        · intro wq hSq
          have cq := (hSq.1).c 0 _ rfl
          have zq := lt_of_cell cq
          go_simp
          exact rfl
        try simp only [Act.put, List.setIfInBounds_toArray, List.set_cons_zero, List.set_cons_succ]
        refine takeH 2 39 (v := ?vs02_3) rfl (by rfl) (by kernel_rfl) (by kernel_rfl) (by kernel_rfl) (fun _ _ _ h => h) (Or.inl ⟨by rfl, ?_⟩) ((And.intro x_a_s00 (And.intro x_b_s00 (And.intro c_p_s00 c_q_s00)))) ?_
        rotate_left
        · intro wq hSq
          go_simp
          exact rfl
        try simp only [Act.put, List.setIfInBounds_toArray, List.set_cons_zero, List.set_cons_succ]
        refine takeH 3 40 (v := ?vs03_4) rfl (by rfl) (by kernel_rfl) (by kernel_rfl) (by kernel_rfl) (fun _ _ _ h => h) (Or.inl ⟨by rfl, ?_⟩) ((And.intro x_a_s00 (And.intro x_b_s00 (And.intro c_p_s00 c_q_s00)))) ?_
        rotate_left
        · intro wq hSq
          go_simp
          exact rfl
        try simp only [Act.put, List.setIfInBounds_toArray, List.set_cons_zero, List.set_cons_succ]
        refine takeH 4 41 (v := ?vs04_5) rfl (by rfl) (by kernel_rfl) (by kernel_rfl) (by kernel_rfl) (fun _ _ _ h => h) (Or.inl ⟨by rfl, ?_⟩) ((And.intro x_a_s00 (And.intro x_b_s00 (And.intro c_p_s00 c_q_s00)))) ?_
        rotate_left
        · intro wq hSq
          have cq := hSq.2.2.1
          have zq := lt_of_cell cq
          go_simp
          exact rfl
        try simp only [Act.put, List.setIfInBounds_toArray, List.set_cons_zero, List.set_cons_succ]
        refine takeH 5 42 (v := ?vs05_6) rfl (by rfl) (by kernel_rfl) (by kernel_rfl) (by kernel_rfl) (fun _ _ _ h => h) (Or.inl ⟨by rfl, ?_⟩) ((And.intro x_a_s00 (And.intro x_b_s00 (And.intro c_p_s00 c_q_s00)))) ?_
        rotate_left
        · intro wq hSq
          go_simp
          exact rfl
        try simp only [Act.put, List.setIfInBounds_toArray, List.set_cons_zero, List.set_cons_succ]
        refine takeH 6 43 (v := ?vs06_7) rfl (by rfl) (by kernel_rfl) (by kernel_rfl) (by kernel_rfl) (fun _ _ _ h => h) (Or.inl ⟨by rfl, ?_⟩) ((And.intro x_a_s00 (And.intro x_b_s00 (And.intro c_p_s00 c_q_s00)))) ?_
        rotate_left
        · intro wq hSq
          have cq := (hSq.2.1).c 0 _ rfl
          have zq := lt_of_cell cq
          go_simp
          exact rfl
        try simp only [Act.put, List.setIfInBounds_toArray, List.set_cons_zero, List.set_cons_succ]
        refine takeH 7 44 (v := ?vs07_8) rfl (by rfl) (by kernel_rfl) (by kernel_rfl) (by kernel_rfl) (fun _ _ _ h => h) (Or.inl ⟨by rfl, ?_⟩) ((And.intro x_a_s00 (And.intro x_b_s00 (And.intro c_p_s00 c_q_s00)))) ?_
        rotate_left
        · intro wq hSq
          go_simp
          exact rfl
        try simp only [Act.put, List.setIfInBounds_toArray, List.set_cons_zero, List.set_cons_succ]
        refine takeH 8 45 (v := ?vs08_9) rfl (by rfl) (by kernel_rfl) (by kernel_rfl) (by kernel_rfl) (fun _ _ _ h => h) (Or.inl ⟨by rfl, ?_⟩) ((And.intro x_a_s00 (And.intro x_b_s00 (And.intro c_p_s00 c_q_s00)))) ?_
        rotate_left
        · intro wq hSq
          go_simp
          exact rfl
        try simp only [Act.put, List.setIfInBounds_toArray, List.set_cons_zero, List.set_cons_succ]
        refine takeH 9 46 (v := ?vs09_10) rfl (by rfl) (by kernel_rfl) (by kernel_rfl) (by kernel_rfl) (fun _ _ _ h => h) (Or.inl ⟨by rfl, ?_⟩) ((And.intro x_a_s00 (And.intro x_b_s00 (And.intro c_p_s00 c_q_s00)))) ?_
        rotate_left
        · intro wq hSq
          have cq := hSq.2.2.2
          have zq := lt_of_cell cq
          go_simp
          exact rfl
        try simp only [Act.put, List.setIfInBounds_toArray, List.set_cons_zero, List.set_cons_succ]
        refine takeH 10 47 (v := ?vs010_11) rfl (by rfl) (by kernel_rfl) (by kernel_rfl) (by kernel_rfl) (fun _ _ _ h => h) (Or.inl ⟨by rfl, ?_⟩) ((And.intro x_a_s00 (And.intro x_b_s00 (And.intro c_p_s00 c_q_s00)))) ?_
        rotate_left
        · intro wq hSq
          go_simp
          exact rfl
        try simp only [Act.put, List.setIfInBounds_toArray, List.set_cons_zero, List.set_cons_succ]
        refine wpAnyH_done (by kernel_rfl) ?_ _
        go_wp2_with fail
        go_roundw
        case rel => exact ⟨k + 1, by omega, by go_num, HE2, x_a_s00, x_b_s00, Bs00⟩
        case measure => simp [intOf]; omega
      case neg =>
        have HX := Lib.hid (show false = b from (bool_eq12 HB.out (c := false) ⟨fun h => (Bool.false_ne_true h).elim, fun q => by
          rw [q, hy] at hx
          cases hx
          exact absurd rfl he⟩).symm)
        have d1 : (x != y) = true := by rw [bne_iff_ne]; exact he
        clear hx hy HE he
        have x_a7 := x_a; have x_b7 := x_b; have hB7 := hB; have hs7 := hs; clear x_a x_b hB hs
        refine wp_region_held_drew (S := fun W => Box W (w.heap.size) ([.slice (some ⟨b1, o1, none⟩) n c1, .slice a2 m c2, .int .i64 f]) ∧ Box W (w.heap.size + 1) ([.slice (some ⟨b2, o2, none⟩) n c3, .slice a4 m c4, .int .i64 f]) ∧ W.cell? ⟨b1, o1 + k, none⟩ = some (.int .i64 x) ∧ W.cell? ⟨b2, o2 + k, none⟩ = some (.int .i64 y)) (by kernel_rfl) (And.intro (x_a7).drew (And.intro (x_b7).drew (And.intro f1 f2))) (fun _ => ?_)
        refine F_drew (F := fun W => wpAnyH _ _ _ _ _ _ _ _ W) ?_
        intro Wu00 hbu00
        clear hs7
        have x_a_u00 : Box Wu00 (w.heap.size) ([.slice (some ⟨b1, o1, none⟩) n c1, .slice a2 m c2, .int .i64 f]) := Box.below x_a7 hbu00
        have x_b_u00 : Box Wu00 (w.heap.size + 1) ([.slice (some ⟨b2, o2, none⟩) n c3, .slice a4 m c4, .int .i64 f]) := Box.below x_b7 hbu00
        have c_p_u00 := cell_below hbu00 f1
        have c_q_u00 := cell_below hbu00 f2
        have Bu00 := below_thru hB7 hbu00
        clear x_a7 x_b7 f1 f2 hB7 hbu00
        refine takeH 0 37 (v := ?vu00_1) rfl (by rfl) (by kernel_rfl) (by kernel_rfl) (by kernel_rfl) (fun _ _ _ h => h) (Or.inl ⟨by rfl, ?_⟩) ((And.intro x_a_u00 (And.intro x_b_u00 (And.intro c_p_u00 c_q_u00)))) ?_
        rotate_left
        · intro wq hSq
          go_simp
          exact rfl
        try simp only [Act.put, List.setIfInBounds_toArray, List.set_cons_zero, List.set_cons_succ]
        refine takeH 1 38 (v := ?vu01_2) rfl (by rfl) (by kernel_rfl) (by kernel_rfl) (by kernel_rfl) (fun _ _ _ h => h) (Or.inl ⟨by rfl, ?_⟩) ((And.intro x_a_u00 (And.intro x_b_u00 (And.intro c_p_u00 c_q_u00)))) ?_
        rotate_left
        · intro wq hSq
          have cq := (hSq.1).c 0 _ rfl
          have zq := lt_of_cell cq
          go_simp
          exact rfl
        try simp only [Act.put, List.setIfInBounds_toArray, List.set_cons_zero, List.set_cons_succ]
        refine takeH 2 39 (v := ?vu02_3) rfl (by rfl) (by kernel_rfl) (by kernel_rfl) (by kernel_rfl) (fun _ _ _ h => h) (Or.inl ⟨by rfl, ?_⟩) ((And.intro x_a_u00 (And.intro x_b_u00 (And.intro c_p_u00 c_q_u00)))) ?_
        rotate_left
        · intro wq hSq
          go_simp
          exact rfl
        try simp only [Act.put, List.setIfInBounds_toArray, List.set_cons_zero, List.set_cons_succ]
        refine takeH 3 40 (v := ?vu03_4) rfl (by rfl) (by kernel_rfl) (by kernel_rfl) (by kernel_rfl) (fun _ _ _ h => h) (Or.inl ⟨by rfl, ?_⟩) ((And.intro x_a_u00 (And.intro x_b_u00 (And.intro c_p_u00 c_q_u00)))) ?_
        rotate_left
        · intro wq hSq
          go_simp
          exact rfl
        try simp only [Act.put, List.setIfInBounds_toArray, List.set_cons_zero, List.set_cons_succ]
        refine takeH 4 41 (v := ?vu04_5) rfl (by rfl) (by kernel_rfl) (by kernel_rfl) (by kernel_rfl) (fun _ _ _ h => h) (Or.inl ⟨by rfl, ?_⟩) ((And.intro x_a_u00 (And.intro x_b_u00 (And.intro c_p_u00 c_q_u00)))) ?_
        rotate_left
        · intro wq hSq
          have cq := hSq.2.2.1
          have zq := lt_of_cell cq
          go_simp
          exact rfl
        try simp only [Act.put, List.setIfInBounds_toArray, List.set_cons_zero, List.set_cons_succ]
        refine takeH 5 42 (v := ?vu05_6) rfl (by rfl) (by kernel_rfl) (by kernel_rfl) (by kernel_rfl) (fun _ _ _ h => h) (Or.inl ⟨by rfl, ?_⟩) ((And.intro x_a_u00 (And.intro x_b_u00 (And.intro c_p_u00 c_q_u00)))) ?_
        rotate_left
        · intro wq hSq
          go_simp
          exact rfl
        try simp only [Act.put, List.setIfInBounds_toArray, List.set_cons_zero, List.set_cons_succ]
        refine takeH 6 43 (v := ?vu06_7) rfl (by rfl) (by kernel_rfl) (by kernel_rfl) (by kernel_rfl) (fun _ _ _ h => h) (Or.inl ⟨by rfl, ?_⟩) ((And.intro x_a_u00 (And.intro x_b_u00 (And.intro c_p_u00 c_q_u00)))) ?_
        rotate_left
        · intro wq hSq
          have cq := (hSq.2.1).c 0 _ rfl
          have zq := lt_of_cell cq
          go_simp
          exact rfl
        try simp only [Act.put, List.setIfInBounds_toArray, List.set_cons_zero, List.set_cons_succ]
        refine takeH 7 44 (v := ?vu07_8) rfl (by rfl) (by kernel_rfl) (by kernel_rfl) (by kernel_rfl) (fun _ _ _ h => h) (Or.inl ⟨by rfl, ?_⟩) ((And.intro x_a_u00 (And.intro x_b_u00 (And.intro c_p_u00 c_q_u00)))) ?_
        rotate_left
        · intro wq hSq
          go_simp
          exact rfl
        try simp only [Act.put, List.setIfInBounds_toArray, List.set_cons_zero, List.set_cons_succ]
        refine takeH 8 45 (v := ?vu08_9) rfl (by rfl) (by kernel_rfl) (by kernel_rfl) (by kernel_rfl) (fun _ _ _ h => h) (Or.inl ⟨by rfl, ?_⟩) ((And.intro x_a_u00 (And.intro x_b_u00 (And.intro c_p_u00 c_q_u00)))) ?_
        rotate_left
        · intro wq hSq
          go_simp
          exact rfl
        try simp only [Act.put, List.setIfInBounds_toArray, List.set_cons_zero, List.set_cons_succ]
        refine takeH 9 46 (v := ?vu09_10) rfl (by rfl) (by kernel_rfl) (by kernel_rfl) (by kernel_rfl) (fun _ _ _ h => h) (Or.inl ⟨by rfl, ?_⟩) ((And.intro x_a_u00 (And.intro x_b_u00 (And.intro c_p_u00 c_q_u00)))) ?_
        rotate_left
        · intro wq hSq
          have cq := hSq.2.2.2
          have zq := lt_of_cell cq
          go_simp
          exact rfl
        try simp only [Act.put, List.setIfInBounds_toArray, List.set_cons_zero, List.set_cons_succ]
        refine takeH 10 47 (v := ?vu010_11) rfl (by rfl) (by kernel_rfl) (by kernel_rfl) (by kernel_rfl) (fun _ _ _ h => h) (Or.inl ⟨by rfl, ?_⟩) ((And.intro x_a_u00 (And.intro x_b_u00 (And.intro c_p_u00 c_q_u00)))) ?_
        rotate_left
        · intro wq hSq
          go_simp
          exact rfl
        try simp only [Act.put, List.setIfInBounds_toArray, List.set_cons_zero, List.set_cons_succ]
        refine wpAnyH_done (by kernel_rfl) ?_ _
        go_wp2_with fail
        go_returns
        exact ⟨ret_b12 HX.out, Bu00⟩
    case neg =>
      have hd : decide ((k : Int) < (n : Int)) = false := decide_eq_false (by omega)
      have HQ := Lib.hid (show A.nx = B.nx from List.ext_getElem? fun j => by
        rcases Nat.lt_or_ge j k with g | g
        · exact HE.out j g
        · rw [List.getElem?_eq_none (by rw [HN.out]; omega), List.getElem?_eq_none (by rw [HN2.out]; omega)])
      clear HE
      go_wp2_with fail
      clear hd hlt hk ca za
      go_loopw [6] (fun i wr => ∃ k : Nat, k ≤ m ∧ i = .int .i64 k ∧ Hid (∀ j : Nat, j < k → A.us[j]? = B.us[j]?) ∧ Box wr w.heap.size [.slice a1 n c1, .slice a2 m c2, .int .i64 f] ∧ Box wr (w.heap.size + 1) [.slice a3 n c3, .slice a4 m c4, .int .i64 f] ∧ Below w.heap.size w wr) (fun i _ => m - (intOf i).toNat)
      case atStart => exact ⟨0, Nat.zero_le _, rfl, Lib.hid (fun _ h => absurd h (Nat.not_lt_zero _)), x_a, x_b, hB⟩
      case round =>
        clear x_a x_b hB hs
        obtain ⟨k, hk, rfl, HE, x_a, x_b, hB⟩ := hrel
        have hs := hB.size; have ca := x_a.c 1 _ rfl; have za := x_a.lt
        by_cases hlt : k < m
        case pos =>
          obtain ⟨x, hx⟩ : ∃ x, A.us[k]? = some x := ⟨_, List.getElem?_eq_getElem (by rw [HU.out]; exact hlt)⟩; obtain ⟨y, hy⟩ : ∃ x, B.us[k]? = some x := ⟨_, List.getElem?_eq_getElem (by rw [HU2.out]; exact hlt)⟩
          obtain ⟨b1, o1, rfl, e1⟩ := H2.out.getB hx; obtain ⟨b2, o2, rfl, e2⟩ := H4.out.getB hy
          have f1 := cell_below hB e1; have f2 := cell_below hB e2; have i0 : (0 : Int) ≤ (k : Int) := (by omega); have i1 : (k : Int) < (m : Int) := (by omega)
          clear e1 e2
          go_upto_region 11 with fail
          clear ca za
          by_cases he : x = y
          case pos =>
            subst he
            have HE2 : Hid (∀ j : Nat, j < k + 1 → A.us[j]? = B.us[j]?) := Lib.hid (fun j hj => by
              rcases Nat.lt_or_ge j k with g | g
              · exact HE.out j g
              · obtain rfl : j = k := by omega
                rw [hx, hy])
            have d1 : (x != x) = false := by cases x <;> rfl
            clear hx hy HE
            have x_a7 := x_a; have x_b7 := x_b; have hB7 := hB; have hs7 := hs; clear x_a x_b hB hs
            refine wp_region_held_drew (S := fun W => Box W (w.heap.size) ([.slice a1 n c1, .slice (some ⟨b1, o1, none⟩) m c2, .int .i64 f]) ∧ Box W (w.heap.size + 1) ([.slice a3 n c3, .slice (some ⟨b2, o2, none⟩) m c4, .int .i64 f]) ∧ W.cell? ⟨b1, o1 + k, none⟩ = some (.bool x) ∧ W.cell? ⟨b2, o2 + k, none⟩ = some (.bool x)) (by kernel_rfl) (And.intro (x_a7).drew (And.intro (x_b7).drew (And.intro f1 f2))) (fun _ => ?_)
            refine F_drew (F := fun W => wpAnyH _ _ _ _ _ _ _ _ W) ?_
            intro Ws10 hbs10
            clear hs7
            have x_a_s10 : Box Ws10 (w.heap.size) ([.slice a1 n c1, .slice (some ⟨b1, o1, none⟩) m c2, .int .i64 f]) := Box.below x_a7 hbs10
            have x_b_s10 : Box Ws10 (w.heap.size + 1) ([.slice a3 n c3, .slice (some ⟨b2, o2, none⟩) m c4, .int .i64 f]) := Box.below x_b7 hbs10
            have c_p_s10 := cell_below hbs10 f1
            have c_q_s10 := cell_below hbs10 f2
            have Bs10 := below_thru hB7 hbs10
            clear x_a7 x_b7 f1 f2 hB7 hbs10
            refine takeH 0 55 (v := ?vs10_1) rfl (by rfl) (by kernel_rfl) (by kernel_rfl) (by kernel_rfl) (fun _ _ _ h => h) (Or.inl ⟨by rfl, ?_⟩) ((And.intro x_a_s10 (And.intro x_b_s10 (And.intro c_p_s10 c_q_s10)))) ?_
            rotate_left
            · intro wq hSq
              go_simp
              exact rfl
            try simp only [Act.put, List.setIfInBounds_toArray, List.set_cons_zero, List.set_cons_succ]
            refine takeH 1 56 (v := ?vs11_2) rfl (by rfl) (by kernel_rfl) (by kernel_rfl) (by kernel_rfl) (fun _ _ _ h => h) (Or.inl ⟨by rfl, ?_⟩) ((And.intro x_a_s10 (And.intro x_b_s10 (And.intro c_p_s10 c_q_s10)))) ?_
            rotate_left
            · intro wq hSq
              have cq := (hSq.1).c 1 _ rfl
              have zq := lt_of_cell cq
              go_simp
              exact rfl
            try simp only [Act.put, List.setIfInBounds_toArray, List.set_cons_zero, List.set_cons_succ]
            refine takeH 2 57 (v := ?vs12_3) rfl (by rfl) (by kernel_rfl) (by kernel_rfl) (by kernel_rfl) (fun _ _ _ h => h) (Or.inl ⟨by rfl, ?_⟩) ((And.intro x_a_s10 (And.intro x_b_s10 (And.intro c_p_s10 c_q_s10)))) ?_
            rotate_left
            · intro wq hSq
              go_simp
              exact rfl
            try simp only [Act.put, List.setIfInBounds_toArray, List.set_cons_zero, List.set_cons_succ]
            refine takeH 3 58 (v := ?vs13_4) rfl (by rfl) (by kernel_rfl) (by kernel_rfl) (by kernel_rfl) (fun _ _ _ h => h) (Or.inl ⟨by rfl, ?_⟩) ((And.intro x_a_s10 (And.intro x_b_s10 (And.intro c_p_s10 c_q_s10)))) ?_
            rotate_left
            · intro wq hSq
              go_simp
              exact rfl
            try simp only [Act.put, List.setIfInBounds_toArray, List.set_cons_zero, List.set_cons_succ]
            refine takeH 4 59 (v := ?vs14_5) rfl (by rfl) (by kernel_rfl) (by kernel_rfl) (by kernel_rfl) (fun _ _ _ h => h) (Or.inl ⟨by rfl, ?_⟩) ((And.intro x_a_s10 (And.intro x_b_s10 (And.intro c_p_s10 c_q_s10)))) ?_
            rotate_left
            · intro wq hSq
              have cq := hSq.2.2.1
              have zq := lt_of_cell cq
              go_simp
              exact rfl
            try simp only [Act.put, List.setIfInBounds_toArray, List.set_cons_zero, List.set_cons_succ]
            refine takeH 5 60 (v := ?vs15_6) rfl (by rfl) (by kernel_rfl) (by kernel_rfl) (by kernel_rfl) (fun _ _ _ h => h) (Or.inl ⟨by rfl, ?_⟩) ((And.intro x_a_s10 (And.intro x_b_s10 (And.intro c_p_s10 c_q_s10)))) ?_
            rotate_left
            · intro wq hSq
              go_simp
              exact rfl
            try simp only [Act.put, List.setIfInBounds_toArray, List.set_cons_zero, List.set_cons_succ]
            refine takeH 6 61 (v := ?vs16_7) rfl (by rfl) (by kernel_rfl) (by kernel_rfl) (by kernel_rfl) (fun _ _ _ h => h) (Or.inl ⟨by rfl, ?_⟩) ((And.intro x_a_s10 (And.intro x_b_s10 (And.intro c_p_s10 c_q_s10)))) ?_
            rotate_left
            · intro wq hSq
              have cq := (hSq.2.1).c 1 _ rfl
              have zq := lt_of_cell cq
              go_simp
              exact rfl
            try simp only [Act.put, List.setIfInBounds_toArray, List.set_cons_zero, List.set_cons_succ]
            refine takeH 7 62 (v := ?vs17_8) rfl (by rfl) (by kernel_rfl) (by kernel_rfl) (by kernel_rfl) (fun _ _ _ h => h) (Or.inl ⟨by rfl, ?_⟩) ((And.intro x_a_s10 (And.intro x_b_s10 (And.intro c_p_s10 c_q_s10)))) ?_
            rotate_left
            · intro wq hSq
              go_simp
              exact rfl
            try simp only [Act.put, List.setIfInBounds_toArray, List.set_cons_zero, List.set_cons_succ]
            refine takeH 8 63 (v := ?vs18_9) rfl (by rfl) (by kernel_rfl) (by kernel_rfl) (by kernel_rfl) (fun _ _ _ h => h) (Or.inl ⟨by rfl, ?_⟩) ((And.intro x_a_s10 (And.intro x_b_s10 (And.intro c_p_s10 c_q_s10)))) ?_
            rotate_left
            · intro wq hSq
              go_simp
              exact rfl
            try simp only [Act.put, List.setIfInBounds_toArray, List.set_cons_zero, List.set_cons_succ]
            refine takeH 9 64 (v := ?vs19_10) rfl (by rfl) (by kernel_rfl) (by kernel_rfl) (by kernel_rfl) (fun _ _ _ h => h) (Or.inl ⟨by rfl, ?_⟩) ((And.intro x_a_s10 (And.intro x_b_s10 (And.intro c_p_s10 c_q_s10)))) ?_
            rotate_left
            · intro wq hSq
              have cq := hSq.2.2.2
              have zq := lt_of_cell cq
              go_simp
              exact rfl
            try simp only [Act.put, List.setIfInBounds_toArray, List.set_cons_zero, List.set_cons_succ]
            refine takeH 10 65 (v := ?vs110_11) rfl (by rfl) (by kernel_rfl) (by kernel_rfl) (by kernel_rfl) (fun _ _ _ h => h) (Or.inl ⟨by rfl, ?_⟩) ((And.intro x_a_s10 (And.intro x_b_s10 (And.intro c_p_s10 c_q_s10)))) ?_
            rotate_left
            · intro wq hSq
              go_simp
              exact rfl
            try simp only [Act.put, List.setIfInBounds_toArray, List.set_cons_zero, List.set_cons_succ]
            refine wpAnyH_done (by kernel_rfl) ?_ _
            go_wp2_with fail
            go_roundw
            case rel => exact ⟨k + 1, by omega, by go_num, HE2, x_a_s10, x_b_s10, Bs10⟩
            case measure => simp [intOf]; omega
          case neg =>
            have HX := Lib.hid (show false = b from (bool_eq12 HB.out (c := false) ⟨fun h => (Bool.false_ne_true h).elim, fun q => by
              rw [q, hy] at hx
              cases hx
              exact absurd rfl he⟩).symm)
            have d1 : (x != y) = true := by rw [bne_iff_ne]; exact he
            clear hx hy HE
            clear d1
            rcases (show (x = true ∧ y = false) ∨ (x = false ∧ y = true) by cases x <;> cases y <;> simp_all) with ⟨rfl, rfl⟩ | ⟨rfl, rfl⟩
            · skip
              have x_a7 := x_a; have x_b7 := x_b; have hB7 := hB; have hs7 := hs; clear x_a x_b hB hs
              refine wp_region_held_drew (S := fun W => Box W (w.heap.size) ([.slice a1 n c1, .slice (some ⟨b1, o1, none⟩) m c2, .int .i64 f]) ∧ Box W (w.heap.size + 1) ([.slice a3 n c3, .slice (some ⟨b2, o2, none⟩) m c4, .int .i64 f]) ∧ W.cell? ⟨b1, o1 + k, none⟩ = some (.bool true) ∧ W.cell? ⟨b2, o2 + k, none⟩ = some (.bool false)) (by kernel_rfl) (And.intro (x_a7).drew (And.intro (x_b7).drew (And.intro f1 f2))) (fun _ => ?_)
              refine F_drew (F := fun W => wpAnyH _ _ _ _ _ _ _ _ W) ?_
              intro Wu10 hbu10
              clear hs7
              have x_a_u10 : Box Wu10 (w.heap.size) ([.slice a1 n c1, .slice (some ⟨b1, o1, none⟩) m c2, .int .i64 f]) := Box.below x_a7 hbu10
              have x_b_u10 : Box Wu10 (w.heap.size + 1) ([.slice a3 n c3, .slice (some ⟨b2, o2, none⟩) m c4, .int .i64 f]) := Box.below x_b7 hbu10
              have c_p_u10 := cell_below hbu10 f1
              have c_q_u10 := cell_below hbu10 f2
              have Bu10 := below_thru hB7 hbu10
              clear x_a7 x_b7 f1 f2 hB7 hbu10
              refine takeH 0 55 (v := ?vu10_1) rfl (by rfl) (by kernel_rfl) (by kernel_rfl) (by kernel_rfl) (fun _ _ _ h => h) (Or.inl ⟨by rfl, ?_⟩) ((And.intro x_a_u10 (And.intro x_b_u10 (And.intro c_p_u10 c_q_u10)))) ?_
              rotate_left
              · intro wq hSq
                go_simp
                exact rfl
              try simp only [Act.put, List.setIfInBounds_toArray, List.set_cons_zero, List.set_cons_succ]
              refine takeH 1 56 (v := ?vu11_2) rfl (by rfl) (by kernel_rfl) (by kernel_rfl) (by kernel_rfl) (fun _ _ _ h => h) (Or.inl ⟨by rfl, ?_⟩) ((And.intro x_a_u10 (And.intro x_b_u10 (And.intro c_p_u10 c_q_u10)))) ?_
              rotate_left
              · intro wq hSq
                have cq := (hSq.1).c 1 _ rfl
                have zq := lt_of_cell cq
                go_simp
                exact rfl
              try simp only [Act.put, List.setIfInBounds_toArray, List.set_cons_zero, List.set_cons_succ]
              refine takeH 2 57 (v := ?vu12_3) rfl (by rfl) (by kernel_rfl) (by kernel_rfl) (by kernel_rfl) (fun _ _ _ h => h) (Or.inl ⟨by rfl, ?_⟩) ((And.intro x_a_u10 (And.intro x_b_u10 (And.intro c_p_u10 c_q_u10)))) ?_
              rotate_left
              · intro wq hSq
                go_simp
                exact rfl
              try simp only [Act.put, List.setIfInBounds_toArray, List.set_cons_zero, List.set_cons_succ]
              refine takeH 3 58 (v := ?vu13_4) rfl (by rfl) (by kernel_rfl) (by kernel_rfl) (by kernel_rfl) (fun _ _ _ h => h) (Or.inl ⟨by rfl, ?_⟩) ((And.intro x_a_u10 (And.intro x_b_u10 (And.intro c_p_u10 c_q_u10)))) ?_
              rotate_left
              · intro wq hSq
                go_simp
                exact rfl
              try simp only [Act.put, List.setIfInBounds_toArray, List.set_cons_zero, List.set_cons_succ]
              refine takeH 4 59 (v := ?vu14_5) rfl (by rfl) (by kernel_rfl) (by kernel_rfl) (by kernel_rfl) (fun _ _ _ h => h) (Or.inl ⟨by rfl, ?_⟩) ((And.intro x_a_u10 (And.intro x_b_u10 (And.intro c_p_u10 c_q_u10)))) ?_
              rotate_left
              · intro wq hSq
                have cq := hSq.2.2.1
                have zq := lt_of_cell cq
                go_simp
                exact rfl
              try simp only [Act.put, List.setIfInBounds_toArray, List.set_cons_zero, List.set_cons_succ]
              refine takeH 5 60 (v := ?vu15_6) rfl (by rfl) (by kernel_rfl) (by kernel_rfl) (by kernel_rfl) (fun _ _ _ h => h) (Or.inl ⟨by rfl, ?_⟩) ((And.intro x_a_u10 (And.intro x_b_u10 (And.intro c_p_u10 c_q_u10)))) ?_
              rotate_left
              · intro wq hSq
                go_simp
                exact rfl
              try simp only [Act.put, List.setIfInBounds_toArray, List.set_cons_zero, List.set_cons_succ]
              refine takeH 6 61 (v := ?vu16_7) rfl (by rfl) (by kernel_rfl) (by kernel_rfl) (by kernel_rfl) (fun _ _ _ h => h) (Or.inl ⟨by rfl, ?_⟩) ((And.intro x_a_u10 (And.intro x_b_u10 (And.intro c_p_u10 c_q_u10)))) ?_
              rotate_left
              · intro wq hSq
                have cq := (hSq.2.1).c 1 _ rfl
                have zq := lt_of_cell cq
                go_simp
                exact rfl
              try simp only [Act.put, List.setIfInBounds_toArray, List.set_cons_zero, List.set_cons_succ]
              refine takeH 7 62 (v := ?vu17_8) rfl (by rfl) (by kernel_rfl) (by kernel_rfl) (by kernel_rfl) (fun _ _ _ h => h) (Or.inl ⟨by rfl, ?_⟩) ((And.intro x_a_u10 (And.intro x_b_u10 (And.intro c_p_u10 c_q_u10)))) ?_
              rotate_left
              · intro wq hSq
                go_simp
                exact rfl
              try simp only [Act.put, List.setIfInBounds_toArray, List.set_cons_zero, List.set_cons_succ]
              refine takeH 8 63 (v := ?vu18_9) rfl (by rfl) (by kernel_rfl) (by kernel_rfl) (by kernel_rfl) (fun _ _ _ h => h) (Or.inl ⟨by rfl, ?_⟩) ((And.intro x_a_u10 (And.intro x_b_u10 (And.intro c_p_u10 c_q_u10)))) ?_
              rotate_left
              · intro wq hSq
                go_simp
                exact rfl
              try simp only [Act.put, List.setIfInBounds_toArray, List.set_cons_zero, List.set_cons_succ]
              refine takeH 9 64 (v := ?vu19_10) rfl (by rfl) (by kernel_rfl) (by kernel_rfl) (by kernel_rfl) (fun _ _ _ h => h) (Or.inl ⟨by rfl, ?_⟩) ((And.intro x_a_u10 (And.intro x_b_u10 (And.intro c_p_u10 c_q_u10)))) ?_
              rotate_left
              · intro wq hSq
                have cq := hSq.2.2.2
                have zq := lt_of_cell cq
                go_simp
                exact rfl
              try simp only [Act.put, List.setIfInBounds_toArray, List.set_cons_zero, List.set_cons_succ]
              refine takeH 10 65 (v := ?vu110_11) rfl (by rfl) (by kernel_rfl) (by kernel_rfl) (by kernel_rfl) (fun _ _ _ h => h) (Or.inl ⟨by rfl, ?_⟩) ((And.intro x_a_u10 (And.intro x_b_u10 (And.intro c_p_u10 c_q_u10)))) ?_
              rotate_left
              · intro wq hSq
                go_simp
                exact rfl
              try simp only [Act.put, List.setIfInBounds_toArray, List.set_cons_zero, List.set_cons_succ]
              refine wpAnyH_done (by kernel_rfl) ?_ _
              go_wp2_with fail
              go_returns
              exact ⟨ret_b12 HX.out, Bu10⟩
            · skip
              have x_a7 := x_a; have x_b7 := x_b; have hB7 := hB; have hs7 := hs; clear x_a x_b hB hs
              refine wp_region_held_drew (S := fun W => Box W (w.heap.size) ([.slice a1 n c1, .slice (some ⟨b1, o1, none⟩) m c2, .int .i64 f]) ∧ Box W (w.heap.size + 1) ([.slice a3 n c3, .slice (some ⟨b2, o2, none⟩) m c4, .int .i64 f]) ∧ W.cell? ⟨b1, o1 + k, none⟩ = some (.bool false) ∧ W.cell? ⟨b2, o2 + k, none⟩ = some (.bool true)) (by kernel_rfl) (And.intro (x_a7).drew (And.intro (x_b7).drew (And.intro f1 f2))) (fun _ => ?_)
              refine F_drew (F := fun W => wpAnyH _ _ _ _ _ _ _ _ W) ?_
              intro Wv10 hbv10
              clear hs7
              have x_a_v10 : Box Wv10 (w.heap.size) ([.slice a1 n c1, .slice (some ⟨b1, o1, none⟩) m c2, .int .i64 f]) := Box.below x_a7 hbv10
              have x_b_v10 : Box Wv10 (w.heap.size + 1) ([.slice a3 n c3, .slice (some ⟨b2, o2, none⟩) m c4, .int .i64 f]) := Box.below x_b7 hbv10
              have c_p_v10 := cell_below hbv10 f1
              have c_q_v10 := cell_below hbv10 f2
              have Bv10 := below_thru hB7 hbv10
              clear x_a7 x_b7 f1 f2 hB7 hbv10
              refine takeH 0 55 (v := ?vv10_1) rfl (by rfl) (by kernel_rfl) (by kernel_rfl) (by kernel_rfl) (fun _ _ _ h => h) (Or.inl ⟨by rfl, ?_⟩) ((And.intro x_a_v10 (And.intro x_b_v10 (And.intro c_p_v10 c_q_v10)))) ?_
              rotate_left
              · intro wq hSq
                go_simp
                exact rfl
              try simp only [Act.put, List.setIfInBounds_toArray, List.set_cons_zero, List.set_cons_succ]
              refine takeH 1 56 (v := ?vv11_2) rfl (by rfl) (by kernel_rfl) (by kernel_rfl) (by kernel_rfl) (fun _ _ _ h => h) (Or.inl ⟨by rfl, ?_⟩) ((And.intro x_a_v10 (And.intro x_b_v10 (And.intro c_p_v10 c_q_v10)))) ?_
              rotate_left
              · intro wq hSq
                have cq := (hSq.1).c 1 _ rfl
                have zq := lt_of_cell cq
                go_simp
                exact rfl
              try simp only [Act.put, List.setIfInBounds_toArray, List.set_cons_zero, List.set_cons_succ]
              refine takeH 2 57 (v := ?vv12_3) rfl (by rfl) (by kernel_rfl) (by kernel_rfl) (by kernel_rfl) (fun _ _ _ h => h) (Or.inl ⟨by rfl, ?_⟩) ((And.intro x_a_v10 (And.intro x_b_v10 (And.intro c_p_v10 c_q_v10)))) ?_
              rotate_left
              · intro wq hSq
                go_simp
                exact rfl
              try simp only [Act.put, List.setIfInBounds_toArray, List.set_cons_zero, List.set_cons_succ]
              refine takeH 3 58 (v := ?vv13_4) rfl (by rfl) (by kernel_rfl) (by kernel_rfl) (by kernel_rfl) (fun _ _ _ h => h) (Or.inl ⟨by rfl, ?_⟩) ((And.intro x_a_v10 (And.intro x_b_v10 (And.intro c_p_v10 c_q_v10)))) ?_
              rotate_left
              · intro wq hSq
                go_simp
                exact rfl
              try simp only [Act.put, List.setIfInBounds_toArray, List.set_cons_zero, List.set_cons_succ]
              refine takeH 4 59 (v := ?vv14_5) rfl (by rfl) (by kernel_rfl) (by kernel_rfl) (by kernel_rfl) (fun _ _ _ h => h) (Or.inl ⟨by rfl, ?_⟩) ((And.intro x_a_v10 (And.intro x_b_v10 (And.intro c_p_v10 c_q_v10)))) ?_
              rotate_left
              · intro wq hSq
                have cq := hSq.2.2.1
                have zq := lt_of_cell cq
                go_simp
                exact rfl
              try simp only [Act.put, List.setIfInBounds_toArray, List.set_cons_zero, List.set_cons_succ]
              refine takeH 5 60 (v := ?vv15_6) rfl (by rfl) (by kernel_rfl) (by kernel_rfl) (by kernel_rfl) (fun _ _ _ h => h) (Or.inl ⟨by rfl, ?_⟩) ((And.intro x_a_v10 (And.intro x_b_v10 (And.intro c_p_v10 c_q_v10)))) ?_
              rotate_left
              · intro wq hSq
                go_simp
                exact rfl
              try simp only [Act.put, List.setIfInBounds_toArray, List.set_cons_zero, List.set_cons_succ]
              refine takeH 6 61 (v := ?vv16_7) rfl (by rfl) (by kernel_rfl) (by kernel_rfl) (by kernel_rfl) (fun _ _ _ h => h) (Or.inl ⟨by rfl, ?_⟩) ((And.intro x_a_v10 (And.intro x_b_v10 (And.intro c_p_v10 c_q_v10)))) ?_
              rotate_left
              · intro wq hSq
                have cq := (hSq.2.1).c 1 _ rfl
                have zq := lt_of_cell cq
                go_simp
                exact rfl
              try simp only [Act.put, List.setIfInBounds_toArray, List.set_cons_zero, List.set_cons_succ]
              refine takeH 7 62 (v := ?vv17_8) rfl (by rfl) (by kernel_rfl) (by kernel_rfl) (by kernel_rfl) (fun _ _ _ h => h) (Or.inl ⟨by rfl, ?_⟩) ((And.intro x_a_v10 (And.intro x_b_v10 (And.intro c_p_v10 c_q_v10)))) ?_
              rotate_left
              · intro wq hSq
                go_simp
                exact rfl
              try simp only [Act.put, List.setIfInBounds_toArray, List.set_cons_zero, List.set_cons_succ]
              refine takeH 8 63 (v := ?vv18_9) rfl (by rfl) (by kernel_rfl) (by kernel_rfl) (by kernel_rfl) (fun _ _ _ h => h) (Or.inl ⟨by rfl, ?_⟩) ((And.intro x_a_v10 (And.intro x_b_v10 (And.intro c_p_v10 c_q_v10)))) ?_
              rotate_left
              · intro wq hSq
                go_simp
                exact rfl
              try simp only [Act.put, List.setIfInBounds_toArray, List.set_cons_zero, List.set_cons_succ]
              refine takeH 9 64 (v := ?vv19_10) rfl (by rfl) (by kernel_rfl) (by kernel_rfl) (by kernel_rfl) (fun _ _ _ h => h) (Or.inl ⟨by rfl, ?_⟩) ((And.intro x_a_v10 (And.intro x_b_v10 (And.intro c_p_v10 c_q_v10)))) ?_
              rotate_left
              · intro wq hSq
                have cq := hSq.2.2.2
                have zq := lt_of_cell cq
                go_simp
                exact rfl
              try simp only [Act.put, List.setIfInBounds_toArray, List.set_cons_zero, List.set_cons_succ]
              refine takeH 10 65 (v := ?vv110_11) rfl (by rfl) (by kernel_rfl) (by kernel_rfl) (by kernel_rfl) (fun _ _ _ h => h) (Or.inl ⟨by rfl, ?_⟩) ((And.intro x_a_v10 (And.intro x_b_v10 (And.intro c_p_v10 c_q_v10)))) ?_
              rotate_left
              · intro wq hSq
                go_simp
                exact rfl
              try simp only [Act.put, List.setIfInBounds_toArray, List.set_cons_zero, List.set_cons_succ]
              refine wpAnyH_done (by kernel_rfl) ?_ _
              go_wp2_with fail
              go_returns
              exact ⟨ret_b12 HX.out, Bv10⟩
        case neg =>
          have hd : decide ((k : Int) < (m : Int)) = false := decide_eq_false (by omega)
          have HQ2 := Lib.hid (show A.us = B.us from List.ext_getElem? fun j => by
            rcases Nat.lt_or_ge j k with g | g
            · exact HE.out j g
            · rw [List.getElem?_eq_none (by rw [HU.out]; omega), List.getElem?_eq_none (by rw [HU2.out]; omega)])
          clear HE
          have HX := Lib.hid (show true = b from (HB.out.2 (Ar.ext' HQ.out HQ2.out HF.out)).symm)
          go_wp2_with fail
          go_returns
          exact ⟨ret_b12 HX.out, hB⟩

theorem rsame_is {v u : Value} {A B : Ar} {b : Bool} (hb : b = true ↔ A = B) (w : World) (h1 : IsA w v A) (h2 : IsA w u B) : Calls Try.prog 16 #[v, u] w fun e w' => e = .returned (.bool b) ∧ Below w.heap.size w w' := by
  by_cases hf : A.fr = B.fr
  · by_cases hn : A.nx.length = B.nx.length
    · by_cases hu : A.us.length = B.us.length
      · exact rsame_d hf hn hu hb w h1 h2
      · rw [bool_eq12 hb (c := false) ⟨fun h => (Bool.false_ne_true h).elim, fun q => absurd (by rw [q]) hu⟩]
        exact rsame_c hf hn hu w h1 h2
    · rw [bool_eq12 hb (c := false) ⟨fun h => (Bool.false_ne_true h).elim, fun q => absurd (by rw [q]) hn⟩]
      exact rsame_b hf hn w h1 h2
  · rw [bool_eq12 hb (c := false) ⟨fun h => (Bool.false_ne_true h).elim, fun q => absurd (by rw [q]) hf⟩]
    exact rsame_a hf w h1 h2

set_option maxRecDepth 100000 in
set_option maxHeartbeats 6400000 in
theorem rnew_a {p : Int} (h : p < 1) (w : World) : Calls Try.prog 11 #[.int .i64 p] w fun e w' => ∃ v, e = .returned (.tuple #[v, .int .i64 2]) ∧ ResA Ar.zero w v w' := by
  have d0 : decide (p < 1) = true := decide_eq_true (by omega)
  have BI := fun W => build_ar0 W
  clear h
  go_enter Try.func11, Try.ntmps11
  go_upto_region 1 with fail
  refine F_gen (F := fun W => Code.wp _ _ _ _ W) (J := fun W => Box W (w.heap.size) (ar0) ∧ Below w.heap.size w W) (And.intro (Box.newc rfl rfl) (by go_grown)) ?_
  intro w0 ⟨e_r, hB0⟩
  have hs0 := hB0.size
  have x_r0 := e_r; clear e_r
  have lq := (x_r0).lt
  go_wp2_with (first | (refine wpList_build9 rfl 25 _ rfl (us := #[]) (by rfl) (BI _) ?_) | (refine wpList_store_box (cs := ar0) rfl _ _ _ rfl x_r0 rfl rfl size_ar0 rfl one_ar0 ?_; intro W99 hW99))
  exact bodyPost_ret (results_box2 Try.results11 hW99.box rfl rfl Try.underlying25 rfl size_ar0) rfl ⟨_, rfl, isA_zero _, fresh_zero _, hW99.below _ _ (by omega) hB0⟩

set_option maxRecDepth 100000 in
set_option maxHeartbeats 6400000 in
theorem rnew_b {p : Int} (h : 16 < p) (w : World) : Calls Try.prog 11 #[.int .i64 p] w fun e w' => ∃ v, e = .returned (.tuple #[v, .int .i64 2]) ∧ ResA Ar.zero w v w' := by
  have d0 : decide (p < 1) = false := decide_eq_false (by omega)
  have d1 : decide (16 < p) = true := decide_eq_true (by omega)
  have BI := fun W => build_ar0 W
  clear h
  go_enter Try.func11, Try.ntmps11
  go_upto_region 1 with fail
  refine F_gen (F := fun W => Code.wp _ _ _ _ W) (J := fun W => Box W (w.heap.size) (ar0) ∧ Below w.heap.size w W) (And.intro (Box.newc rfl rfl) (by go_grown)) ?_
  intro w0 ⟨e_r, hB0⟩
  have hs0 := hB0.size
  have x_r0 := e_r; clear e_r
  have lq := (x_r0).lt
  go_wp2_with (first | (refine wpList_build9 rfl 25 _ rfl (us := #[]) (by rfl) (BI _) ?_) | (refine wpList_store_box (cs := ar0) rfl _ _ _ rfl x_r0 rfl rfl size_ar0 rfl one_ar0 ?_; intro W99 hW99))
  exact bodyPost_ret (results_box2 Try.results11 hW99.box rfl rfl Try.underlying25 rfl size_ar0) rfl ⟨_, rfl, isA_zero _, fresh_zero _, hW99.below _ _ (by omega) hB0⟩

set_option maxRecDepth 100000 in
set_option maxHeartbeats 6400000 in
theorem rnew_c {n : Nat} (h1 : 1 ≤ n) (hm : n ≤ 16) (w : World) : Calls Try.prog 11 #[.int .i64 (n : Int)] w fun e w' => ∃ v, e = .returned (.tuple #[v, .int .i64 0]) ∧ ResA (newA n) w v w' := by
  have d0 : decide ((n : Int) < 1) = false := decide_eq_false (by omega); have d1 : decide (16 < (n : Int)) = false := decide_eq_false (by omega)
  obtain ⟨tI, hiI, h0I, h1I, h2I⟩ := info_parts info_in; obtain ⟨tB, hiB, h0B, h1B, h2B⟩ := info_parts info_bl
  clear h1
  go_enter Try.func11, Try.ntmps11
  go_upto_region 1 with fail
  refine F_gen (F := fun W => Code.wp _ _ _ _ W) (J := fun W => Box W (w.heap.size) (ar0) ∧ Below w.heap.size w W) (And.intro (Box.newc rfl rfl) (by go_grown)) ?_
  intro w0 ⟨e_r, hB0⟩
  have hs0 := hB0.size
  have x_r0 := e_r; clear e_r
  have hxr := x_r0.lt
  go_upto_region 4 with fail
  clear d0 d1
  refine F_gen (F := fun W => Code.wp _ _ _ _ W) (J := fun W => Box W (w.heap.size) (ar0) ∧ Box W (w0.heap.size) (ar0) ∧ Below w.heap.size w W) (And.intro (x_r0.alloc _) (And.intro (Box.newc (l := ar0) rfl rfl) (hB0.alloc (by first | exact hs0 | (simp; omega)) _))) ?_
  intro w1 ⟨x_r1, x_x1, hB1⟩
  clear x_r0 hB0 hs0
  have hs1 := hB1.size
  go_wp2_with fail
  go_loopw [5] (fun i wr => ∃ (k : Nat) (pa pb : Option Addr) (ca cb : Nat), k ≤ n ∧ i = .int .i64 k ∧ Hid (wr.ownsRow (w0.heap.size + 1) 3 1 (.slice pa k ca) (k) (flatR LI ((newA n).nx.take (k)))) ∧ Hid (wr.ownsRow (w0.heap.size + 1) 4 1 (.slice pb k cb) (k) (flatR LB ((newA n).us.take (k)))) ∧ Box wr w0.heap.size [.slice pa k ca, .slice pb k cb, .int .i64 0] ∧ Box wr w.heap.size ar0 ∧ Below w.heap.size w wr) (fun i _ => n - (intOf i).toNat)
  case atStart => exact ⟨0, none, none, 0, 0, Nat.zero_le _, rfl, Lib.hid ownR_none, Lib.hid ownR_none, x_x1, x_r1, hB1⟩
  case round =>
    clear x_x1 x_r1 hB1 hs1
    obtain ⟨k, pa, pb, ca, cb, hk, rfl, HA, HB, x_x, x_r, hB⟩ := hrel
    have hs := hB.size; have zx := x_x.lt; have zr := x_r.lt
    by_cases hlt : k < n
    case pos =>
      have W1 : IntKind.i64.wrap ((k : Int) + 1) = ((k + 1 : Nat) : Int) := by rw [IntKind.wrap_i64]; omega
      have hat := newA_at hlt
      have TA := Lib.hid (show (newA n).nx.take (k + 1) = (newA n).nx.take k ++ [nextN n k] by rw [List.take_add_one, hat]; rfl)
      have TB := Lib.hid (show (newA n).us.take (k + 1) = (newA n).us.take k ++ [false] by rw [List.take_add_one]; simp [newA, hlt])
      clear hat
      by_cases hl2 : k + 1 < n
      case pos =>
        have dn : decide (((k + 1 : Nat) : Int) < (n : Int)) = true := decide_eq_true (by omega)
        have hy : nextN n k = ((k + 1 : Nat) : Int) := by unfold nextN; rw [if_pos hl2]
        rw [hy] at TA; clear hy
        have LX1 : IsR LI (wr.alloc (.cells #[.int .i64 ((k + 1 : Nat) : Int)] 3)) (.slice (some ⟨wr.heap.size, 0, none⟩) 1 1) [((k + 1 : Nat) : Int)] := IsR.built [((k + 1 : Nat) : Int)] rfl rfl rfl rfl (show 1 ≤ 1000 by decide)
        have LO1 := ownR_below HA.out ((Below.refl _ _).alloc (Nat.le_refl _) (.cells #[.int .i64 ((k + 1 : Nat) : Int)] 3)); have LP1 := ownR_below HB.out ((Below.refl _ _).alloc (Nat.le_refl _) (.cells #[.int .i64 ((k + 1 : Nat) : Int)] 3))
        have c1 := x_x.c 0 _ rfl
        go_upto_region 10 with (first | (at_builtin; refine wpList_append_rows rfl LI _ _ 22 rfl (w0.heap.size + 1) 3 tI (.int .i64 0) 1 8 rfl Try.underlying22 hiI h0I h1I h2I rfl _ k _ rfl LO1 _ [((k + 1 : Nat) : Int)] rfl LX1 (by unfold maxLen; simp; omega) (by simp; omega) (by simp; omega) ?_; intro v41 w41 own1 gr1; have hK1 := (Below.refl (w0.heap.size + 1) _).grown gr1 (by simp; omega) (ownR_block LO1); have y_x1 := Box.keep12 (x_x.alloc (.cells #[.int .i64 ((k + 1 : Nat) : Int)] 3)) hK1 (by omega); have y_r1 := Box.keep12 (x_r.alloc (.cells #[.int .i64 ((k + 1 : Nat) : Int)] 3)) hK1 (by omega); have oth1 := ownR_apart LP1 LO1 (by decide) gr1; have hB21 := (hB.alloc (by omega) (.cells #[.int .i64 ((k + 1 : Nat) : Int)] 3)).trans (hK1.mono (by omega)); have on1 : w41.ownsRow (w0.heap.size + 1) 3 1 (v41) (k + 1) (flatR LI ((newA n).nx.take (k + 1))) := (by rw [TA.out, flatR_app]; exact own1); obtain ⟨qa1, qc1, rfl⟩ := own_slR on1; have yl1 := y_x1.lt) | (refine wpList_store_cell (k := 0) (ws := [.slice qa1 (k + 1) qc1, .slice pb k cb, .int .i64 0]) (v := .slice qa1 (k + 1) qc1) rfl _ _ _ rfl y_x1 rfl rfl rfl rfl size_si (show 0 < 3 by decide) rfl ?_; intro W31 hW31))
        have z_x1 := hW31.box; have z_r1 := hW31.past _ _ (by omega) y_r1; have z_o1 := Lib.hid (ownR_stored hW31 on1 (by omega)); have z_p1 := Lib.hid (ownR_stored hW31 oth1 (by omega)); have z_B1 := hW31.below _ _ (by omega) hB21
        clear LX1 LO1 LP1 c1 own1 gr1 hK1 y_x1 y_r1 oth1 hB21 on1 yl1 hW31
        have hs1 := z_B1.size; have ltx1 := z_x1.lt; have ltr1 := z_r1.lt
        clear x_x x_r hB hs zx zr HA HB dn
        have LX2 : IsR LB (W31.alloc (.cells #[.bool false] 4)) (.slice (some ⟨W31.heap.size, 0, none⟩) 1 1) [false] := IsR.built [false] rfl rfl rfl rfl (show 1 ≤ 1000 by decide)
        have LO2 := ownR_below z_p1.out ((Below.refl _ _).alloc (Nat.le_refl _) (.cells #[.bool false] 4)); have LP2 := ownR_below z_o1.out ((Below.refl _ _).alloc (Nat.le_refl _) (.cells #[.bool false] 4))
        have c2 := z_x1.c 1 _ rfl
        go_upto_region 6 with (first | (at_builtin; refine wpList_append_rows rfl LB _ _ 23 rfl (w0.heap.size + 1) 4 tB (.bool false) 1 1 rfl Try.underlying23 hiB h0B h1B h2B rfl _ k _ rfl LO2 _ [false] rfl LX2 (by unfold maxLen; simp; omega) (by simp; omega) (by simp; omega) ?_; intro v42 w42 own2 gr2; have hK2 := (Below.refl (w0.heap.size + 1) _).grown gr2 (by simp; omega) (ownR_block LO2); have y_x2 := Box.keep12 (z_x1.alloc (.cells #[.bool false] 4)) hK2 (by omega); have y_r2 := Box.keep12 (z_r1.alloc (.cells #[.bool false] 4)) hK2 (by omega); have oth2 := ownR_apart LP2 LO2 (by decide) gr2; have hB22 := (z_B1.alloc (by omega) (.cells #[.bool false] 4)).trans (hK2.mono (by omega)); have on2 : w42.ownsRow (w0.heap.size + 1) 4 1 (v42) (k + 1) (flatR LB ((newA n).us.take (k + 1))) := (by rw [TB.out, flatR_app]; exact own2); obtain ⟨qa2, qc2, rfl⟩ := own_slR on2; have yl2 := y_x2.lt) | (refine wpList_store_cell (k := 1) (ws := [.slice qa1 (k + 1) qc1, .slice qa2 (k + 1) qc2, .int .i64 0]) (v := .slice qa2 (k + 1) qc2) rfl _ _ _ rfl y_x2 rfl rfl rfl rfl size_sb (show 1 < 3 by decide) rfl ?_; intro W32 hW32))
        have z_x2 := hW32.box; have z_r2 := hW32.past _ _ (by omega) y_r2; have z_o2 := Lib.hid (ownR_stored hW32 on2 (by omega)); have z_p2 := Lib.hid (ownR_stored hW32 oth2 (by omega)); have z_B2 := hW32.below _ _ (by omega) hB22
        clear LX2 LO2 LP2 c2 own2 gr2 hK2 y_x2 y_r2 oth2 hB22 on2 yl2 hW32
        have hs2 := z_B2.size; have ltx2 := z_x2.lt; have ltr2 := z_r2.lt
        clear z_x1 z_r1 z_B1 z_o1 z_p1 hs1 ltx1 ltr1
        go_wp2_with fail
        go_roundw
        case rel => exact ⟨k + 1, qa1, qa2, qc1, qc2, by omega, by go_num, z_p2, z_o2, z_x2, z_r2, z_B2⟩
        case measure => simp [intOf]; omega
      case neg =>
        have dn : decide (((k + 1 : Nat) : Int) < (n : Int)) = false := decide_eq_false (by omega)
        have hy : nextN n k = (-1) := by unfold nextN; rw [if_neg hl2]
        rw [hy] at TA; clear hy
        have LX1 : IsR LI (wr.alloc (.cells #[.int .i64 (-1)] 3)) (.slice (some ⟨wr.heap.size, 0, none⟩) 1 1) [(-1)] := IsR.built [(-1)] rfl rfl rfl rfl (show 1 ≤ 1000 by decide)
        have LO1 := ownR_below HA.out ((Below.refl _ _).alloc (Nat.le_refl _) (.cells #[.int .i64 (-1)] 3)); have LP1 := ownR_below HB.out ((Below.refl _ _).alloc (Nat.le_refl _) (.cells #[.int .i64 (-1)] 3))
        have c1 := x_x.c 0 _ rfl
        go_upto_region 10 with (first | (at_builtin; refine wpList_append_rows rfl LI _ _ 22 rfl (w0.heap.size + 1) 3 tI (.int .i64 0) 1 8 rfl Try.underlying22 hiI h0I h1I h2I rfl _ k _ rfl LO1 _ [(-1)] rfl LX1 (by unfold maxLen; simp; omega) (by simp; omega) (by simp; omega) ?_; intro v41 w41 own1 gr1; have hK1 := (Below.refl (w0.heap.size + 1) _).grown gr1 (by simp; omega) (ownR_block LO1); have y_x1 := Box.keep12 (x_x.alloc (.cells #[.int .i64 (-1)] 3)) hK1 (by omega); have y_r1 := Box.keep12 (x_r.alloc (.cells #[.int .i64 (-1)] 3)) hK1 (by omega); have oth1 := ownR_apart LP1 LO1 (by decide) gr1; have hB21 := (hB.alloc (by omega) (.cells #[.int .i64 (-1)] 3)).trans (hK1.mono (by omega)); have on1 : w41.ownsRow (w0.heap.size + 1) 3 1 (v41) (k + 1) (flatR LI ((newA n).nx.take (k + 1))) := (by rw [TA.out, flatR_app]; exact own1); obtain ⟨qa1, qc1, rfl⟩ := own_slR on1; have yl1 := y_x1.lt) | (refine wpList_store_cell (k := 0) (ws := [.slice qa1 (k + 1) qc1, .slice pb k cb, .int .i64 0]) (v := .slice qa1 (k + 1) qc1) rfl _ _ _ rfl y_x1 rfl rfl rfl rfl size_si (show 0 < 3 by decide) rfl ?_; intro W31 hW31))
        have z_x1 := hW31.box; have z_r1 := hW31.past _ _ (by omega) y_r1; have z_o1 := Lib.hid (ownR_stored hW31 on1 (by omega)); have z_p1 := Lib.hid (ownR_stored hW31 oth1 (by omega)); have z_B1 := hW31.below _ _ (by omega) hB21
        clear LX1 LO1 LP1 c1 own1 gr1 hK1 y_x1 y_r1 oth1 hB21 on1 yl1 hW31
        have hs1 := z_B1.size; have ltx1 := z_x1.lt; have ltr1 := z_r1.lt
        clear x_x x_r hB hs zx zr HA HB dn
        have LX2 : IsR LB (W31.alloc (.cells #[.bool false] 4)) (.slice (some ⟨W31.heap.size, 0, none⟩) 1 1) [false] := IsR.built [false] rfl rfl rfl rfl (show 1 ≤ 1000 by decide)
        have LO2 := ownR_below z_p1.out ((Below.refl _ _).alloc (Nat.le_refl _) (.cells #[.bool false] 4)); have LP2 := ownR_below z_o1.out ((Below.refl _ _).alloc (Nat.le_refl _) (.cells #[.bool false] 4))
        have c2 := z_x1.c 1 _ rfl
        go_upto_region 6 with (first | (at_builtin; refine wpList_append_rows rfl LB _ _ 23 rfl (w0.heap.size + 1) 4 tB (.bool false) 1 1 rfl Try.underlying23 hiB h0B h1B h2B rfl _ k _ rfl LO2 _ [false] rfl LX2 (by unfold maxLen; simp; omega) (by simp; omega) (by simp; omega) ?_; intro v42 w42 own2 gr2; have hK2 := (Below.refl (w0.heap.size + 1) _).grown gr2 (by simp; omega) (ownR_block LO2); have y_x2 := Box.keep12 (z_x1.alloc (.cells #[.bool false] 4)) hK2 (by omega); have y_r2 := Box.keep12 (z_r1.alloc (.cells #[.bool false] 4)) hK2 (by omega); have oth2 := ownR_apart LP2 LO2 (by decide) gr2; have hB22 := (z_B1.alloc (by omega) (.cells #[.bool false] 4)).trans (hK2.mono (by omega)); have on2 : w42.ownsRow (w0.heap.size + 1) 4 1 (v42) (k + 1) (flatR LB ((newA n).us.take (k + 1))) := (by rw [TB.out, flatR_app]; exact own2); obtain ⟨qa2, qc2, rfl⟩ := own_slR on2; have yl2 := y_x2.lt) | (refine wpList_store_cell (k := 1) (ws := [.slice qa1 (k + 1) qc1, .slice qa2 (k + 1) qc2, .int .i64 0]) (v := .slice qa2 (k + 1) qc2) rfl _ _ _ rfl y_x2 rfl rfl rfl rfl size_sb (show 1 < 3 by decide) rfl ?_; intro W32 hW32))
        have z_x2 := hW32.box; have z_r2 := hW32.past _ _ (by omega) y_r2; have z_o2 := Lib.hid (ownR_stored hW32 on2 (by omega)); have z_p2 := Lib.hid (ownR_stored hW32 oth2 (by omega)); have z_B2 := hW32.below _ _ (by omega) hB22
        clear LX2 LO2 LP2 c2 own2 gr2 hK2 y_x2 y_r2 oth2 hB22 on2 yl2 hW32
        have hs2 := z_B2.size; have ltx2 := z_x2.lt; have ltr2 := z_r2.lt
        clear z_x1 z_r1 z_B1 z_o1 z_p1 hs1 ltx1 ltr1
        go_wp2_with fail
        go_roundw
        case rel => exact ⟨k + 1, qa1, qa2, qc1, qc2, by omega, by go_num, z_p2, z_o2, z_x2, z_r2, z_B2⟩
        case measure => simp [intOf]; omega
    case neg =>
      have hd : decide ((k : Int) < (n : Int)) = false := decide_eq_false (by omega)
      obtain rfl : k = n := by omega
      have TK := Lib.hid (show (newA k).nx.take k = (newA k).nx ∧ (newA k).us.take k = (newA k).us from ⟨List.take_of_length_le (by simp [newA]), List.take_of_length_le (by simp [newA])⟩)
      rw [TK.out.1] at HA; rw [TK.out.2] at HB
      have F1 := Lib.hid (ownR_block HA.out); have F2 := Lib.hid (ownR_block HB.out)
      go_wp2_with (first | (refine wpList_load_box9 rfl _ _ rfl x_x rfl Try.underlying25 rfl (size_ar _ _ _) ?_) | (refine wpList_store_box (cs := [.slice pa k ca, .slice pb k cb, .int .i64 0]) rfl _ _ _ rfl x_r rfl rfl (size_ar _ _ _) rfl (one_ar _ _ _ _ _ _ _) ?_; intro W99 hW99))
      exact bodyPost_ret (results_box2 Try.results11 hW99.box rfl rfl Try.underlying25 rfl (size_ar _ _ _)) rfl ⟨_, rfl, ⟨_, _, rfl, IsR.own (ownR_stored hW99 HA.out (by omega)) rfl (by simp [newA]), IsR.own (ownR_stored hW99 HB.out (by omega)) rfl (by simp [newA])⟩, ⟨_, _, _, rfl, fun q e => by have := F1.out q e; omega, fun q e => by have := F2.out q e; omega⟩, hW99.below _ _ (by omega) hB⟩

theorem rnew_is {p : Int} {B : Ar} {q : Int} (h : NwA p B q) (w : World) : Calls Try.prog 11 #[.int .i64 p] w fun e w' => ∃ v, e = .returned (.tuple #[v, .int .i64 q]) ∧ ResA B w v w' := by
  rcases h with ⟨rfl, h | h, rfl⟩ | ⟨rfl, n, m, rfl, hn, hm, rfl⟩
  · exact rnew_a h w
  · exact rnew_b h w
  · exact rnew_c (by omega) hm w

end Go.Proofs.Ytepimljjbmoojaa
