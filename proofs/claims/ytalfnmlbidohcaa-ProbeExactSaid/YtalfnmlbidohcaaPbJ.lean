/-
  ProbeBack, walked.
-/
import Derived.Test.YtalfnmlbidohcaaPbH
namespace Go.Proofs.Ytalfnmlbidohcaa
open Go.RowKit

theorem Hs.none {x : List Cel} {key : Int} : (∀ i, ¬ Has x key i) ↔ ∀ p, ¬ Hs x key p :=
  ⟨fun h _ ⟨i, hi, _⟩ => h i hi, fun h i hi => h _ ⟨i, hi, rfl⟩⟩
theorem Valid.fnd {x : List Cel} (hv : Valid x) {key p q : Int} : FndX x key p q ↔ (q = 6 ∧ p = 0 ∧ ∀ p, ¬ Hs x key p) ∨ (q = 0 ∧ Hs x key p) := by
  constructor
  · rintro (⟨_, _, h⟩ | ⟨_, h1, h2, h3⟩ | ⟨_, h1, i, h2, h3⟩)
    · exact absurd hv h
    · exact Or.inl ⟨h1, h2, Hs.none.1 h3⟩
    · exact Or.inr ⟨h1, i, h2, h3.symm⟩
  · rintro (⟨h1, h2, h3⟩ | ⟨h1, i, h2, h3⟩)
    · exact Or.inr (Or.inl ⟨hv, h1, h2, Hs.none.2 h3⟩)
    · exact Or.inr (Or.inr ⟨hv, h1, i, h2, h3.symm⟩)
/-- Dropping a key keeps the others. -/
theorem Valid.fnd_drop {x : List Cel} (hv : Valid x) {key : Int} {i : Nat} (hi : Has x key i) {other p q : Int} (hne : other ≠ key) (h : FndX x other p q) : FndX (drpL x i) other p q := by
  have hd : ∀ k r, Hs (drpL x i) k r ↔ Hs x k r ∧ k ≠ key := fun k r => by rw [hs_drp hv hi.1 hi.2.1, hi.2.2]
  rw [(hv.drop hi.1 hi.2.1).fnd]
  rcases hv.fnd.1 h with ⟨h1, h2, h3⟩ | ⟨h1, h2⟩
  · exact Or.inl ⟨h1, h2, fun r hr => h3 r ((hd _ _).1 hr).1⟩
  · exact Or.inr ⟨h1, (hd _ _).2 ⟨h2, hne⟩⟩
theorem Valid.fnd_gone {x : List Cel} (hv : Valid x) {key : Int} {i : Nat} (hi : Has x key i) : (∀ j, ¬ Has (drpL x i) key j) := by
  rw [Hs.none]
  intro p hp
  rw [hs_drp hv hi.1 hi.2.1, hi.2.2] at hp
  exact hp.2 rfl
/-- A key that is put and dropped leaves the same. -/
theorem back_same {x : List Cel} (hv : Valid x) {key p : Int} {n i : Nat} (hno : ∀ i, ¬ Has x key i) (hn : Look x key n) (hu : (cel x (lst key n)).u = false) (hp : 0 ≤ p ∧ p < 16) (hc : cnt x < 12) (hi : Has (putL x key p n) key i) :
    cnt x = cnt (drpL (putL x key p n) i) ∧ ∀ j, j < 16 → (cel x j).u = true → ∃ m, Has (drpL (putL x key p n) i) (cel x j).k m ∧ (cel (drpL (putL x key p n) i) m).p = (cel x j).p := by
  have hy := hv.put hn hu hp hc
  have h1 := cnt_put (p := p) hv.len hu
  have h2 := cnt_drp hy hi.1 hi.2.1
  refine ⟨by omega, fun j hj hju => ?_⟩
  have h3 : Hs x (cel x j).k (cel x j).p := ⟨j, ⟨hj, hju, rfl⟩, rfl⟩
  have h4 : Hs (drpL (putL x key p n) i) (cel x j).k (cel x j).p := by
    rw [hs_drp hy hi.1 hi.2.1, hi.2.2, hs_put hv hu]
    exact ⟨Or.inl h3, fun e => hno j ⟨hj, hju, e⟩⟩
  exact h4

set_option maxRecDepth 100000 in
set_option maxHeartbeats 6400000 in
theorem alike_is {v u : Value} {x y : List Cel} (hlx : x.length = 16) (hvy : Valid y) (hc : cnt x = cnt y) (hs : ∀ j, j < 16 → (cel x j).u = true → ∃ m, Has y (cel x j).k m ∧ (cel y m).p = (cel x j).p) (w : World) (h1 : IsR LCel w v x) (h2 : IsR LCel w u y) : Calls Try.prog 25 #[v, u] w fun e w' => e = .returned (.bool true) ∧ Below w.heap.size w w' := by
  have hly := hvy.len; have C1 := fun (W : World) (u : Value) (h : IsR LCel W u x) => rcnt_is hlx W h; have C2 := fun (W : World) (u : Value) (h : IsR LCel W u y) => rcnt_is hly W h; rw [hc] at C1; obtain ⟨M, hM⟩ : ∃ M, cnt y = M := ⟨_, rfl⟩; rw [hM] at C1 C2; clear hc hM
  have AT := fun (key r : Int) (hr : AtR y key r) (W : World) (u : Value) (h : IsR LCel W u y) => rat_is hly hr W h; have H1 := Lib.hid h1; have H2 := Lib.hid h2; have HV := Lib.hid hvy; have HS := Lib.hid hs
  obtain ⟨b, o, c, rfl, hc1, hc2, hC⟩ := IsR.open16 h1 hlx; obtain ⟨b2, o2, c2, rfl, hd1, hd2, hD⟩ := IsR.open16 h2 hly; have C := Lib.hid hC; have D := Lib.hid hD; clear hC hD h1 h2 hlx hly hvy hs
  have dM : ((M : Int) != (M : Int)) = false := bne_self_eq_false _; have d16 : ((16 : Int) != 16) = false := rfl
  have hB0 := Below.refl w.heap.size w
  have hs0 := hB0.size
  go_enter Try.func25, Try.ntmps25
  go_wp2_with fail
  refine (C1 _ _ (H1.out.below hB0)).mono ?_
  rintro e w1 ⟨rfl, hb⟩
  have hB1 : Below w.heap.size w w1 := below_thru hB0 hb
  have hs1 := hB1.size
  clear hB0 hs0
  clear hb
  go_wp2_with fail
  refine (C2 _ _ (H2.out.below hB1)).mono ?_
  rintro e w2 ⟨rfl, hb⟩
  have hB2 : Below w.heap.size w w2 := below_thru hB1 hb
  have hs2 := hB2.size
  clear hB1 hs1
  clear hb
  go_wp2_with fail
  clear C1 C2 dM d16
  go_loopw [5] (fun p5 wr => ∃ k : Nat, k ≤ 16 ∧ p5 = .int .i64 k ∧ Below w.heap.size w wr) (fun p5 _ => 16 - (intOf p5).toNat)
  case atStart => exact ⟨0, by decide, rfl, hB2⟩
  case round =>
    clear hB2 hs2
    obtain ⟨k, hk, rfl, hB⟩ := hrel
    have hs := hB.size
    by_cases hlt : k < 16
    case neg =>
      have hd : decide ((k : Int) < 16) = false := decide_eq_false (by omega)
      go_wp2_with fail
      go_returns
      exact ⟨rfl, hB⟩
    case pos =>
      have HX := Lib.hid (HS.out k hlt); have R := (C.out.below hB) k hlt; have r1 := R.1; have zr := lt_of_cell r1; clear R
      obtain ⟨f, hf⟩ : ∃ f, cel x k = f := ⟨_, rfl⟩; have HF := Lib.hid hf; rw [hf] at r1 HX; clear hf; obtain ⟨K, Q, U⟩ := f; simp only at r1 HX
      have i0 : (0 : Int) ≤ (k : Int) := (by omega); have i1 : (k : Int) < 16 := (by omega); have W1 : IntKind.i64.wrap ((k : Int) + 1) = ((k + 1 : Nat) : Int) := by rw [IntKind.wrap_i64]; omega
      have hB0 := hB
      have hs0 := hB0.size
      clear hB hs
      cases U with
      | false =>
        obtain ⟨r, hr⟩ := AtR.ex y K; have HR := Lib.hid hr; clear hr HX
        go_wp2_with fail
        refine (AT K r HR.out _ _ (H2.out.below hB0)).mono ?_
        rintro e w1 ⟨rfl, hb⟩
        clear r1 zr HR
        have hB1 : Below w.heap.size w w1 := below_thru hB0 hb
        have hs1 := hB1.size
        clear hB0 hs0
        clear hb
        go_wp2_with fail
        have R := (C.out.below hB1) k hlt; rw [HF.out] at R; have r3 := R.2.2; have zr := lt_of_cell r3; clear R; simp only at r3
        refine wp_region_held_drew (S := fun W => W.cell? ⟨b, o + k * 3 + 2, none⟩ = some (.bool false)) (by kernel_rfl) r3 (fun _ => ?_)
        refine F_drew (F := fun W => wpAnyH _ _ _ _ _ _ _ _ W) ?_
        intro Ws0 hbs0
        clear hs1
        have c_u_s0 := cell_below hbs0 r3
        have Bs0 := below_thru hB1 hbs0
        clear r3 hB1 hbs0
        refine takeH 0 32 (v := ?vs0_1) rfl (by rfl) (by kernel_rfl) (by kernel_rfl) (by kernel_rfl) (fun _ _ _ h => h) (Or.inl ⟨by rfl, ?_⟩) (c_u_s0) ?_
        rotate_left
        · intro wq hSq
          go_simp
          exact rfl
        try simp only [Act.put, List.setIfInBounds_toArray, List.set_cons_zero, List.set_cons_succ]
        refine takeH 1 33 (v := ?vs1_2) rfl (by rfl) (by kernel_rfl) (by kernel_rfl) (by kernel_rfl) (fun _ _ _ h => h) (Or.inl ⟨by rfl, ?_⟩) (c_u_s0) ?_
        rotate_left
        · intro wq hSq
          go_simp
          exact rfl
        try simp only [Act.put, List.setIfInBounds_toArray, List.set_cons_zero, List.set_cons_succ]
        refine takeH 2 34 (v := ?vs2_3) rfl (by rfl) (by kernel_rfl) (by kernel_rfl) (by kernel_rfl) (fun _ _ _ h => h) (Or.inl ⟨by rfl, ?_⟩) (c_u_s0) ?_
        rotate_left
        · intro wq hSq
          go_simp
          exact rfl
        try simp only [Act.put, List.setIfInBounds_toArray, List.set_cons_zero, List.set_cons_succ]
        refine takeH 3 35 (v := ?vs3_4) rfl (by rfl) (by kernel_rfl) (by kernel_rfl) (by kernel_rfl) (fun _ _ _ h => h) (Or.inl ⟨by rfl, ?_⟩) (c_u_s0) ?_
        rotate_left
        · intro wq hSq
          go_simp
          exact rfl
        try simp only [Act.put, List.setIfInBounds_toArray, List.set_cons_zero, List.set_cons_succ]
        refine takeH 4 36 (v := ?vs4_5) rfl (by rfl) (by kernel_rfl) (by kernel_rfl) (by kernel_rfl) (fun _ _ _ h => h) (Or.inl ⟨by rfl, ?_⟩) (c_u_s0) ?_
        rotate_left
        · intro wq hSq
          have cq := hSq
          have zq := lt_of_cell cq
          go_simp
          exact rfl
        try simp only [Act.put, List.setIfInBounds_toArray, List.set_cons_zero, List.set_cons_succ]
        refine takeH 5 37 (v := ?vs5_6) rfl (by rfl) (by kernel_rfl) (by kernel_rfl) (by kernel_rfl) (fun _ _ _ h => h) (Or.inl ⟨by rfl, ?_⟩) (c_u_s0) ?_
        rotate_left
        · intro wq hSq
          go_simp
          exact rfl
        try simp only [Act.put, List.setIfInBounds_toArray, List.set_cons_zero, List.set_cons_succ]
        refine takeH 6 38 (v := undef) rfl (by rfl) (by kernel_rfl) (by kernel_rfl) (by kernel_rfl) (fun _ _ _ h => h) (Or.inr ⟨by rfl, rfl⟩) (c_u_s0) ?_
        try simp only [Act.put, List.setIfInBounds_toArray, List.set_cons_zero, List.set_cons_succ]
        refine takeH 7 39 (v := undef) rfl (by rfl) (by kernel_rfl) (by kernel_rfl) (by kernel_rfl) (fun _ _ _ h => h) (Or.inr ⟨by rfl, rfl⟩) (c_u_s0) ?_
        try simp only [Act.put, List.setIfInBounds_toArray, List.set_cons_zero, List.set_cons_succ]
        refine takeH 8 40 (v := undef) rfl (by rfl) (by kernel_rfl) (by kernel_rfl) (by kernel_rfl) (fun _ _ _ h => h) (Or.inr ⟨by rfl, rfl⟩) (c_u_s0) ?_
        try simp only [Act.put, List.setIfInBounds_toArray, List.set_cons_zero, List.set_cons_succ]
        refine takeH 9 41 (v := undef) rfl (by rfl) (by kernel_rfl) (by kernel_rfl) (by kernel_rfl) (fun _ _ _ h => h) (Or.inr ⟨by rfl, rfl⟩) (c_u_s0) ?_
        try simp only [Act.put, List.setIfInBounds_toArray, List.set_cons_zero, List.set_cons_succ]
        refine takeH 10 42 (v := undef) rfl (by rfl) (by kernel_rfl) (by kernel_rfl) (by kernel_rfl) (fun _ _ _ h => h) (Or.inr ⟨by rfl, rfl⟩) (c_u_s0) ?_
        try simp only [Act.put, List.setIfInBounds_toArray, List.set_cons_zero, List.set_cons_succ]
        refine takeH 11 43 (v := undef) rfl (by rfl) (by kernel_rfl) (by kernel_rfl) (by kernel_rfl) (fun _ _ _ h => h) (Or.inr ⟨by rfl, rfl⟩) (c_u_s0) ?_
        try simp only [Act.put, List.setIfInBounds_toArray, List.set_cons_zero, List.set_cons_succ]
        refine takeH 12 44 (v := undef) rfl (by rfl) (by kernel_rfl) (by kernel_rfl) (by kernel_rfl) (fun _ _ _ h => h) (Or.inr ⟨by rfl, rfl⟩) (c_u_s0) ?_
        try simp only [Act.put, List.setIfInBounds_toArray, List.set_cons_zero, List.set_cons_succ]
        refine takeH 13 45 (v := undef) rfl (by rfl) (by kernel_rfl) (by kernel_rfl) (by kernel_rfl) (fun _ _ _ h => h) (Or.inr ⟨by rfl, rfl⟩) (c_u_s0) ?_
        try simp only [Act.put, List.setIfInBounds_toArray, List.set_cons_zero, List.set_cons_succ]
        refine takeH 14 46 (v := undef) rfl (by rfl) (by kernel_rfl) (by kernel_rfl) (by kernel_rfl) (fun _ _ _ h => h) (Or.inr ⟨by rfl, rfl⟩) (c_u_s0) ?_
        try simp only [Act.put, List.setIfInBounds_toArray, List.set_cons_zero, List.set_cons_succ]
        refine takeH 15 47 (v := undef) rfl (by rfl) (by kernel_rfl) (by kernel_rfl) (by kernel_rfl) (fun _ _ _ h => h) (Or.inr ⟨by rfl, rfl⟩) (c_u_s0) ?_
        try simp only [Act.put, List.setIfInBounds_toArray, List.set_cons_zero, List.set_cons_succ]
        refine takeH 16 48 (v := undef) rfl (by rfl) (by kernel_rfl) (by kernel_rfl) (by kernel_rfl) (fun _ _ _ h => h) (Or.inr ⟨by rfl, rfl⟩) (c_u_s0) ?_
        try simp only [Act.put, List.setIfInBounds_toArray, List.set_cons_zero, List.set_cons_succ]
        refine takeH 17 49 (v := undef) rfl (by rfl) (by kernel_rfl) (by kernel_rfl) (by kernel_rfl) (fun _ _ _ h => h) (Or.inr ⟨by rfl, rfl⟩) (c_u_s0) ?_
        try simp only [Act.put, List.setIfInBounds_toArray, List.set_cons_zero, List.set_cons_succ]
        refine takeH 18 50 (v := undef) rfl (by rfl) (by kernel_rfl) (by kernel_rfl) (by kernel_rfl) (fun _ _ _ h => h) (Or.inr ⟨by rfl, rfl⟩) (c_u_s0) ?_
        try simp only [Act.put, List.setIfInBounds_toArray, List.set_cons_zero, List.set_cons_succ]
        refine takeH 19 51 (v := undef) rfl (by rfl) (by kernel_rfl) (by kernel_rfl) (by kernel_rfl) (fun _ _ _ h => h) (Or.inr ⟨by rfl, rfl⟩) (c_u_s0) ?_
        try simp only [Act.put, List.setIfInBounds_toArray, List.set_cons_zero, List.set_cons_succ]
        refine takeH 20 52 (v := undef) rfl (by rfl) (by kernel_rfl) (by kernel_rfl) (by kernel_rfl) (fun _ _ _ h => h) (Or.inr ⟨by rfl, rfl⟩) (c_u_s0) ?_
        try simp only [Act.put, List.setIfInBounds_toArray, List.set_cons_zero, List.set_cons_succ]
        refine takeH 21 53 (v := ?vs21_7) rfl (by rfl) (by kernel_rfl) (by kernel_rfl) (by kernel_rfl) (fun _ _ _ h => h) (Or.inl ⟨by rfl, ?_⟩) (c_u_s0) ?_
        rotate_left
        · intro wq hSq
          go_simp
          exact rfl
        try simp only [Act.put, List.setIfInBounds_toArray, List.set_cons_zero, List.set_cons_succ]
        refine wpAnyH_done (by kernel_rfl) ?_ _
        go_wp2_with fail
        go_roundw
        case rel => exact ⟨k + 1, by omega, by go_num, Bs0⟩
        case measure => simp [intOf]; omega
      | true =>
        obtain ⟨m, hm, hp⟩ := HX.out rfl; have m16 := hm.1; have AM := AT K _ (HV.out.atR hm); have HP := Lib.hid hp; clear hm hp HX AT
        go_wp2_with fail
        refine (AM _ _ (H2.out.below hB0)).mono ?_
        rintro e w1 ⟨rfl, hb⟩
        clear r1 zr
        have hB1 : Below w.heap.size w w1 := below_thru hB0 hb
        have hs1 := hB1.size
        clear hB0 hs0
        clear hb
        go_wp2_with fail
        have R := (C.out.below hB1) k hlt; rw [HF.out] at R; have r2 := R.2.1; have r3 := R.2.2; have zr := lt_of_cell r3; clear R; simp only at r2 r3; have R := (D.out.below hB1) m m16; have q2 := R.2.1; rw [HP.out] at q2; have zq := lt_of_cell q2; clear R
        have d0 : decide ((m : Int) < 0) = false := decide_eq_false (by omega); have j0 : (0 : Int) ≤ (m : Int) := (by omega); have j1 : (m : Int) < 16 := (by omega); have dq : (Q != Q) = false := bne_self_eq_false Q; clear AM
        refine wp_region_held_drew (S := fun W => W.cell? ⟨b, o + k * 3 + 2, none⟩ = some (.bool true) ∧ W.cell? ⟨b2, o2 + m * 3 + 1, none⟩ = some (.int .i64 Q) ∧ W.cell? ⟨b, o + k * 3 + 1, none⟩ = some (.int .i64 Q)) (by kernel_rfl) (And.intro r3 (And.intro q2 r2)) (fun _ => ?_)
        refine F_drew (F := fun W => wpAnyH _ _ _ _ _ _ _ _ W) ?_
        intro Wu0 hbu0
        clear hs1
        have c_u_u0 := cell_below hbu0 r3
        have c_q_u0 := cell_below hbu0 q2
        have c_p_u0 := cell_below hbu0 r2
        have Bu0 := below_thru hB1 hbu0
        clear r3 q2 r2 hB1 hbu0
        refine takeH 0 32 (v := ?vu0_1) rfl (by rfl) (by kernel_rfl) (by kernel_rfl) (by kernel_rfl) (fun _ _ _ h => h) (Or.inl ⟨by rfl, ?_⟩) ((And.intro c_u_u0 (And.intro c_q_u0 c_p_u0))) ?_
        rotate_left
        · intro wq hSq
          go_simp
          exact rfl
        try simp only [Act.put, List.setIfInBounds_toArray, List.set_cons_zero, List.set_cons_succ]
        refine takeH 1 33 (v := ?vu1_2) rfl (by rfl) (by kernel_rfl) (by kernel_rfl) (by kernel_rfl) (fun _ _ _ h => h) (Or.inl ⟨by rfl, ?_⟩) ((And.intro c_u_u0 (And.intro c_q_u0 c_p_u0))) ?_
        rotate_left
        · intro wq hSq
          go_simp
          exact rfl
        try simp only [Act.put, List.setIfInBounds_toArray, List.set_cons_zero, List.set_cons_succ]
        refine takeH 2 34 (v := ?vu2_3) rfl (by rfl) (by kernel_rfl) (by kernel_rfl) (by kernel_rfl) (fun _ _ _ h => h) (Or.inl ⟨by rfl, ?_⟩) ((And.intro c_u_u0 (And.intro c_q_u0 c_p_u0))) ?_
        rotate_left
        · intro wq hSq
          go_simp
          exact rfl
        try simp only [Act.put, List.setIfInBounds_toArray, List.set_cons_zero, List.set_cons_succ]
        refine takeH 3 35 (v := ?vu3_4) rfl (by rfl) (by kernel_rfl) (by kernel_rfl) (by kernel_rfl) (fun _ _ _ h => h) (Or.inl ⟨by rfl, ?_⟩) ((And.intro c_u_u0 (And.intro c_q_u0 c_p_u0))) ?_
        rotate_left
        · intro wq hSq
          go_simp
          exact rfl
        try simp only [Act.put, List.setIfInBounds_toArray, List.set_cons_zero, List.set_cons_succ]
        refine takeH 4 36 (v := ?vu4_5) rfl (by rfl) (by kernel_rfl) (by kernel_rfl) (by kernel_rfl) (fun _ _ _ h => h) (Or.inl ⟨by rfl, ?_⟩) ((And.intro c_u_u0 (And.intro c_q_u0 c_p_u0))) ?_
        rotate_left
        · intro wq hSq
          have cq := hSq.1
          have zq := lt_of_cell cq
          go_simp
          exact rfl
        try simp only [Act.put, List.setIfInBounds_toArray, List.set_cons_zero, List.set_cons_succ]
        refine takeH 5 37 (v := ?vu5_6) rfl (by rfl) (by kernel_rfl) (by kernel_rfl) (by kernel_rfl) (fun _ _ _ h => h) (Or.inl ⟨by rfl, ?_⟩) ((And.intro c_u_u0 (And.intro c_q_u0 c_p_u0))) ?_
        rotate_left
        · intro wq hSq
          go_simp
          exact rfl
        try simp only [Act.put, List.setIfInBounds_toArray, List.set_cons_zero, List.set_cons_succ]
        refine takeH 6 38 (v := ?vu6_7) rfl (by rfl) (by kernel_rfl) (by kernel_rfl) (by kernel_rfl) (fun _ _ _ h => h) (Or.inl ⟨by rfl, ?_⟩) ((And.intro c_u_u0 (And.intro c_q_u0 c_p_u0))) ?_
        rotate_left
        · intro wq hSq
          go_simp
          exact rfl
        try simp only [Act.put, List.setIfInBounds_toArray, List.set_cons_zero, List.set_cons_succ]
        refine takeH 7 39 (v := ?vu7_8) rfl (by rfl) (by kernel_rfl) (by kernel_rfl) (by kernel_rfl) (fun _ _ _ h => h) (Or.inl ⟨by rfl, ?_⟩) ((And.intro c_u_u0 (And.intro c_q_u0 c_p_u0))) ?_
        rotate_left
        · intro wq hSq
          go_simp
          exact rfl
        try simp only [Act.put, List.setIfInBounds_toArray, List.set_cons_zero, List.set_cons_succ]
        refine takeH 8 40 (v := ?vu8_9) rfl (by rfl) (by kernel_rfl) (by kernel_rfl) (by kernel_rfl) (fun _ _ _ h => h) (Or.inl ⟨by rfl, ?_⟩) ((And.intro c_u_u0 (And.intro c_q_u0 c_p_u0))) ?_
        rotate_left
        · intro wq hSq
          go_simp
          exact rfl
        try simp only [Act.put, List.setIfInBounds_toArray, List.set_cons_zero, List.set_cons_succ]
        refine takeH 9 41 (v := ?vu9_10) rfl (by rfl) (by kernel_rfl) (by kernel_rfl) (by kernel_rfl) (fun _ _ _ h => h) (Or.inl ⟨by rfl, ?_⟩) ((And.intro c_u_u0 (And.intro c_q_u0 c_p_u0))) ?_
        rotate_left
        · intro wq hSq
          go_simp
          exact rfl
        try simp only [Act.put, List.setIfInBounds_toArray, List.set_cons_zero, List.set_cons_succ]
        refine takeH 10 42 (v := ?vu10_11) rfl (by rfl) (by kernel_rfl) (by kernel_rfl) (by kernel_rfl) (fun _ _ _ h => h) (Or.inl ⟨by rfl, ?_⟩) ((And.intro c_u_u0 (And.intro c_q_u0 c_p_u0))) ?_
        rotate_left
        · intro wq hSq
          go_simp
          exact rfl
        try simp only [Act.put, List.setIfInBounds_toArray, List.set_cons_zero, List.set_cons_succ]
        refine takeH 11 43 (v := ?vu11_12) rfl (by rfl) (by kernel_rfl) (by kernel_rfl) (by kernel_rfl) (fun _ _ _ h => h) (Or.inl ⟨by rfl, ?_⟩) ((And.intro c_u_u0 (And.intro c_q_u0 c_p_u0))) ?_
        rotate_left
        · intro wq hSq
          go_simp
          exact rfl
        try simp only [Act.put, List.setIfInBounds_toArray, List.set_cons_zero, List.set_cons_succ]
        refine takeH 12 44 (v := ?vu12_13) rfl (by rfl) (by kernel_rfl) (by kernel_rfl) (by kernel_rfl) (fun _ _ _ h => h) (Or.inl ⟨by rfl, ?_⟩) ((And.intro c_u_u0 (And.intro c_q_u0 c_p_u0))) ?_
        rotate_left
        · intro wq hSq
          go_simp
          exact rfl
        try simp only [Act.put, List.setIfInBounds_toArray, List.set_cons_zero, List.set_cons_succ]
        refine takeH 13 45 (v := ?vu13_14) rfl (by rfl) (by kernel_rfl) (by kernel_rfl) (by kernel_rfl) (fun _ _ _ h => h) (Or.inl ⟨by rfl, ?_⟩) ((And.intro c_u_u0 (And.intro c_q_u0 c_p_u0))) ?_
        rotate_left
        · intro wq hSq
          have cq := hSq.2.1
          have zq := lt_of_cell cq
          go_simp
          exact rfl
        try simp only [Act.put, List.setIfInBounds_toArray, List.set_cons_zero, List.set_cons_succ]
        refine takeH 14 46 (v := ?vu14_15) rfl (by rfl) (by kernel_rfl) (by kernel_rfl) (by kernel_rfl) (fun _ _ _ h => h) (Or.inl ⟨by rfl, ?_⟩) ((And.intro c_u_u0 (And.intro c_q_u0 c_p_u0))) ?_
        rotate_left
        · intro wq hSq
          go_simp
          exact rfl
        try simp only [Act.put, List.setIfInBounds_toArray, List.set_cons_zero, List.set_cons_succ]
        refine takeH 15 47 (v := ?vu15_16) rfl (by rfl) (by kernel_rfl) (by kernel_rfl) (by kernel_rfl) (fun _ _ _ h => h) (Or.inl ⟨by rfl, ?_⟩) ((And.intro c_u_u0 (And.intro c_q_u0 c_p_u0))) ?_
        rotate_left
        · intro wq hSq
          go_simp
          exact rfl
        try simp only [Act.put, List.setIfInBounds_toArray, List.set_cons_zero, List.set_cons_succ]
        refine takeH 16 48 (v := ?vu16_17) rfl (by rfl) (by kernel_rfl) (by kernel_rfl) (by kernel_rfl) (fun _ _ _ h => h) (Or.inl ⟨by rfl, ?_⟩) ((And.intro c_u_u0 (And.intro c_q_u0 c_p_u0))) ?_
        rotate_left
        · intro wq hSq
          go_simp
          exact rfl
        try simp only [Act.put, List.setIfInBounds_toArray, List.set_cons_zero, List.set_cons_succ]
        refine takeH 17 49 (v := ?vu17_18) rfl (by rfl) (by kernel_rfl) (by kernel_rfl) (by kernel_rfl) (fun _ _ _ h => h) (Or.inl ⟨by rfl, ?_⟩) ((And.intro c_u_u0 (And.intro c_q_u0 c_p_u0))) ?_
        rotate_left
        · intro wq hSq
          go_simp
          exact rfl
        try simp only [Act.put, List.setIfInBounds_toArray, List.set_cons_zero, List.set_cons_succ]
        refine takeH 18 50 (v := ?vu18_19) rfl (by rfl) (by kernel_rfl) (by kernel_rfl) (by kernel_rfl) (fun _ _ _ h => h) (Or.inl ⟨by rfl, ?_⟩) ((And.intro c_u_u0 (And.intro c_q_u0 c_p_u0))) ?_
        rotate_left
        · intro wq hSq
          have cq := hSq.2.2
          have zq := lt_of_cell cq
          go_simp
          exact rfl
        try simp only [Act.put, List.setIfInBounds_toArray, List.set_cons_zero, List.set_cons_succ]
        refine takeH 19 51 (v := ?vu19_20) rfl (by rfl) (by kernel_rfl) (by kernel_rfl) (by kernel_rfl) (fun _ _ _ h => h) (Or.inl ⟨by rfl, ?_⟩) ((And.intro c_u_u0 (And.intro c_q_u0 c_p_u0))) ?_
        rotate_left
        · intro wq hSq
          go_simp
          exact rfl
        try simp only [Act.put, List.setIfInBounds_toArray, List.set_cons_zero, List.set_cons_succ]
        refine takeH 20 52 (v := ?vu20_21) rfl (by rfl) (by kernel_rfl) (by kernel_rfl) (by kernel_rfl) (fun _ _ _ h => h) (Or.inl ⟨by rfl, ?_⟩) ((And.intro c_u_u0 (And.intro c_q_u0 c_p_u0))) ?_
        rotate_left
        · intro wq hSq
          go_simp
          exact rfl
        try simp only [Act.put, List.setIfInBounds_toArray, List.set_cons_zero, List.set_cons_succ]
        refine takeH 21 53 (v := ?vu21_22) rfl (by rfl) (by kernel_rfl) (by kernel_rfl) (by kernel_rfl) (fun _ _ _ h => h) (Or.inl ⟨by rfl, ?_⟩) ((And.intro c_u_u0 (And.intro c_q_u0 c_p_u0))) ?_
        rotate_left
        · intro wq hSq
          go_simp
          exact rfl
        try simp only [Act.put, List.setIfInBounds_toArray, List.set_cons_zero, List.set_cons_succ]
        refine wpAnyH_done (by kernel_rfl) ?_ _
        go_wp2_with fail
        go_roundw
        case rel => exact ⟨k + 1, by omega, by go_num, Bu0⟩
        case measure => simp [intOf]; omega

set_option maxRecDepth 100000 in
set_option maxHeartbeats 6400000 in
theorem back14_a {v : Value} {x : List Cel} {key other p : Int} (hky : Keys x) (hv : ¬ Valid x) (w : World) (h1 : IsR LCel w v x) : Calls Try.prog 8 #[v, .int .u32 key, .int .u32 other, .int .i64 p] w fun e w' => e = .returned (.bool true) ∧ Below w.heap.size w w' := by
  have H1 := Lib.hid h1; have CK := fun (W : World) (u : Value) (h : IsR LCel W u x) => rchk_is (q := 8) hky W h (Or.inr ⟨rfl, hv⟩); have AL := fun W => alive14_is W; clear h1 hky hv
  have hB0 := Below.refl w.heap.size w
  have hs0 := hB0.size
  go_enter Try.func8, Try.ntmps8
  go_wp2_with fail
  refine (AL _).mono ?_
  rintro e w1 ⟨rfl, hb⟩
  have hB1 : Below w.heap.size w w1 := below_thru hB0 hb
  have hs1 := hB1.size
  clear hB0 hs0
  clear hb
  go_wp2_with fail
  refine (CK _ _ (H1.out.below hB1)).mono ?_
  rintro e w2 ⟨rfl, hb⟩
  have hB2 : Below w.heap.size w w2 := below_thru hB1 hb
  have hs2 := hB2.size
  clear hB1 hs1
  clear hb
  go_wp2_with fail
  go_returns
  exact ⟨rfl, hB2⟩

set_option maxRecDepth 100000 in
set_option maxHeartbeats 6400000 in
theorem back14_b {v : Value} {x : List Cel} {key other p : Int} {q : Int} (hky : Keys x) (hv : Valid x) (hno : ∀ i, ¬ Has x key i) (hq : q ≠ 0) (hP : PutX x key p [] q) (w : World) (h1 : IsR LCel w v x) : Calls Try.prog 8 #[v, .int .u32 key, .int .u32 other, .int .i64 p] w fun e w' => e = .returned (.bool true) ∧ Below w.heap.size w w' := by
  have H1 := Lib.hid h1; have hl := hv.len; have CK := fun (W : World) (u : Value) (h : IsR LCel W u x) => rchk_is (q := 0) hky W h (Or.inl ⟨rfl, hv⟩); have AL := fun W => alive14_is W
  have PU := fun (W : World) (u : Value) (h : IsR LCel W u x) => pput_is hP W h; have DR := fun (W : World) (u : Value) (h : IsR LCel W u x) => pdrop_is (y := []) (q := 6) (Or.inr (Or.inl ⟨hv, rfl, rfl, hno⟩)) W h; have dq : (q == 0) = false := beq_false_of_ne hq; clear h1 hl hky hv hno hq hP
  have hB0 := Below.refl w.heap.size w
  have hs0 := hB0.size
  go_enter Try.func8, Try.ntmps8
  go_wp2_with fail
  refine (AL _).mono ?_
  rintro e w1 ⟨rfl, hb⟩
  have hB1 : Below w.heap.size w w1 := below_thru hB0 hb
  have hs1 := hB1.size
  clear hB0 hs0
  clear hb
  go_wp2_with fail
  refine (CK _ _ (H1.out.below hB1)).mono ?_
  rintro e w2 ⟨rfl, hb⟩
  have hB2 : Below w.heap.size w w2 := below_thru hB1 hb
  have hs2 := hB2.size
  clear hB1 hs1
  clear hb
  go_wp2_with fail
  refine (PU _ _ (H1.out.below hB2)).mono ?_
  rintro e w3 ⟨ua, rfl, hI, hb⟩
  have hB3 : Below w.heap.size w w3 := below_thru hB2 hb
  have hs3 := hB3.size
  clear hB2 hs2
  clear hb
  have K_w3_3 : Below w3.heap.size w3 w3 := Below.refl _ _
  have Ia := Lib.hid hI; clear hI
  clear Ia
  go_wp2_with fail
  refine (DR _ _ (H1.out.below hB3)).mono ?_
  rintro e w4 ⟨ub, rfl, hI, hb⟩
  have K_w3_4 : Below w3.heap.size w3 w4 := below_thru K_w3_3 hb
  clear K_w3_3
  have hB4 : Below w.heap.size w w4 := below_thru hB3 hb
  have hs4 := hB4.size
  clear hB3 hs3
  clear hb
  have K_w4_4 : Below w4.heap.size w4 w4 := Below.refl _ _
  have Ib := Lib.hid hI; clear hI
  clear Ib
  go_wp2_with fail
  go_returns
  exact ⟨rfl, hB4⟩

set_option maxRecDepth 100000 in
set_option maxHeartbeats 6400000 in
theorem back14_c {v : Value} {x : List Cel} {key other p : Int} (hkey : 0 ≤ key ∧ key ≤ 4294967295) {n : Nat} (hky : Keys x) (hv : Valid x) (hno : ∀ i, ¬ Has x key i) (hn : Look x key n) (hu : (cel x (lst key n)).u = false) (hp : 0 ≤ p ∧ p < 16) (hc : cnt x < 12) (w : World) (h1 : IsR LCel w v x) : Calls Try.prog 8 #[v, .int .u32 key, .int .u32 other, .int .i64 p] w fun e w' => e = .returned (.bool true) ∧ Below w.heap.size w w' := by
  have H1 := Lib.hid h1; have hl := hv.len; have CK := fun (W : World) (u : Value) (h : IsR LCel W u x) => rchk_is (q := 0) hky W h (Or.inl ⟨rfl, hv⟩); have AL := fun W => alive14_is W
  have PU := fun (W : World) (u : Value) (h : IsR LCel W u x) => pput_is (Or.inr (Or.inr (Or.inr (Or.inr ⟨hv, hp, hno, rfl, hc, n, hn, hu, rfl⟩)))) W h; have DR := fun (W : World) (u : Value) (h : IsR LCel W u x) => pdrop_is (y := []) (q := 6) (Or.inr (Or.inl ⟨hv, rfl, rfl, hno⟩)) W h
  have hy := hv.put hn hu hp hc; have hi : Has (putL x key p n) key (lst key n) := ⟨lst_lt key n, by rw [cel_put hl, if_pos rfl], by rw [cel_put hl, if_pos rfl]⟩; have hs := back_same hv hno hn hu hp hc hi; have hz := hy.drop hi.1 hi.2.1
  have DY := fun (W : World) (u : Value) (h : IsR LCel W u (putL x key p n)) => pdrop_is (Or.inr (Or.inr ⟨hy, rfl, _, hi, rfl⟩)) W h; have CY := fun (W : World) (u : Value) (h : IsR LCel W u (putL x key p n)) => rchk_is (q := 0) (hky.put n hkey) W h (Or.inl ⟨rfl, hy⟩)
  obtain ⟨y, hY⟩ : ∃ y, putL x key p n = y := ⟨_, rfl⟩; rw [hY] at PU DY CY hs hz; obtain ⟨z, hZ⟩ : ∃ z, drpL y (lst key n) = z := ⟨_, rfl⟩; rw [hZ] at DY hs hz; have LK := fun (W : World) (u v : Value) (h : IsR LCel W u x) (g : IsR LCel W v z) => alike_is hl hz hs.1 hs.2 W h g; clear h1 hl hky hv hno hn hu hp hc hkey hy hi hs hz hY hZ
  have hB0 := Below.refl w.heap.size w
  have hs0 := hB0.size
  go_enter Try.func8, Try.ntmps8
  go_wp2_with fail
  refine (AL _).mono ?_
  rintro e w1 ⟨rfl, hb⟩
  have hB1 : Below w.heap.size w w1 := below_thru hB0 hb
  have hs1 := hB1.size
  clear hB0 hs0
  clear hb
  go_wp2_with fail
  refine (CK _ _ (H1.out.below hB1)).mono ?_
  rintro e w2 ⟨rfl, hb⟩
  have hB2 : Below w.heap.size w w2 := below_thru hB1 hb
  have hs2 := hB2.size
  clear hB1 hs1
  clear hb
  go_wp2_with fail
  refine (PU _ _ (H1.out.below hB2)).mono ?_
  rintro e w3 ⟨ua, rfl, hI, hb⟩
  have hB3 : Below w.heap.size w w3 := below_thru hB2 hb
  have hs3 := hB3.size
  clear hB2 hs2
  clear hb
  have K_w3_3 : Below w3.heap.size w3 w3 := Below.refl _ _
  have Ia := Lib.hid hI; clear hI
  go_wp2_with fail
  refine (DY _ _ (Ia.out.isR.below K_w3_3)).mono ?_
  rintro e w4 ⟨ub, rfl, hI, hb⟩
  have K_w3_4 : Below w3.heap.size w3 w4 := below_thru K_w3_3 hb
  clear K_w3_3
  have hB4 : Below w.heap.size w w4 := below_thru hB3 hb
  have hs4 := hB4.size
  clear hB3 hs3
  clear hb
  have K_w4_4 : Below w4.heap.size w4 w4 := Below.refl _ _
  have Ib := Lib.hid hI; clear hI
  go_wp2_with fail
  refine (LK _ _ _ (H1.out.below hB4) (Ib.out.isR.below K_w4_4)).mono ?_
  rintro e w5 ⟨rfl, hb⟩
  have K_w3_5 : Below w3.heap.size w3 w5 := below_thru K_w3_4 hb
  have K_w4_5 : Below w4.heap.size w4 w5 := below_thru K_w4_4 hb
  clear K_w3_4 K_w4_4
  have hB5 : Below w.heap.size w w5 := below_thru hB4 hb
  have hs5 := hB5.size
  clear hB4 hs4
  clear hb
  go_wp2_with fail
  refine (CY _ _ (Ia.out.isR.below K_w3_5)).mono ?_
  rintro e w6 ⟨rfl, hb⟩
  have K_w3_6 : Below w3.heap.size w3 w6 := below_thru K_w3_5 hb
  have K_w4_6 : Below w4.heap.size w4 w6 := below_thru K_w4_5 hb
  clear K_w3_5 K_w4_5
  have hB6 : Below w.heap.size w w6 := below_thru hB5 hb
  have hs6 := hB6.size
  clear hB5 hs5
  clear hb
  clear Ia Ib
  go_wp2_with fail
  refine (DR _ _ (H1.out.below hB6)).mono ?_
  rintro e w7 ⟨uc, rfl, hI, hb⟩
  have K_w3_7 : Below w3.heap.size w3 w7 := below_thru K_w3_6 hb
  have K_w4_7 : Below w4.heap.size w4 w7 := below_thru K_w4_6 hb
  clear K_w3_6 K_w4_6
  have hB7 : Below w.heap.size w w7 := below_thru hB6 hb
  have hs7 := hB7.size
  clear hB6 hs6
  clear hb
  have K_w7_7 : Below w7.heap.size w7 w7 := Below.refl _ _
  have Ic := Lib.hid hI; clear hI
  clear Ic
  go_wp2_with fail
  go_returns
  exact ⟨rfl, hB7⟩

set_option maxRecDepth 100000 in
set_option maxHeartbeats 6400000 in
theorem back14_d {v : Value} {x : List Cel} {key other p : Int} {q : Int} {i : Nat} (hky : Keys x) (hv : Valid x) (hi : Has x key i) (hq : q ≠ 0) (hP : PutX x key p [] q) (ho : other = key) (w : World) (h1 : IsR LCel w v x) : Calls Try.prog 8 #[v, .int .u32 key, .int .u32 other, .int .i64 p] w fun e w' => e = .returned (.bool true) ∧ Below w.heap.size w w' := by
  have H1 := Lib.hid h1; have hl := hv.len; have CK := fun (W : World) (u : Value) (h : IsR LCel W u x) => rchk_is (q := 0) hky W h (Or.inl ⟨rfl, hv⟩); have AL := fun W => alive14_is W
  have PU := fun (W : World) (u : Value) (h : IsR LCel W u x) => pput_is hP W h; have DR := fun (W : World) (u : Value) (h : IsR LCel W u x) => pdrop_is (Or.inr (Or.inr ⟨hv, rfl, i, hi, rfl⟩)) W h; have dq : (q == 0) = false := beq_false_of_ne hq
  have hz := hv.drop hi.1 hi.2.1; have hg := hv.fnd_gone hi; obtain ⟨r, s, hF⟩ := FndX.ex x other; have FX := fun (W : World) (u : Value) (h : IsR LCel W u x) => pfind_is hF W h
  subst ho; have FY := fun (W : World) (u : Value) (h : IsR LCel W u (drpL x i)) => pfind_is (p := 0) (q := 6) (Or.inr (Or.inl ⟨hz, rfl, rfl, hg⟩)) W h; have dk : (other == other) = true := beq_self_eq_true other
  have CZ := fun (W : World) (u : Value) (h : IsR LCel W u (drpL x i)) => rchk_is (q := 0) (hky.drp i) W h (Or.inl ⟨rfl, hz⟩); have AZ := fun (W : World) (u : Value) (h : IsR LCel W u (drpL x i)) => rat_is (r := -1) hz.len (Or.inl ⟨rfl, hg⟩) W h
  obtain ⟨z, hZ⟩ : ∃ z, drpL x i = z := ⟨_, rfl⟩; rw [hZ] at DR FY CZ AZ; clear h1 hl hky hv hi hq hP hF hz hg hZ
  have hB0 := Below.refl w.heap.size w
  have hs0 := hB0.size
  go_enter Try.func8, Try.ntmps8
  go_wp2_with fail
  refine (AL _).mono ?_
  rintro e w1 ⟨rfl, hb⟩
  have hB1 : Below w.heap.size w w1 := below_thru hB0 hb
  have hs1 := hB1.size
  clear hB0 hs0
  clear hb
  go_wp2_with fail
  refine (CK _ _ (H1.out.below hB1)).mono ?_
  rintro e w2 ⟨rfl, hb⟩
  have hB2 : Below w.heap.size w w2 := below_thru hB1 hb
  have hs2 := hB2.size
  clear hB1 hs1
  clear hb
  go_wp2_with fail
  refine (PU _ _ (H1.out.below hB2)).mono ?_
  rintro e w3 ⟨ua, rfl, hI, hb⟩
  have hB3 : Below w.heap.size w w3 := below_thru hB2 hb
  have hs3 := hB3.size
  clear hB2 hs2
  clear hb
  have K_w3_3 : Below w3.heap.size w3 w3 := Below.refl _ _
  have Ia := Lib.hid hI; clear hI
  clear Ia
  go_wp2_with fail
  refine (DR _ _ (H1.out.below hB3)).mono ?_
  rintro e w4 ⟨ub, rfl, hI, hb⟩
  have K_w3_4 : Below w3.heap.size w3 w4 := below_thru K_w3_3 hb
  clear K_w3_3
  have hB4 : Below w.heap.size w w4 := below_thru hB3 hb
  have hs4 := hB4.size
  clear hB3 hs3
  clear hb
  have K_w4_4 : Below w4.heap.size w4 w4 := Below.refl _ _
  have Ib := Lib.hid hI; clear hI
  go_wp2_with fail
  refine (FX _ _ (H1.out.below hB4)).mono ?_
  rintro e w5 ⟨rfl, hb⟩
  have K_w3_5 : Below w3.heap.size w3 w5 := below_thru K_w3_4 hb
  have K_w4_5 : Below w4.heap.size w4 w5 := below_thru K_w4_4 hb
  clear K_w3_4 K_w4_4
  have hB5 : Below w.heap.size w w5 := below_thru hB4 hb
  have hs5 := hB5.size
  clear hB4 hs4
  clear hb
  go_wp2_with fail
  refine (FY _ _ (Ib.out.isR.below K_w4_5)).mono ?_
  rintro e w6 ⟨rfl, hb⟩
  have K_w3_6 : Below w3.heap.size w3 w6 := below_thru K_w3_5 hb
  have K_w4_6 : Below w4.heap.size w4 w6 := below_thru K_w4_5 hb
  clear K_w3_5 K_w4_5
  have hB6 : Below w.heap.size w w6 := below_thru hB5 hb
  have hs6 := hB6.size
  clear hB5 hs5
  clear hb
  go_wp2_with fail
  refine (CZ _ _ (Ib.out.isR.below K_w4_6)).mono ?_
  rintro e w7 ⟨rfl, hb⟩
  have K_w3_7 : Below w3.heap.size w3 w7 := below_thru K_w3_6 hb
  have K_w4_7 : Below w4.heap.size w4 w7 := below_thru K_w4_6 hb
  clear K_w3_6 K_w4_6
  have hB7 : Below w.heap.size w w7 := below_thru hB6 hb
  have hs7 := hB7.size
  clear hB6 hs6
  clear hb
  go_wp2_with fail
  refine (AZ _ _ (Ib.out.isR.below K_w4_7)).mono ?_
  rintro e w8 ⟨rfl, hb⟩
  have K_w3_8 : Below w3.heap.size w3 w8 := below_thru K_w3_7 hb
  have K_w4_8 : Below w4.heap.size w4 w8 := below_thru K_w4_7 hb
  clear K_w3_7 K_w4_7
  have hB8 : Below w.heap.size w w8 := below_thru hB7 hb
  have hs8 := hB8.size
  clear hB7 hs7
  clear hb
  go_wp2_with fail
  go_returns
  exact ⟨rfl, hB8⟩

set_option maxRecDepth 100000 in
set_option maxHeartbeats 6400000 in
theorem back14_e {v : Value} {x : List Cel} {key other p : Int} {q : Int} {i : Nat} (hky : Keys x) (hv : Valid x) (hi : Has x key i) (hq : q ≠ 0) (hP : PutX x key p [] q) (ho : other ≠ key) (w : World) (h1 : IsR LCel w v x) : Calls Try.prog 8 #[v, .int .u32 key, .int .u32 other, .int .i64 p] w fun e w' => e = .returned (.bool true) ∧ Below w.heap.size w w' := by
  have H1 := Lib.hid h1; have hl := hv.len; have CK := fun (W : World) (u : Value) (h : IsR LCel W u x) => rchk_is (q := 0) hky W h (Or.inl ⟨rfl, hv⟩); have AL := fun W => alive14_is W
  have PU := fun (W : World) (u : Value) (h : IsR LCel W u x) => pput_is hP W h; have DR := fun (W : World) (u : Value) (h : IsR LCel W u x) => pdrop_is (Or.inr (Or.inr ⟨hv, rfl, i, hi, rfl⟩)) W h; have dq : (q == 0) = false := beq_false_of_ne hq
  have hz := hv.drop hi.1 hi.2.1; have hg := hv.fnd_gone hi; obtain ⟨r, s, hF⟩ := FndX.ex x other; have FX := fun (W : World) (u : Value) (h : IsR LCel W u x) => pfind_is hF W h
  have FY := fun (W : World) (u : Value) (h : IsR LCel W u (drpL x i)) => pfind_is (hv.fnd_drop hi ho hF) W h; have dk : (other == key) = false := beq_false_of_ne ho; have dk2 : (other != key) = true := by rw [bne_iff_ne]; exact ho
  have CZ := fun (W : World) (u : Value) (h : IsR LCel W u (drpL x i)) => rchk_is (q := 0) (hky.drp i) W h (Or.inl ⟨rfl, hz⟩); have AZ := fun (W : World) (u : Value) (h : IsR LCel W u (drpL x i)) => rat_is (r := -1) hz.len (Or.inl ⟨rfl, hg⟩) W h
  obtain ⟨z, hZ⟩ : ∃ z, drpL x i = z := ⟨_, rfl⟩; rw [hZ] at DR FY CZ AZ; clear h1 hl hky hv hi hq hP hF hz hg hZ ho
  have hB0 := Below.refl w.heap.size w
  have hs0 := hB0.size
  go_enter Try.func8, Try.ntmps8
  go_wp2_with fail
  refine (AL _).mono ?_
  rintro e w1 ⟨rfl, hb⟩
  have hB1 : Below w.heap.size w w1 := below_thru hB0 hb
  have hs1 := hB1.size
  clear hB0 hs0
  clear hb
  go_wp2_with fail
  refine (CK _ _ (H1.out.below hB1)).mono ?_
  rintro e w2 ⟨rfl, hb⟩
  have hB2 : Below w.heap.size w w2 := below_thru hB1 hb
  have hs2 := hB2.size
  clear hB1 hs1
  clear hb
  go_wp2_with fail
  refine (PU _ _ (H1.out.below hB2)).mono ?_
  rintro e w3 ⟨ua, rfl, hI, hb⟩
  have hB3 : Below w.heap.size w w3 := below_thru hB2 hb
  have hs3 := hB3.size
  clear hB2 hs2
  clear hb
  have K_w3_3 : Below w3.heap.size w3 w3 := Below.refl _ _
  have Ia := Lib.hid hI; clear hI
  clear Ia
  go_wp2_with fail
  refine (DR _ _ (H1.out.below hB3)).mono ?_
  rintro e w4 ⟨ub, rfl, hI, hb⟩
  have K_w3_4 : Below w3.heap.size w3 w4 := below_thru K_w3_3 hb
  clear K_w3_3
  have hB4 : Below w.heap.size w w4 := below_thru hB3 hb
  have hs4 := hB4.size
  clear hB3 hs3
  clear hb
  have K_w4_4 : Below w4.heap.size w4 w4 := Below.refl _ _
  have Ib := Lib.hid hI; clear hI
  go_wp2_with fail
  refine (FX _ _ (H1.out.below hB4)).mono ?_
  rintro e w5 ⟨rfl, hb⟩
  have K_w3_5 : Below w3.heap.size w3 w5 := below_thru K_w3_4 hb
  have K_w4_5 : Below w4.heap.size w4 w5 := below_thru K_w4_4 hb
  clear K_w3_4 K_w4_4
  have hB5 : Below w.heap.size w w5 := below_thru hB4 hb
  have hs5 := hB5.size
  clear hB4 hs4
  clear hb
  go_wp2_with fail
  refine (FY _ _ (Ib.out.isR.below K_w4_5)).mono ?_
  rintro e w6 ⟨rfl, hb⟩
  have K_w3_6 : Below w3.heap.size w3 w6 := below_thru K_w3_5 hb
  have K_w4_6 : Below w4.heap.size w4 w6 := below_thru K_w4_5 hb
  clear K_w3_5 K_w4_5
  have hB6 : Below w.heap.size w w6 := below_thru hB5 hb
  have hs6 := hB6.size
  clear hB5 hs5
  clear hb
  go_wp2_with fail
  refine (CZ _ _ (Ib.out.isR.below K_w4_6)).mono ?_
  rintro e w7 ⟨rfl, hb⟩
  have K_w3_7 : Below w3.heap.size w3 w7 := below_thru K_w3_6 hb
  have K_w4_7 : Below w4.heap.size w4 w7 := below_thru K_w4_6 hb
  clear K_w3_6 K_w4_6
  have hB7 : Below w.heap.size w w7 := below_thru hB6 hb
  have hs7 := hB7.size
  clear hB6 hs6
  clear hb
  go_wp2_with fail
  refine (AZ _ _ (Ib.out.isR.below K_w4_7)).mono ?_
  rintro e w8 ⟨rfl, hb⟩
  have K_w3_8 : Below w3.heap.size w3 w8 := below_thru K_w3_7 hb
  have K_w4_8 : Below w4.heap.size w4 w8 := below_thru K_w4_7 hb
  clear K_w3_7 K_w4_7
  have hB8 : Below w.heap.size w w8 := below_thru hB7 hb
  have hs8 := hB8.size
  clear hB7 hs7
  clear hb
  go_wp2_with fail
  go_returns
  exact ⟨rfl, hB8⟩

theorem back14_is {v : Value} {x : List Cel} {key other p : Int} (hky : Keys x) (hkey : 0 ≤ key ∧ key ≤ 4294967295) (w : World) (h1 : IsR LCel w v x) : Calls Try.prog 8 #[v, .int .u32 key, .int .u32 other, .int .i64 p] w fun e w' => e = .returned (.bool true) ∧ Below w.heap.size w w' := by
  by_cases hv : Valid x
  · by_cases hh : ∃ i, Has x key i
    · obtain ⟨i, hi⟩ := hh
      have hP : ∃ q, q ≠ 0 ∧ PutX x key p [] q := by
        by_cases hp : 0 ≤ p ∧ p < 16
        · exact ⟨14, by decide, Or.inr (Or.inr (Or.inl ⟨hv, hp, rfl, rfl, i, hi⟩))⟩
        · exact ⟨2, by decide, Or.inr (Or.inl ⟨hv, rfl, rfl, hp⟩)⟩
      obtain ⟨q, hq, hP⟩ := hP
      by_cases ho : other = key
      · exact back14_d hky hv hi hq hP ho w h1
      · exact back14_e hky hv hi hq hP ho w h1
    · have hno : ∀ i, ¬ Has x key i := fun i hi => hh ⟨i, hi⟩
      by_cases hp : 0 ≤ p ∧ p < 16
      · by_cases hc : cnt x = 12
        · exact back14_b hky hv hno (by decide) (Or.inr (Or.inr (Or.inr (Or.inl ⟨hv, hp, hno, rfl, rfl, hc⟩)))) w h1
        · obtain ⟨n, hn, _, hu⟩ := hv.look_none hno
          exact back14_c hkey hky hv hno hn hu hp (by have := hv.few; omega) w h1
      · exact back14_b hky hv hno (by decide) (Or.inr (Or.inl ⟨hv, rfl, rfl, hp⟩)) w h1
  · exact back14_a hky hv w h1


end Go.Proofs.Ytalfnmlbidohcaa
