/-
  The reference of layer 12, walked: Same.
-/
import Derived.Test.YtpccahdbienjeaaRIdB
namespace Go.Proofs.Ytpccahdbienjeaa
open Go.RowKit

theorem take_succ12 {α : Type} {fs gs : List α} {k : Nat} (h1 : k < fs.length) (h2 : k < gs.length) (h : fs.take k = gs.take k) (hq : fs[k] = gs[k]) : fs.take (k + 1) = gs.take (k + 1) := by
  rw [List.take_succ_eq_append_getElem h1, List.take_succ_eq_append_getElem h2, h, hq]
theorem take_all12 {α : Type} {fs gs : List α} {k : Nat} (h : fs.take k = gs.take k) (h1 : fs.length ≤ k) (h2 : gs.length ≤ k) : fs = gs := by rwa [List.take_of_length_le h1, List.take_of_length_le h2] at h
set_option maxRecDepth 100000 in
set_option maxHeartbeats 6400000 in
theorem rsame12_a {v u : Value} {ts us : List Tk} {cs ds : List Cmd} (hl : ts.length ≠ us.length) (w : World) (h1 : IsD w v ts cs) (h2 : IsD w u us ds) : Calls Try.prog 14 #[v, u] w fun e w' => e = .returned (.bool false) ∧ Below w.heap.size w w' := by
  obtain ⟨v1, v2, rfl, g1, g2⟩ := id h1; obtain ⟨v3, v4, rfl, g3, g4⟩ := id h2
  obtain ⟨a1, c1, rfl, hr1⟩ := id g1; obtain ⟨a2, c2, rfl, hr2⟩ := id g2; obtain ⟨a3, c3, rfl, hr3⟩ := id g3; obtain ⟨a4, c4, rfl, hr4⟩ := id g4
  have m1 := hr1.most; have r1 := hr1.room; have H1 := Lib.hid g1; clear hr1 g1
  have m2 := hr2.most; have r2 := hr2.room; have H2 := Lib.hid g2; clear hr2 g2
  have m3 := hr3.most; have r3 := hr3.room; have H3 := Lib.hid g3; clear hr3 g3
  have m4 := hr4.most; have r4 := hr4.room; have H4 := Lib.hid g4; clear hr4 g4
  clear h1 h2
  have d1 : ((ts.length : Int) != (us.length : Int)) = true := by rw [bne_iff_ne]; omega
  clear hl
  clear H1 H2 H3 H4
  go_enter Try.func14, Try.ntmps14
  go_upto_region 1 with fail
  refine F_gen (F := fun W => Code.wp _ _ _ _ W) (J := fun W => Box W (w.heap.size) ([.slice a1 ts.length c1, .slice a2 cs.length c2]) ∧ Box W (w.heap.size + 1) ([.slice a3 us.length c3, .slice a4 ds.length c4]) ∧ Below w.heap.size w W) (And.intro (Box.alloc (Box.newc rfl rfl) _) (And.intro (Box.newc rfl (by simp)) (by go_grown))) ?_
  intro w0 ⟨e_d, e_e, hB0⟩
  have hs0 := hB0.size
  have x_d0 := e_d; clear e_d
  have x_e0 := e_e; clear e_e
  have cq0 := (x_d0).c 0 _ rfl
  have zq0 := (x_d0).lt
  have cq1 := (x_d0).c 1 _ rfl
  have zq1 := (x_d0).lt
  have cq2 := (x_e0).c 0 _ rfl
  have zq2 := (x_e0).lt
  have cq3 := (x_e0).c 1 _ rfl
  have zq3 := (x_e0).lt
  go_wp2_with fail
  go_returns
  exact ⟨rfl, hB0⟩

set_option maxRecDepth 100000 in
set_option maxHeartbeats 6400000 in
theorem rsame12_b {v u : Value} {ts us : List Tk} {cs ds : List Cmd} (h0 : ts.length = us.length) (hl : cs.length ≠ ds.length) (w : World) (h1 : IsD w v ts cs) (h2 : IsD w u us ds) : Calls Try.prog 14 #[v, u] w fun e w' => e = .returned (.bool false) ∧ Below w.heap.size w w' := by
  obtain ⟨v1, v2, rfl, g1, g2⟩ := id h1; obtain ⟨v3, v4, rfl, g3, g4⟩ := id h2
  obtain ⟨a1, c1, rfl, hr1⟩ := id g1; obtain ⟨a2, c2, rfl, hr2⟩ := id g2; obtain ⟨a3, c3, rfl, hr3⟩ := id g3; obtain ⟨a4, c4, rfl, hr4⟩ := id g4
  have m1 := hr1.most; have r1 := hr1.room; have H1 := Lib.hid g1; clear hr1 g1
  have m2 := hr2.most; have r2 := hr2.room; have H2 := Lib.hid g2; clear hr2 g2
  have m3 := hr3.most; have r3 := hr3.room; have H3 := Lib.hid g3; clear hr3 g3
  have m4 := hr4.most; have r4 := hr4.room; have H4 := Lib.hid g4; clear hr4 g4
  clear h1 h2
  have d1 : ((ts.length : Int) != (us.length : Int)) = false := by rw [h0]; simp
  have d2 : ((cs.length : Int) != (ds.length : Int)) = true := by rw [bne_iff_ne]; omega
  clear hl h0
  clear H1 H2 H3 H4
  go_enter Try.func14, Try.ntmps14
  go_upto_region 1 with fail
  refine F_gen (F := fun W => Code.wp _ _ _ _ W) (J := fun W => Box W (w.heap.size) ([.slice a1 ts.length c1, .slice a2 cs.length c2]) ∧ Box W (w.heap.size + 1) ([.slice a3 us.length c3, .slice a4 ds.length c4]) ∧ Below w.heap.size w W) (And.intro (Box.alloc (Box.newc rfl rfl) _) (And.intro (Box.newc rfl (by simp)) (by go_grown))) ?_
  intro w0 ⟨e_d, e_e, hB0⟩
  have hs0 := hB0.size
  have x_d0 := e_d; clear e_d
  have x_e0 := e_e; clear e_e
  have cq0 := (x_d0).c 0 _ rfl
  have zq0 := (x_d0).lt
  have cq1 := (x_d0).c 1 _ rfl
  have zq1 := (x_d0).lt
  have cq2 := (x_e0).c 0 _ rfl
  have zq2 := (x_e0).lt
  have cq3 := (x_e0).c 1 _ rfl
  have zq3 := (x_e0).lt
  go_wp2_with fail
  go_returns
  exact ⟨rfl, hB0⟩

set_option maxRecDepth 100000 in
set_option maxHeartbeats 6400000 in
theorem rsame12_c {v u : Value} {ts us : List Tk} {cs ds : List Cmd} {b : Bool} (h0 : ts.length = us.length) (hl : cs.length = ds.length) (hb : b = true ↔ ts = us ∧ cs = ds) (w : World) (h1 : IsD w v ts cs) (h2 : IsD w u us ds) : Calls Try.prog 14 #[v, u] w fun e w' => e = .returned (.bool b) ∧ Below w.heap.size w w' := by
  obtain ⟨v1, v2, rfl, g1, g2⟩ := id h1; obtain ⟨v3, v4, rfl, g3, g4⟩ := id h2
  obtain ⟨a1, c1, rfl, hr1⟩ := id g1; obtain ⟨a2, c2, rfl, hr2⟩ := id g2; obtain ⟨a3, c3, rfl, hr3⟩ := id g3; obtain ⟨a4, c4, rfl, hr4⟩ := id g4
  have m1 := hr1.most; have r1 := hr1.room; have H1 := Lib.hid g1; clear hr1 g1
  have m2 := hr2.most; have r2 := hr2.room; have H2 := Lib.hid g2; clear hr2 g2
  have m3 := hr3.most; have r3 := hr3.room; have H3 := Lib.hid g3; clear hr3 g3
  have m4 := hr4.most; have r4 := hr4.room; have H4 := Lib.hid g4; clear hr4 g4
  clear h1 h2
  have d1 : ((ts.length : Int) != (us.length : Int)) = false := by rw [h0]; simp
  have d2 : ((cs.length : Int) != (ds.length : Int)) = false := by rw [hl]; simp
  have HL1 := Lib.hid h0; have HL2 := Lib.hid hl; have HB := Lib.hid hb; clear h0 hl hb
  go_enter Try.func14, Try.ntmps14
  go_upto_region 1 with fail
  refine F_gen (F := fun W => Code.wp _ _ _ _ W) (J := fun W => Box W (w.heap.size) ([.slice a1 ts.length c1, .slice a2 cs.length c2]) ∧ Box W (w.heap.size + 1) ([.slice a3 us.length c3, .slice a4 ds.length c4]) ∧ Below w.heap.size w W) (And.intro (Box.alloc (Box.newc rfl rfl) _) (And.intro (Box.newc rfl (by simp)) (by go_grown))) ?_
  intro w0 ⟨e_d, e_e, hB0⟩
  have hs0 := hB0.size
  have x_d0 := e_d; clear e_d
  have x_e0 := e_e; clear e_e
  have cq0 := (x_d0).c 0 _ rfl
  have zq0 := (x_d0).lt
  have cq1 := (x_d0).c 1 _ rfl
  have zq1 := (x_d0).lt
  have cq2 := (x_e0).c 0 _ rfl
  have zq2 := (x_e0).lt
  have cq3 := (x_e0).c 1 _ rfl
  have zq3 := (x_e0).lt
  go_wp2_with fail
  clear d1 d2 cq0 zq0 cq1 zq1 cq2 zq2 cq3 zq3
  go_loopw [5] (fun p5 wr => ∃ (k : Nat), k ≤ ts.length ∧ p5 = .int .i64 k ∧ Hid (ts.take k = us.take k) ∧ Box wr (w.heap.size) [.slice a1 ts.length c1, .slice a2 cs.length c2] ∧ Box wr (w.heap.size + 1) [.slice a3 us.length c3, .slice a4 ds.length c4] ∧ Below w.heap.size w wr) (fun p5 _ => ts.length - (intOf p5).toNat)
  case atStart => exact ⟨0, Nat.zero_le _, rfl, Lib.hid rfl, x_d0, x_e0, hB0⟩
  case round =>
    obtain ⟨k, hk, rfl, HE, x_d, x_e, hB⟩ := hrel
    have hs := hB.size; have cd := x_d.c 0 _ rfl; have zd := x_d.lt; have ce := x_e.c 0 _ rfl; have ze := x_e.lt
    by_cases hlt : k < ts.length
    case pos =>
      have hlt2 : k < us.length := by rw [← HL1.out]; exact hlt
      obtain ⟨b1, o1, rfl, hR1⟩ := H1.out.get 36 rfl (List.getElem?_eq_getElem hlt); obtain ⟨b3, o3, rfl, hR3⟩ := H3.out.get 36 rfl (List.getElem?_eq_getElem hlt2)
      have x1 := range_below hR1 hB; have x3 := range_below hR3 hB
      have HS := Lib.hid (take_succ12 hlt hlt2 HE.out)
      have HNO := Lib.hid (show ts[k] ≠ us[k] → ¬ (ts = us ∧ cs = ds) from fun q e => by
        have e2 := e.1
        subst e2
        exact q rfl)
      obtain ⟨f, hf⟩ : ∃ f, ts[k] = f := ⟨_, rfl⟩; obtain ⟨g, hg⟩ : ∃ f, us[k] = f := ⟨_, rfl⟩
      rw [hf] at x1; rw [hg] at x3; rw [hf, hg] at HS HNO
      clear hf hg hR1 hR3 HE
      obtain ⟨q, hq⟩ := bool_of (f = g)
      have EQ := fun W => eq_tk hq W; have SF := Lib.hid (size_tk f); have SG := Lib.hid (size_tk g)
      obtain ⟨VF, hVF⟩ : ∃ X, f.v = X := ⟨_, rfl⟩; obtain ⟨VG, hVG⟩ : ∃ X, g.v = X := ⟨_, rfl⟩
      rw [show LT.f f = VF from hVF] at x1; rw [show LT.f g = VG from hVG] at x3; rw [hVF] at SF EQ; rw [hVG] at SG EQ; clear hVF hVG
      have i0 : (0 : Int) ≤ (k : Int) := (by omega); have i1 : (k : Int) < (ts.length : Int) := (by omega); have i2 : (k : Int) < (us.length : Int) := (by omega)
      cases q with
      | true =>
        have HT := Lib.hid (HS.out (hq.1 rfl))
        clear hq HS HNO
        go_upto_region 6 with fail
        refine wp_region_held_drew (S := fun w' => w'.rangeAt b1 (o1 + k * 36) VF ∧ w'.rangeAt b3 (o3 + k * 36) VG ∧ Box w' w.heap.size [.slice (some ⟨b1, o1, none⟩) ts.length c1, .slice a2 cs.length c2] ∧ Box w' (w.heap.size + 1) [.slice (some ⟨b3, o3, none⟩) us.length c3, .slice a4 ds.length c4]) (by kernel_rfl) ⟨range_below x1 ((Below.refl _ _).drew), range_below x3 ((Below.refl _ _).drew), x_d.drew, x_e.drew⟩ (fun _ => ?_)
        refine F_drew (F := fun W => wpAnyH _ _ _ _ _ _ _ _ W) ?_
        intro W0 hb0
        have hx0 := And.intro (range_below x1 hb0) (And.intro (range_below x3 hb0) (And.intro (Box.below x_d hb0) (Box.below x_e hb0))); have hB0 := below_thru hB hb0
        clear x1 x3 x_d x_e hB hb0 hs cd zd ce ze
        refine takeH 0 30 (v := ?vst0_1) rfl (by rfl) (by kernel_rfl) (by kernel_rfl) (by kernel_rfl) (fun _ _ _ h => h) (Or.inl ⟨by rfl, ?_⟩) (hx0) ?_
        rotate_left
        · intro wq hSq
          go_simp
          exact rfl
        try simp only [Act.put, List.setIfInBounds_toArray, List.set_cons_zero, List.set_cons_succ]
        refine takeH 1 31 (v := ?vst1_2) rfl (by rfl) (by kernel_rfl) (by kernel_rfl) (by kernel_rfl) (fun _ _ _ h => h) (Or.inl ⟨by rfl, ?_⟩) (hx0) ?_
        rotate_left
        · intro wq hSq
          have cq := hSq.2.2.1.c 0 _ rfl
          have zq := lt_of_cell cq
          go_simp
          exact rfl
        try simp only [Act.put, List.setIfInBounds_toArray, List.set_cons_zero, List.set_cons_succ]
        refine takeH 2 32 (v := ?vst2_3) rfl (by rfl) (by kernel_rfl) (by kernel_rfl) (by kernel_rfl) (fun _ _ _ h => h) (Or.inl ⟨by rfl, ?_⟩) (hx0) ?_
        rotate_left
        · intro wq hSq
          go_simp
          exact rfl
        try simp only [Act.put, List.setIfInBounds_toArray, List.set_cons_zero, List.set_cons_succ]
        refine takeH 3 33 (v := ?vst3_4) rfl (by rfl) (by kernel_rfl) (by kernel_rfl) (by kernel_rfl) (fun _ _ _ h => h) (Or.inl ⟨by rfl, ?_⟩) (hx0) ?_
        rotate_left
        · intro wq hSq
          go_simp
          exact rfl
        try simp only [Act.put, List.setIfInBounds_toArray, List.set_cons_zero, List.set_cons_succ]
        refine takeH 5 35 (v := ?vst5_5) rfl (by rfl) (by kernel_rfl) (by kernel_rfl) (by kernel_rfl) (fun _ _ _ h => h) (Or.inl ⟨by rfl, ?_⟩) (hx0) ?_
        rotate_left
        · intro wq hSq
          go_simp
          exact rfl
        try simp only [Act.put, List.setIfInBounds_toArray, List.set_cons_zero, List.set_cons_succ]
        refine takeH 6 36 (v := ?vst6_6) rfl (by rfl) (by kernel_rfl) (by kernel_rfl) (by kernel_rfl) (fun _ _ _ h => h) (Or.inl ⟨by rfl, ?_⟩) (hx0) ?_
        rotate_left
        · intro wq hSq
          have cq := hSq.2.2.2.c 0 _ rfl
          have zq := lt_of_cell cq
          go_simp
          exact rfl
        try simp only [Act.put, List.setIfInBounds_toArray, List.set_cons_zero, List.set_cons_succ]
        refine takeH 7 37 (v := ?vst7_7) rfl (by rfl) (by kernel_rfl) (by kernel_rfl) (by kernel_rfl) (fun _ _ _ h => h) (Or.inl ⟨by rfl, ?_⟩) (hx0) ?_
        rotate_left
        · intro wq hSq
          go_simp
          exact rfl
        try simp only [Act.put, List.setIfInBounds_toArray, List.set_cons_zero, List.set_cons_succ]
        refine takeH 8 38 (v := ?vst8_8) rfl (by rfl) (by kernel_rfl) (by kernel_rfl) (by kernel_rfl) (fun _ _ _ h => h) (Or.inl ⟨by rfl, ?_⟩) (hx0) ?_
        rotate_left
        · intro wq hSq
          go_simp
          exact rfl
        try simp only [Act.put, List.setIfInBounds_toArray, List.set_cons_zero, List.set_cons_succ]
        refine takeH 4 34 (v := .agg VF.toArray) rfl (by rfl) (by kernel_rfl) (by kernel_rfl) (by kernel_rfl) (fun _ _ _ h => h) (yieldsIf_load_mid (by rfl) _ _ rfl _ _ rfl VF _ (fun wq hq => hq.1) Try.underlying34 rfl SF.out) (hx0) ?_
        try simp only [Act.put, List.setIfInBounds_toArray, List.set_cons_zero, List.set_cons_succ]
        refine takeH 9 39 (v := .agg VG.toArray) rfl (by rfl) (by kernel_rfl) (by kernel_rfl) (by kernel_rfl) (fun _ _ _ h => h) (yieldsIf_load_mid (by rfl) _ _ rfl _ _ rfl VG _ (fun wq hq => hq.2.1) Try.underlying34 rfl SG.out) (hx0) ?_
        try simp only [Act.put, List.setIfInBounds_toArray, List.set_cons_zero, List.set_cons_succ]
        refine takeH 10 40 (v := ?vst10_9) rfl (by rfl) (by kernel_rfl) (by kernel_rfl) (by kernel_rfl) (fun _ _ _ h => h) (Or.inl ⟨by rfl, ?_⟩) (hx0) ?_
        rotate_left
        · intro wq hSq
          go_simp
          exact rfl
        try simp only [Act.put, List.setIfInBounds_toArray, List.set_cons_zero, List.set_cons_succ]
        refine wpAnyH_done (by kernel_rfl) ?_ _
        go_wp2_with fail
        go_roundw
        case rel => exact ⟨k + 1, by omega, by go_num, HT, hx0.2.2.1, hx0.2.2.2, hB0⟩
        case measure => simp [intOf]; omega
      | false =>
        have HX := Lib.hid (show false = b from bool_eq12 (p := ts = us ∧ cs = ds) ⟨fun h => (Bool.false_ne_true h).elim, fun h => absurd h (HNO.out (fun e => Bool.false_ne_true (hq.2 e)))⟩ HB.out)
        clear hq HS HNO
        go_upto_region 6 with fail
        refine wp_region_held_drew (S := fun w' => w'.rangeAt b1 (o1 + k * 36) VF ∧ w'.rangeAt b3 (o3 + k * 36) VG ∧ Box w' w.heap.size [.slice (some ⟨b1, o1, none⟩) ts.length c1, .slice a2 cs.length c2] ∧ Box w' (w.heap.size + 1) [.slice (some ⟨b3, o3, none⟩) us.length c3, .slice a4 ds.length c4]) (by kernel_rfl) ⟨range_below x1 ((Below.refl _ _).drew), range_below x3 ((Below.refl _ _).drew), x_d.drew, x_e.drew⟩ (fun _ => ?_)
        refine F_drew (F := fun W => wpAnyH _ _ _ _ _ _ _ _ W) ?_
        intro W0 hb0
        have hx0 := And.intro (range_below x1 hb0) (And.intro (range_below x3 hb0) (And.intro (Box.below x_d hb0) (Box.below x_e hb0))); have hB0 := below_thru hB hb0
        clear x1 x3 x_d x_e hB hb0 hs cd zd ce ze
        refine takeH 0 30 (v := ?vsf0_1) rfl (by rfl) (by kernel_rfl) (by kernel_rfl) (by kernel_rfl) (fun _ _ _ h => h) (Or.inl ⟨by rfl, ?_⟩) (hx0) ?_
        rotate_left
        · intro wq hSq
          go_simp
          exact rfl
        try simp only [Act.put, List.setIfInBounds_toArray, List.set_cons_zero, List.set_cons_succ]
        refine takeH 1 31 (v := ?vsf1_2) rfl (by rfl) (by kernel_rfl) (by kernel_rfl) (by kernel_rfl) (fun _ _ _ h => h) (Or.inl ⟨by rfl, ?_⟩) (hx0) ?_
        rotate_left
        · intro wq hSq
          have cq := hSq.2.2.1.c 0 _ rfl
          have zq := lt_of_cell cq
          go_simp
          exact rfl
        try simp only [Act.put, List.setIfInBounds_toArray, List.set_cons_zero, List.set_cons_succ]
        refine takeH 2 32 (v := ?vsf2_3) rfl (by rfl) (by kernel_rfl) (by kernel_rfl) (by kernel_rfl) (fun _ _ _ h => h) (Or.inl ⟨by rfl, ?_⟩) (hx0) ?_
        rotate_left
        · intro wq hSq
          go_simp
          exact rfl
        try simp only [Act.put, List.setIfInBounds_toArray, List.set_cons_zero, List.set_cons_succ]
        refine takeH 3 33 (v := ?vsf3_4) rfl (by rfl) (by kernel_rfl) (by kernel_rfl) (by kernel_rfl) (fun _ _ _ h => h) (Or.inl ⟨by rfl, ?_⟩) (hx0) ?_
        rotate_left
        · intro wq hSq
          go_simp
          exact rfl
        try simp only [Act.put, List.setIfInBounds_toArray, List.set_cons_zero, List.set_cons_succ]
        refine takeH 5 35 (v := ?vsf5_5) rfl (by rfl) (by kernel_rfl) (by kernel_rfl) (by kernel_rfl) (fun _ _ _ h => h) (Or.inl ⟨by rfl, ?_⟩) (hx0) ?_
        rotate_left
        · intro wq hSq
          go_simp
          exact rfl
        try simp only [Act.put, List.setIfInBounds_toArray, List.set_cons_zero, List.set_cons_succ]
        refine takeH 6 36 (v := ?vsf6_6) rfl (by rfl) (by kernel_rfl) (by kernel_rfl) (by kernel_rfl) (fun _ _ _ h => h) (Or.inl ⟨by rfl, ?_⟩) (hx0) ?_
        rotate_left
        · intro wq hSq
          have cq := hSq.2.2.2.c 0 _ rfl
          have zq := lt_of_cell cq
          go_simp
          exact rfl
        try simp only [Act.put, List.setIfInBounds_toArray, List.set_cons_zero, List.set_cons_succ]
        refine takeH 7 37 (v := ?vsf7_7) rfl (by rfl) (by kernel_rfl) (by kernel_rfl) (by kernel_rfl) (fun _ _ _ h => h) (Or.inl ⟨by rfl, ?_⟩) (hx0) ?_
        rotate_left
        · intro wq hSq
          go_simp
          exact rfl
        try simp only [Act.put, List.setIfInBounds_toArray, List.set_cons_zero, List.set_cons_succ]
        refine takeH 8 38 (v := ?vsf8_8) rfl (by rfl) (by kernel_rfl) (by kernel_rfl) (by kernel_rfl) (fun _ _ _ h => h) (Or.inl ⟨by rfl, ?_⟩) (hx0) ?_
        rotate_left
        · intro wq hSq
          go_simp
          exact rfl
        try simp only [Act.put, List.setIfInBounds_toArray, List.set_cons_zero, List.set_cons_succ]
        refine takeH 4 34 (v := .agg VF.toArray) rfl (by rfl) (by kernel_rfl) (by kernel_rfl) (by kernel_rfl) (fun _ _ _ h => h) (yieldsIf_load_mid (by rfl) _ _ rfl _ _ rfl VF _ (fun wq hq => hq.1) Try.underlying34 rfl SF.out) (hx0) ?_
        try simp only [Act.put, List.setIfInBounds_toArray, List.set_cons_zero, List.set_cons_succ]
        refine takeH 9 39 (v := .agg VG.toArray) rfl (by rfl) (by kernel_rfl) (by kernel_rfl) (by kernel_rfl) (fun _ _ _ h => h) (yieldsIf_load_mid (by rfl) _ _ rfl _ _ rfl VG _ (fun wq hq => hq.2.1) Try.underlying34 rfl SG.out) (hx0) ?_
        try simp only [Act.put, List.setIfInBounds_toArray, List.set_cons_zero, List.set_cons_succ]
        refine takeH 10 40 (v := ?vsf10_9) rfl (by rfl) (by kernel_rfl) (by kernel_rfl) (by kernel_rfl) (fun _ _ _ h => h) (Or.inl ⟨by rfl, ?_⟩) (hx0) ?_
        rotate_left
        · intro wq hSq
          go_simp
          exact rfl
        try simp only [Act.put, List.setIfInBounds_toArray, List.set_cons_zero, List.set_cons_succ]
        refine wpAnyH_done (by kernel_rfl) ?_ _
        go_wp2_with fail
        go_returns
        exact ⟨ret_b12 HX.out, hB0⟩
    case neg =>
      have HT := Lib.hid (take_all12 HE.out (by omega) (by have := HL1.out; omega))
      have hn : decide ((k : Int) < (ts.length : Int)) = false := decide_eq_false (by omega)
      clear HE
      go_wp2_with fail
      clear hn hlt hk cd zd ce ze
      go_loopw [6] (fun p5 wr => ∃ (k : Nat), k ≤ cs.length ∧ p5 = .int .i64 k ∧ Hid (cs.take k = ds.take k) ∧ Box wr (w.heap.size) [.slice a1 ts.length c1, .slice a2 cs.length c2] ∧ Box wr (w.heap.size + 1) [.slice a3 us.length c3, .slice a4 ds.length c4] ∧ Below w.heap.size w wr) (fun p5 _ => cs.length - (intOf p5).toNat)
      case atStart => exact ⟨0, Nat.zero_le _, rfl, Lib.hid rfl, x_d, x_e, hB⟩
      case round =>
        obtain ⟨k, hk, rfl, HE, x_d, x_e, hB⟩ := hrel
        have hs := hB.size; have cd := x_d.c 1 _ rfl; have zd := x_d.lt; have ce := x_e.c 1 _ rfl; have ze := x_e.lt
        by_cases hlt : k < cs.length
        case pos =>
          have hlt2 : k < ds.length := by rw [← HL2.out]; exact hlt
          obtain ⟨b1, o1, rfl, hR1⟩ := H2.out.get 47 rfl (List.getElem?_eq_getElem hlt); obtain ⟨b3, o3, rfl, hR3⟩ := H4.out.get 47 rfl (List.getElem?_eq_getElem hlt2)
          have x1 := range_below hR1 hB; have x3 := range_below hR3 hB
          have HS := Lib.hid (take_succ12 hlt hlt2 HE.out)
          have HNO := Lib.hid (show cs[k] ≠ ds[k] → ¬ (ts = us ∧ cs = ds) from fun q e => by
            have e2 := e.2
            subst e2
            exact q rfl)
          obtain ⟨f, hf⟩ : ∃ f, cs[k] = f := ⟨_, rfl⟩; obtain ⟨g, hg⟩ : ∃ f, ds[k] = f := ⟨_, rfl⟩
          rw [hf] at x1; rw [hg] at x3; rw [hf, hg] at HS HNO
          clear hf hg hR1 hR3 HE
          obtain ⟨q, hq⟩ := bool_of (f = g)
          have EQ := fun W => eq_cm hq W; have SF := Lib.hid (size_cmd f); have SG := Lib.hid (size_cmd g)
          obtain ⟨VF, hVF⟩ : ∃ X, ccell f = X := ⟨_, rfl⟩; obtain ⟨VG, hVG⟩ : ∃ X, ccell g = X := ⟨_, rfl⟩
          rw [show LC.f f = VF from hVF] at x1; rw [show LC.f g = VG from hVG] at x3; rw [hVF] at SF EQ; rw [hVG] at SG EQ; clear hVF hVG
          have i0 : (0 : Int) ≤ (k : Int) := (by omega); have i1 : (k : Int) < (cs.length : Int) := (by omega); have i2 : (k : Int) < (ds.length : Int) := (by omega)
          cases q with
          | true =>
            have HT := Lib.hid (HS.out (hq.1 rfl))
            clear hq HS HNO
            go_upto_region 11 with fail
            refine wp_region_held_drew (S := fun w' => w'.rangeAt b1 (o1 + k * 47) VF ∧ w'.rangeAt b3 (o3 + k * 47) VG ∧ Box w' w.heap.size [.slice a1 ts.length c1, .slice (some ⟨b1, o1, none⟩) cs.length c2] ∧ Box w' (w.heap.size + 1) [.slice a3 us.length c3, .slice (some ⟨b3, o3, none⟩) ds.length c4]) (by kernel_rfl) ⟨range_below x1 ((Below.refl _ _).drew), range_below x3 ((Below.refl _ _).drew), x_d.drew, x_e.drew⟩ (fun _ => ?_)
            refine F_drew (F := fun W => wpAnyH _ _ _ _ _ _ _ _ W) ?_
            intro W0 hb0
            have hx0 := And.intro (range_below x1 hb0) (And.intro (range_below x3 hb0) (And.intro (Box.below x_d hb0) (Box.below x_e hb0))); have hB0 := below_thru hB hb0
            clear x1 x3 x_d x_e hB hb0 hs cd zd ce ze
            refine takeH 0 48 (v := ?vut0_1) rfl (by rfl) (by kernel_rfl) (by kernel_rfl) (by kernel_rfl) (fun _ _ _ h => h) (Or.inl ⟨by rfl, ?_⟩) (hx0) ?_
            rotate_left
            · intro wq hSq
              go_simp
              exact rfl
            try simp only [Act.put, List.setIfInBounds_toArray, List.set_cons_zero, List.set_cons_succ]
            refine takeH 1 49 (v := ?vut1_2) rfl (by rfl) (by kernel_rfl) (by kernel_rfl) (by kernel_rfl) (fun _ _ _ h => h) (Or.inl ⟨by rfl, ?_⟩) (hx0) ?_
            rotate_left
            · intro wq hSq
              have cq := hSq.2.2.1.c 1 _ rfl
              have zq := lt_of_cell cq
              go_simp
              exact rfl
            try simp only [Act.put, List.setIfInBounds_toArray, List.set_cons_zero, List.set_cons_succ]
            refine takeH 2 50 (v := ?vut2_3) rfl (by rfl) (by kernel_rfl) (by kernel_rfl) (by kernel_rfl) (fun _ _ _ h => h) (Or.inl ⟨by rfl, ?_⟩) (hx0) ?_
            rotate_left
            · intro wq hSq
              go_simp
              exact rfl
            try simp only [Act.put, List.setIfInBounds_toArray, List.set_cons_zero, List.set_cons_succ]
            refine takeH 3 51 (v := ?vut3_4) rfl (by rfl) (by kernel_rfl) (by kernel_rfl) (by kernel_rfl) (fun _ _ _ h => h) (Or.inl ⟨by rfl, ?_⟩) (hx0) ?_
            rotate_left
            · intro wq hSq
              go_simp
              exact rfl
            try simp only [Act.put, List.setIfInBounds_toArray, List.set_cons_zero, List.set_cons_succ]
            refine takeH 5 53 (v := ?vut5_5) rfl (by rfl) (by kernel_rfl) (by kernel_rfl) (by kernel_rfl) (fun _ _ _ h => h) (Or.inl ⟨by rfl, ?_⟩) (hx0) ?_
            rotate_left
            · intro wq hSq
              go_simp
              exact rfl
            try simp only [Act.put, List.setIfInBounds_toArray, List.set_cons_zero, List.set_cons_succ]
            refine takeH 6 54 (v := ?vut6_6) rfl (by rfl) (by kernel_rfl) (by kernel_rfl) (by kernel_rfl) (fun _ _ _ h => h) (Or.inl ⟨by rfl, ?_⟩) (hx0) ?_
            rotate_left
            · intro wq hSq
              have cq := hSq.2.2.2.c 1 _ rfl
              have zq := lt_of_cell cq
              go_simp
              exact rfl
            try simp only [Act.put, List.setIfInBounds_toArray, List.set_cons_zero, List.set_cons_succ]
            refine takeH 7 55 (v := ?vut7_7) rfl (by rfl) (by kernel_rfl) (by kernel_rfl) (by kernel_rfl) (fun _ _ _ h => h) (Or.inl ⟨by rfl, ?_⟩) (hx0) ?_
            rotate_left
            · intro wq hSq
              go_simp
              exact rfl
            try simp only [Act.put, List.setIfInBounds_toArray, List.set_cons_zero, List.set_cons_succ]
            refine takeH 8 56 (v := ?vut8_8) rfl (by rfl) (by kernel_rfl) (by kernel_rfl) (by kernel_rfl) (fun _ _ _ h => h) (Or.inl ⟨by rfl, ?_⟩) (hx0) ?_
            rotate_left
            · intro wq hSq
              go_simp
              exact rfl
            try simp only [Act.put, List.setIfInBounds_toArray, List.set_cons_zero, List.set_cons_succ]
            refine takeH 4 52 (v := .agg VF.toArray) rfl (by rfl) (by kernel_rfl) (by kernel_rfl) (by kernel_rfl) (fun _ _ _ h => h) (yieldsIf_load_mid (by rfl) _ _ rfl _ _ rfl VF _ (fun wq hq => hq.1) Try.underlying39 rfl SF.out) (hx0) ?_
            try simp only [Act.put, List.setIfInBounds_toArray, List.set_cons_zero, List.set_cons_succ]
            refine takeH 9 57 (v := .agg VG.toArray) rfl (by rfl) (by kernel_rfl) (by kernel_rfl) (by kernel_rfl) (fun _ _ _ h => h) (yieldsIf_load_mid (by rfl) _ _ rfl _ _ rfl VG _ (fun wq hq => hq.2.1) Try.underlying39 rfl SG.out) (hx0) ?_
            try simp only [Act.put, List.setIfInBounds_toArray, List.set_cons_zero, List.set_cons_succ]
            refine takeH 10 58 (v := ?vut10_9) rfl (by rfl) (by kernel_rfl) (by kernel_rfl) (by kernel_rfl) (fun _ _ _ h => h) (Or.inl ⟨by rfl, ?_⟩) (hx0) ?_
            rotate_left
            · intro wq hSq
              go_simp
              exact rfl
            try simp only [Act.put, List.setIfInBounds_toArray, List.set_cons_zero, List.set_cons_succ]
            refine wpAnyH_done (by kernel_rfl) ?_ _
            go_wp2_with fail
            go_roundw
            case rel => exact ⟨k + 1, by omega, by go_num, HT, hx0.2.2.1, hx0.2.2.2, hB0⟩
            case measure => simp [intOf]; omega
          | false =>
            have HX := Lib.hid (show false = b from bool_eq12 (p := ts = us ∧ cs = ds) ⟨fun h => (Bool.false_ne_true h).elim, fun h => absurd h (HNO.out (fun e => Bool.false_ne_true (hq.2 e)))⟩ HB.out)
            clear hq HS HNO
            go_upto_region 11 with fail
            refine wp_region_held_drew (S := fun w' => w'.rangeAt b1 (o1 + k * 47) VF ∧ w'.rangeAt b3 (o3 + k * 47) VG ∧ Box w' w.heap.size [.slice a1 ts.length c1, .slice (some ⟨b1, o1, none⟩) cs.length c2] ∧ Box w' (w.heap.size + 1) [.slice a3 us.length c3, .slice (some ⟨b3, o3, none⟩) ds.length c4]) (by kernel_rfl) ⟨range_below x1 ((Below.refl _ _).drew), range_below x3 ((Below.refl _ _).drew), x_d.drew, x_e.drew⟩ (fun _ => ?_)
            refine F_drew (F := fun W => wpAnyH _ _ _ _ _ _ _ _ W) ?_
            intro W0 hb0
            have hx0 := And.intro (range_below x1 hb0) (And.intro (range_below x3 hb0) (And.intro (Box.below x_d hb0) (Box.below x_e hb0))); have hB0 := below_thru hB hb0
            clear x1 x3 x_d x_e hB hb0 hs cd zd ce ze
            refine takeH 0 48 (v := ?vuf0_1) rfl (by rfl) (by kernel_rfl) (by kernel_rfl) (by kernel_rfl) (fun _ _ _ h => h) (Or.inl ⟨by rfl, ?_⟩) (hx0) ?_
            rotate_left
            · intro wq hSq
              go_simp
              exact rfl
            try simp only [Act.put, List.setIfInBounds_toArray, List.set_cons_zero, List.set_cons_succ]
            refine takeH 1 49 (v := ?vuf1_2) rfl (by rfl) (by kernel_rfl) (by kernel_rfl) (by kernel_rfl) (fun _ _ _ h => h) (Or.inl ⟨by rfl, ?_⟩) (hx0) ?_
            rotate_left
            · intro wq hSq
              have cq := hSq.2.2.1.c 1 _ rfl
              have zq := lt_of_cell cq
              go_simp
              exact rfl
            try simp only [Act.put, List.setIfInBounds_toArray, List.set_cons_zero, List.set_cons_succ]
            refine takeH 2 50 (v := ?vuf2_3) rfl (by rfl) (by kernel_rfl) (by kernel_rfl) (by kernel_rfl) (fun _ _ _ h => h) (Or.inl ⟨by rfl, ?_⟩) (hx0) ?_
            rotate_left
            · intro wq hSq
              go_simp
              exact rfl
            try simp only [Act.put, List.setIfInBounds_toArray, List.set_cons_zero, List.set_cons_succ]
            refine takeH 3 51 (v := ?vuf3_4) rfl (by rfl) (by kernel_rfl) (by kernel_rfl) (by kernel_rfl) (fun _ _ _ h => h) (Or.inl ⟨by rfl, ?_⟩) (hx0) ?_
            rotate_left
            · intro wq hSq
              go_simp
              exact rfl
            try simp only [Act.put, List.setIfInBounds_toArray, List.set_cons_zero, List.set_cons_succ]
            refine takeH 5 53 (v := ?vuf5_5) rfl (by rfl) (by kernel_rfl) (by kernel_rfl) (by kernel_rfl) (fun _ _ _ h => h) (Or.inl ⟨by rfl, ?_⟩) (hx0) ?_
            rotate_left
            · intro wq hSq
              go_simp
              exact rfl
            try simp only [Act.put, List.setIfInBounds_toArray, List.set_cons_zero, List.set_cons_succ]
            refine takeH 6 54 (v := ?vuf6_6) rfl (by rfl) (by kernel_rfl) (by kernel_rfl) (by kernel_rfl) (fun _ _ _ h => h) (Or.inl ⟨by rfl, ?_⟩) (hx0) ?_
            rotate_left
            · intro wq hSq
              have cq := hSq.2.2.2.c 1 _ rfl
              have zq := lt_of_cell cq
              go_simp
              exact rfl
            try simp only [Act.put, List.setIfInBounds_toArray, List.set_cons_zero, List.set_cons_succ]
            refine takeH 7 55 (v := ?vuf7_7) rfl (by rfl) (by kernel_rfl) (by kernel_rfl) (by kernel_rfl) (fun _ _ _ h => h) (Or.inl ⟨by rfl, ?_⟩) (hx0) ?_
            rotate_left
            · intro wq hSq
              go_simp
              exact rfl
            try simp only [Act.put, List.setIfInBounds_toArray, List.set_cons_zero, List.set_cons_succ]
            refine takeH 8 56 (v := ?vuf8_8) rfl (by rfl) (by kernel_rfl) (by kernel_rfl) (by kernel_rfl) (fun _ _ _ h => h) (Or.inl ⟨by rfl, ?_⟩) (hx0) ?_
            rotate_left
            · intro wq hSq
              go_simp
              exact rfl
            try simp only [Act.put, List.setIfInBounds_toArray, List.set_cons_zero, List.set_cons_succ]
            refine takeH 4 52 (v := .agg VF.toArray) rfl (by rfl) (by kernel_rfl) (by kernel_rfl) (by kernel_rfl) (fun _ _ _ h => h) (yieldsIf_load_mid (by rfl) _ _ rfl _ _ rfl VF _ (fun wq hq => hq.1) Try.underlying39 rfl SF.out) (hx0) ?_
            try simp only [Act.put, List.setIfInBounds_toArray, List.set_cons_zero, List.set_cons_succ]
            refine takeH 9 57 (v := .agg VG.toArray) rfl (by rfl) (by kernel_rfl) (by kernel_rfl) (by kernel_rfl) (fun _ _ _ h => h) (yieldsIf_load_mid (by rfl) _ _ rfl _ _ rfl VG _ (fun wq hq => hq.2.1) Try.underlying39 rfl SG.out) (hx0) ?_
            try simp only [Act.put, List.setIfInBounds_toArray, List.set_cons_zero, List.set_cons_succ]
            refine takeH 10 58 (v := ?vuf10_9) rfl (by rfl) (by kernel_rfl) (by kernel_rfl) (by kernel_rfl) (fun _ _ _ h => h) (Or.inl ⟨by rfl, ?_⟩) (hx0) ?_
            rotate_left
            · intro wq hSq
              go_simp
              exact rfl
            try simp only [Act.put, List.setIfInBounds_toArray, List.set_cons_zero, List.set_cons_succ]
            refine wpAnyH_done (by kernel_rfl) ?_ _
            go_wp2_with fail
            go_returns
            exact ⟨ret_b12 HX.out, hB0⟩
        case neg =>
          have HT2 := Lib.hid (take_all12 HE.out (by omega) (by have := HL2.out; omega))
          have hn : decide ((k : Int) < (cs.length : Int)) = false := decide_eq_false (by omega)
          have HX := Lib.hid (show true = b from (HB.out.2 ⟨HT.out, HT2.out⟩).symm)
          clear HE
          go_wp2_with fail
          go_returns
          exact ⟨ret_b12 HX.out, hB⟩

theorem rsame12_is {v u : Value} {ts us : List Tk} {cs ds : List Cmd} {b : Bool} (w : World) (h1 : IsD w v ts cs) (h2 : IsD w u us ds) (hb : b = true ↔ ts = us ∧ cs = ds) : Calls Try.prog 14 #[v, u] w fun e w' => e = .returned (.bool b) ∧ Below w.heap.size w w' := by
  by_cases g1 : ts.length = us.length
  · by_cases g2 : cs.length = ds.length
    · exact rsame12_c g1 g2 hb w h1 h2
    · rw [bool_eq12 hb (c := false) ⟨fun h => (Bool.false_ne_true h).elim, fun h => absurd (by rw [h.2]) g2⟩]
      exact rsame12_b g1 g2 w h1 h2
  · rw [bool_eq12 hb (c := false) ⟨fun h => (Bool.false_ne_true h).elim, fun h => absurd (by rw [h.1]) g1⟩]
    exact rsame12_a g1 w h1 h2


end Go.Proofs.Ytpccahdbienjeaa
