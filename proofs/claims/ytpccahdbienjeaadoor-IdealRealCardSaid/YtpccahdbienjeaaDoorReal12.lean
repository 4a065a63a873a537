/-
  IdealReal, walked.
-/
import Derived.Test.YtpccahdbienjeaaDoorReM12
import Derived.Test.YtpccahdbienjeaaDoorKyB
import Derived.Test.YtpccahdbienjeaaDoorIdAlive
import Derived.Test.YtpccahdbienjeaaDoorRIdM
namespace Go.Proofs.YtpccahdbienjeaaDoor
open Go.RowKit

set_option maxRecDepth 100000 in
set_option maxHeartbeats 6400000 in
theorem real12_a {v : Value} {ts : List Tk} {cs : List Cmd} (f : Frm) {S : List Int} (hS : S.length = 32) (hl : ts.length + cs.length ≤ 1000000000000000) (hg : ¬ FitD ts cs f) (w : World) (h1 : IsD w v ts cs) : Calls Tryd.prog 3 #[v, .agg (mcell f).toArray, .agg (S.map (Value.int .u8)).toArray] w fun e w' => e = .returned (.bool true) ∧ Below w.heap.size w w' := by
  have FT := fun (W : World) (u : Value) (h : IsD W u ts cs) => lfit12_is f hl (b := false) ⟨fun h => (Bool.false_ne_true h).elim, fun h => absurd h hg⟩ W h; have AL := fun W => alive12_is W; have HD := Lib.hid h1
  obtain ⟨v1, v2, rfl, g1, g2⟩ := id h1
  obtain ⟨a1, c1, rfl, hr1⟩ := id g1; obtain ⟨a2, c2, rfl, hr2⟩ := id g2
  have m1 := hr1.most; have r1 := hr1.room; have m2 := hr2.most; have r2 := hr2.room; have H1 := Lib.hid g1; have H2 := Lib.hid g2
  clear hr1 hr2 g1 g2 h1
  have SV := Lib.hid (size_frm f); have SS := Lib.hid (size_dig hS)
  obtain ⟨V, hV⟩ : ∃ X, mcell f = X := ⟨_, rfl⟩; rw [hV] at SV FT ⊢; clear hV
  obtain ⟨SD, hSD⟩ : ∃ X, S.map (Value.int .u8) = X := ⟨_, rfl⟩; rw [hSD] at SS ⊢; clear hSD hS hg hl
  go_enter Tryd.func3, Tryd.ntmps3
  go_upto_region 1 with fail
  refine F_gen (F := fun W => Code.wp _ _ _ _ W) (J := fun W => Box W (w.heap.size) ([.slice a1 ts.length c1, .slice a2 cs.length c2]) ∧ Box W (w.heap.size + 1) (V) ∧ Box W (w.heap.size + 2) (SD) ∧ Below w.heap.size w W) (And.intro (Box.alloc (Box.alloc (Box.newc rfl rfl) _) _) (And.intro (Box.alloc (Box.newc rfl (by simp)) _) (And.intro (Box.newc rfl (by simp)) (by go_grown)))) ?_
  intro w0 ⟨e_d, e_f, e_s, hB0⟩
  have hs0 := hB0.size
  have x_d0 := e_d; clear e_d
  have x_f0 := e_f; clear e_f
  have x_s0 := e_s; clear e_s
  go_wp2_with (first
    | (refine wpList_load_box9 rfl _ _ rfl x_d0 rfl Tryd.underlying25 rfl (size_id12 _ _) ?_)
    | (refine wpList_load_box9 rfl _ _ rfl x_f0 rfl Tryd.underlying41 rfl SV.out ?_))
  refine (FT _ _ (HD.out.below hB0)).mono ?_
  rintro e w1 ⟨rfl, hb⟩
  have hB1 : Below w.heap.size w w1 := below_thru hB0 hb
  have hs1 := hB1.size
  have x_d1 : Box w1 (w.heap.size) ([.slice a1 ts.length c1, .slice a2 cs.length c2]) := Box.below x_d0 hb
  have x_f1 : Box w1 (w.heap.size + 1) (V) := Box.below x_f0 hb
  have x_s1 : Box w1 (w.heap.size + 2) (SD) := Box.below x_s0 hb
  clear hB0 hs0 x_d0 x_f0 x_s0
  clear hb
  go_wp2_with fail
  refine (AL _).mono ?_
  rintro e w2 ⟨rfl, hb⟩
  have hB2 : Below w.heap.size w w2 := below_thru hB1 hb
  have hs2 := hB2.size
  have x_d2 : Box w2 (w.heap.size) ([.slice a1 ts.length c1, .slice a2 cs.length c2]) := Box.below x_d1 hb
  have x_f2 : Box w2 (w.heap.size + 1) (V) := Box.below x_f1 hb
  have x_s2 : Box w2 (w.heap.size + 2) (SD) := Box.below x_s1 hb
  clear hB1 hs1 x_d1 x_f1 x_s1
  clear hb
  go_wp2_with fail
  go_returns
  exact ⟨rfl, hB2⟩

set_option maxRecDepth 100000 in
set_option maxHeartbeats 6400000 in
theorem real12_b {v : Value} {ts : List Tk} {cs : List Cmd} (f : Frm) {S : List Int} (hS : S.length = 32) (hSb : Byts S) (hl : ts.length + cs.length ≤ 1000000000000000) (hg : FitD ts cs f) (w : World) (h1 : IsD w v ts cs) (hL : Hid (LaidS w)) : Calls Tryd.prog 3 #[v, .agg (mcell f).toArray, .agg (S.map (Value.int .u8)).toArray] w fun e w' => e = .returned (.bool true) ∧ Below w.heap.size w w' := by
  have h180 := not_grt hg.1; have hok := hg.2.2; have hch := hg.2.1
  obtain ⟨bf, hbf⟩ := bool_ex (Tru S f); obtain ⟨x, q, hx⟩ := AcpD.ex ts cs f; obtain ⟨m, hm⟩ := bool_of (MesD ts cs f)
  have FT := fun (W : World) (u : Value) (h : IsD W u ts cs) => lfit12_is f hl (b := true) ⟨fun _ => hg, fun _ => rfl⟩ W h; have AL := fun W => alive12_is W; have AC := fun (W : World) (u : Value) (h : IsD W u ts cs) => pacp_is f h180 hx W h
  have hq0 : q = 0 := by
    rcases hx with ⟨h, g, _⟩ | ⟨_, _, h, _⟩ | ⟨h, _⟩
    · exact absurd (g.uniq hch) h
    · exact absurd hok h
    · exact h
  have hxa : x = true ↔ AccD ts cs f := by
    rcases hx with ⟨h, _⟩ | ⟨h, _⟩ | ⟨_, _, _, h⟩
    · exact absurd hq0 h
    · rw [hq0] at h; cases h
    · exact h
  subst hq0
  have ME := fun (W : World) (u : Value) (h : IsD W u ts cs) => rmes_is f (by rcases hok with g | g; exact Or.inl g.1; exact Or.inr g.1) hm W h; have RF := fun (W : World) (h : Hid (LaidS W)) => right_is f hS hSb (rig_ok hok hbf) W h
  have HGT := Lib.hid hch.zero_inv.2.1; have HXA := Lib.hid hxa; have HBF := Lib.hid hbf; have HMS := Lib.hid hm; have HD := Lib.hid h1
  have RR := Lib.hid (fun (g : Frm) (hg : g.Ok) {b : Bool} (hb : b = true ↔ Tru S g) (W : World) (h : Hid (LaidS W)) => right_is g hS hSb (rig_ok hg hb) W h)
  obtain ⟨v1, v2, rfl, g1, g2⟩ := id h1
  obtain ⟨a1, c1, rfl, hr1⟩ := id g1; obtain ⟨a2, c2, rfl, hr2⟩ := id g2
  have m1 := hr1.most; have r1 := hr1.room; have m2 := hr2.most; have r2 := hr2.room; have H1 := Lib.hid g1; have H2 := Lib.hid g2
  clear hr1 hr2 g1 g2 h1
  have SV := Lib.hid (size_frm f); have SS := Lib.hid (size_dig hS)
  obtain ⟨V, hV⟩ : ∃ X, mcell f = X := ⟨_, rfl⟩; rw [hV] at SV FT AC ME RF ⊢; clear hV
  obtain ⟨SD, hSD⟩ : ∃ X, S.map (Value.int .u8) = X := ⟨_, rfl⟩; rw [hSD] at SS RF RR ⊢; clear hSD hS hSb hg hl hok hch hx hxa hbf hm h180
  go_enter Tryd.func3, Tryd.ntmps3
  go_upto_region 1 with fail
  refine F_gen (F := fun W => Code.wp _ _ _ _ W) (J := fun W => Box W (w.heap.size) ([.slice a1 ts.length c1, .slice a2 cs.length c2]) ∧ Box W (w.heap.size + 1) (V) ∧ Box W (w.heap.size + 2) (SD) ∧ Below w.heap.size w W) (And.intro (Box.alloc (Box.alloc (Box.newc rfl rfl) _) _) (And.intro (Box.alloc (Box.newc rfl (by simp)) _) (And.intro (Box.newc rfl (by simp)) (by go_grown)))) ?_
  intro w0 ⟨e_d, e_f, e_s, hB0⟩
  have hs0 := hB0.size
  have x_d0 := e_d; clear e_d
  have x_f0 := e_f; clear e_f
  have x_s0 := e_s; clear e_s
  go_wp2_with (first
    | (refine wpList_load_box9 rfl _ _ rfl x_d0 rfl Tryd.underlying25 rfl (size_id12 _ _) ?_)
    | (refine wpList_load_box9 rfl _ _ rfl x_f0 rfl Tryd.underlying41 rfl SV.out ?_))
  refine (FT _ _ (HD.out.below hB0)).mono ?_
  rintro e w1 ⟨rfl, hb⟩
  have hB1 : Below w.heap.size w w1 := below_thru hB0 hb
  have hs1 := hB1.size
  have x_d1 : Box w1 (w.heap.size) ([.slice a1 ts.length c1, .slice a2 cs.length c2]) := Box.below x_d0 hb
  have x_f1 : Box w1 (w.heap.size + 1) (V) := Box.below x_f0 hb
  have x_s1 : Box w1 (w.heap.size + 2) (SD) := Box.below x_s0 hb
  clear hB0 hs0 x_d0 x_f0 x_s0
  clear hb
  go_wp2_with fail
  go_loopw [7] (fun p wr => ∃ (k : Nat), k ≤ ts.length ∧ p = .int .i64 k ∧ Hid (∀ (m : Nat) (y : Tk), m < k → ts[m]? = some y → Tru S y.fr) ∧ Box wr w.heap.size [.slice a1 ts.length c1, .slice a2 cs.length c2] ∧ Box wr (w.heap.size + 1) V ∧ Box wr (w.heap.size + 2) SD ∧ Below w.heap.size w wr) (fun p _ => ts.length - (intOf p).toNat)
  case atStart => exact ⟨0, Nat.zero_le _, rfl, Lib.hid (fun _ _ h => absurd h (Nat.not_lt_zero _)), x_d1, x_f1, x_s1, hB1⟩
  case round =>
    clear x_d1 x_f1 x_s1 hB1
    obtain ⟨k, hk, rfl, HN, x_d40, x_f40, x_s40, hB40⟩ := hrel
    have hs40 := hB40.size
    have ca := x_d40.c 0 _ rfl; have za := x_d40.lt
    by_cases hlt : k < ts.length
    case pos =>
      obtain ⟨b1, o1, rfl, hR1⟩ := H1.out.get 36 rfl (List.getElem?_eq_getElem hlt)
      have x1 := range_below hR1 hB40
      have HE := Lib.hid (List.getElem_mem hlt); have HK := Lib.hid (show Tru S ts[k].fr → ∀ (m : Nat) (y : Tk), m < k + 1 → ts[m]? = some y → Tru S y.fr from fun h0 m y hm hy => by
        rcases Nat.lt_or_ge m k with g | g
        · exact HN.out m y g hy
        · obtain rfl : m = k := by omega
          rw [List.getElem?_eq_getElem hlt] at hy
          cases hy
          exact h0)
      obtain ⟨g, hg⟩ : ∃ g, ts[k] = g := ⟨_, rfl⟩
      rw [hg] at x1 HE HK; clear hg hR1
      obtain ⟨b, hb⟩ := bool_ex (Tru S g.fr)
      have RG := RR.out g.fr (HGT.out _ (tok_mem.2 HE.out)) hb; have HB := Lib.hid hb; clear hb
      have LR : ∀ W, Calls Tryd.prog 7 #[.agg g.v.toArray, .int .u16 0, .int .u32 0] W fun e w' => e = .returned (.agg (mcell g.fr).toArray) ∧ Below W.heap.size W w' := fun W => lreq12_is g.rq W
      have SF := Lib.hid (size_tk g)
      obtain ⟨VF, hVF⟩ : ∃ X, g.v = X := ⟨_, rfl⟩; rw [show LT.f g = VF from hVF] at x1; rw [hVF] at LR SF; clear hVF
      obtain ⟨G, hG⟩ : ∃ X, mcell g.fr = X := ⟨_, rfl⟩; rw [hG] at LR RG; clear hG
      have i0 : (0 : Int) ≤ (k : Int) := (by omega); have i1 : (k : Int) < (ts.length : Int) := (by omega)
      go_upto_region 6 with fail
      clear ca za
      refine wp_region_held_drew (S := fun W => Box W (w.heap.size) ([.slice (some ⟨b1, o1, none⟩) ts.length c1, .slice a2 cs.length c2]) ∧ Box W (w.heap.size + 1) (V) ∧ Box W (w.heap.size + 2) (SD) ∧ W.rangeAt (b1) (o1 + k * 36) (VF)) (by kernel_rfl) (And.intro (x_d40).drew (And.intro (x_f40).drew (And.intro (x_s40).drew x1))) (fun _ => ?_)
      refine F_drew (F := fun W => wpAnyH _ _ _ _ _ _ _ _ W) ?_
      intro Ws0 hbs0
      clear hs40
      have x_d_s0 : Box Ws0 (w.heap.size) ([.slice (some ⟨b1, o1, none⟩) ts.length c1, .slice a2 cs.length c2]) := Box.below x_d40 hbs0
      have x_f_s0 : Box Ws0 (w.heap.size + 1) (V) := Box.below x_f40 hbs0
      have x_s_s0 : Box Ws0 (w.heap.size + 2) (SD) := Box.below x_s40 hbs0
      have c_g_s0 := range_below x1 hbs0
      have Bs0 := below_thru hB40 hbs0
      clear x_d40 x_f40 x_s40 x1 hB40 hbs0
      refine takeH 1 31 (v := ?vs1_1) rfl (by rfl) (by kernel_rfl) (by kernel_rfl) (by kernel_rfl) (fun _ _ _ h => h) (Or.inl ⟨by rfl, ?_⟩) ((And.intro x_d_s0 (And.intro x_f_s0 (And.intro x_s_s0 c_g_s0)))) ?_
      rotate_left
      · intro wq hSq
        go_simp
        exact rfl
      try simp only [Act.put, List.setIfInBounds_toArray, List.set_cons_zero, List.set_cons_succ]
      refine takeH 2 32 (v := ?vs2_2) rfl (by rfl) (by kernel_rfl) (by kernel_rfl) (by kernel_rfl) (fun _ _ _ h => h) (Or.inl ⟨by rfl, ?_⟩) ((And.intro x_d_s0 (And.intro x_f_s0 (And.intro x_s_s0 c_g_s0)))) ?_
      rotate_left
      · intro wq hSq
        have cq := (hSq.1).c 0 _ rfl
        have zq := lt_of_cell cq
        go_simp
        exact rfl
      try simp only [Act.put, List.setIfInBounds_toArray, List.set_cons_zero, List.set_cons_succ]
      refine takeH 3 33 (v := ?vs3_3) rfl (by rfl) (by kernel_rfl) (by kernel_rfl) (by kernel_rfl) (fun _ _ _ h => h) (Or.inl ⟨by rfl, ?_⟩) ((And.intro x_d_s0 (And.intro x_f_s0 (And.intro x_s_s0 c_g_s0)))) ?_
      rotate_left
      · intro wq hSq
        go_simp
        exact rfl
      try simp only [Act.put, List.setIfInBounds_toArray, List.set_cons_zero, List.set_cons_succ]
      refine takeH 4 34 (v := ?vs4_4) rfl (by rfl) (by kernel_rfl) (by kernel_rfl) (by kernel_rfl) (fun _ _ _ h => h) (Or.inl ⟨by rfl, ?_⟩) ((And.intro x_d_s0 (And.intro x_f_s0 (And.intro x_s_s0 c_g_s0)))) ?_
      rotate_left
      · intro wq hSq
        go_simp
        exact rfl
      try simp only [Act.put, List.setIfInBounds_toArray, List.set_cons_zero, List.set_cons_succ]
      refine takeH 0 30 (v := .agg (SD).toArray) rfl (by rfl) (by kernel_rfl) (by kernel_rfl) (by kernel_rfl) (fun _ _ _ h => h) (yieldsIf_load_mid (by rfl) _ _ rfl _ _ rfl (SD) _ (fun wq hq => Box.range (hq.2.2.1)) Tryd.underlying29 rfl SS.out) ((And.intro x_d_s0 (And.intro x_f_s0 (And.intro x_s_s0 c_g_s0)))) ?_
      try simp only [Act.put, List.setIfInBounds_toArray, List.set_cons_zero, List.set_cons_succ]
      refine takeH 5 35 (v := .agg (VF).toArray) rfl (by rfl) (by kernel_rfl) (by kernel_rfl) (by kernel_rfl) (fun _ _ _ h => h) (yieldsIf_load_mid (by rfl) _ _ rfl _ _ rfl (VF) _ (fun wq hq => hq.2.2.2) Tryd.underlying31 rfl SF.out) ((And.intro x_d_s0 (And.intro x_f_s0 (And.intro x_s_s0 c_g_s0)))) ?_
      try simp only [Act.put, List.setIfInBounds_toArray, List.set_cons_zero, List.set_cons_succ]
      refine wpAnyH_ready (rs := [6]) (by kernel_rfl) (by simp) (AllReadyH.cons rfl (fun K hK => ?_) AllReadyH.nil)
      go_simp
      refine (LR _).mono ?_
      rintro e Ws5 ⟨rfl, hbs5⟩
      have x_d_s5 : Box Ws5 (w.heap.size) ([.slice (some ⟨b1, o1, none⟩) ts.length c1, .slice a2 cs.length c2]) := Box.below x_d_s0 hbs5
      have x_f_s5 : Box Ws5 (w.heap.size + 1) (V) := Box.below x_f_s0 hbs5
      have x_s_s5 : Box Ws5 (w.heap.size + 2) (SD) := Box.below x_s_s0 hbs5
      have c_g_s5 := range_below c_g_s0 hbs5
      have Bs5 := below_thru Bs0 hbs5
      clear x_d_s0 x_f_s0 x_s_s0 c_g_s0 Bs0 hbs5
      refine hK.out _ _ (And.intro x_d_s5 (And.intro x_f_s5 (And.intro x_s_s5 c_g_s5))) (fun _ => ?_); clear hK K
      refine wpAnyH_ready (rs := [7]) (by kernel_rfl) (by simp) (AllReadyH.cons rfl (fun K hK => ?_) AllReadyH.nil)
      go_simp
      refine (RG _ (Lib.hid (hL.out.below Bs5))).mono ?_
      rintro e Ws6 ⟨rfl, hbs6⟩
      have x_d_s6 : Box Ws6 (w.heap.size) ([.slice (some ⟨b1, o1, none⟩) ts.length c1, .slice a2 cs.length c2]) := Box.below x_d_s5 hbs6
      have x_f_s6 : Box Ws6 (w.heap.size + 1) (V) := Box.below x_f_s5 hbs6
      have x_s_s6 : Box Ws6 (w.heap.size + 2) (SD) := Box.below x_s_s5 hbs6
      have c_g_s6 := range_below c_g_s5 hbs6
      have Bs6 := below_thru Bs5 hbs6
      clear x_d_s5 x_f_s5 x_s_s5 c_g_s5 Bs5 hbs6
      refine hK.out _ _ (And.intro x_d_s6 (And.intro x_f_s6 (And.intro x_s_s6 c_g_s6))) (fun _ => ?_); clear hK K
      refine takeH 8 29 (v := ?vs8_7) rfl (by rfl) (by kernel_rfl) (by kernel_rfl) (by kernel_rfl) (fun _ _ _ h => h) (Or.inl ⟨by rfl, ?_⟩) ((And.intro x_d_s6 (And.intro x_f_s6 (And.intro x_s_s6 c_g_s6)))) ?_
      rotate_left
      · intro wq hSq
        go_simp
        exact rfl
      try simp only [Act.put, List.setIfInBounds_toArray, List.set_cons_zero, List.set_cons_succ]
      refine takeH 9 38 (v := ?vs9_8) rfl (by rfl) (by kernel_rfl) (by kernel_rfl) (by kernel_rfl) (fun _ _ _ h => h) (Or.inl ⟨by rfl, ?_⟩) ((And.intro x_d_s6 (And.intro x_f_s6 (And.intro x_s_s6 c_g_s6)))) ?_
      rotate_left
      · intro wq hSq
        go_simp
        exact rfl
      try simp only [Act.put, List.setIfInBounds_toArray, List.set_cons_zero, List.set_cons_succ]
      refine takeH 10 39 (v := ?vs10_9) rfl (by rfl) (by kernel_rfl) (by kernel_rfl) (by kernel_rfl) (fun _ _ _ h => h) (Or.inl ⟨by rfl, ?_⟩) ((And.intro x_d_s6 (And.intro x_f_s6 (And.intro x_s_s6 c_g_s6)))) ?_
      rotate_left
      · intro wq hSq
        go_simp
        exact rfl
      try simp only [Act.put, List.setIfInBounds_toArray, List.set_cons_zero, List.set_cons_succ]
      refine takeH 11 8 (v := ?vs11_10) rfl (by rfl) (by kernel_rfl) (by kernel_rfl) (by kernel_rfl) (fun _ _ _ h => h) (Or.inl ⟨by rfl, ?_⟩) ((And.intro x_d_s6 (And.intro x_f_s6 (And.intro x_s_s6 c_g_s6)))) ?_
      rotate_left
      · intro wq hSq
        go_simp
        exact rfl
      try simp only [Act.put, List.setIfInBounds_toArray, List.set_cons_zero, List.set_cons_succ]
      refine takeH 12 9 (v := ?vs12_11) rfl (by rfl) (by kernel_rfl) (by kernel_rfl) (by kernel_rfl) (fun _ _ _ h => h) (Or.inl ⟨by rfl, ?_⟩) ((And.intro x_d_s6 (And.intro x_f_s6 (And.intro x_s_s6 c_g_s6)))) ?_
      rotate_left
      · intro wq hSq
        go_simp
        exact rfl
      try simp only [Act.put, List.setIfInBounds_toArray, List.set_cons_zero, List.set_cons_succ]
      refine wpAnyH_done (by kernel_rfl) ?_ _
      have hB41 := Bs6; have hs41 := hB41.size
      have x_d41 := x_d_s6
      have x_f41 := x_f_s6
      have x_s41 := x_s_s6
      clear Bs6 x_d_s6 x_f_s6 x_s_s6
      cases b with
      | true =>
        have HN2 := Lib.hid (HK.out (HB.out.1 rfl)); clear HB HK HE HN RG LR
        go_wp2_with fail
        go_roundw
        case rel => exact ⟨k + 1, by omega, by go_num, HN2, x_d41, x_f41, x_s41, hB41⟩
        case measure => simp [intOf]; omega
      | false =>
        clear HB HK HE HN RG LR
        go_wp2_with fail
        refine (AL _).mono ?_
        rintro e w99 ⟨rfl, hb9⟩
        have hB99 := below_thru hB41 hb9
        go_wp2_with fail
        go_returns
        exact ⟨rfl, hB99⟩
    case neg =>
      have HAt := Lib.hid (show ∀ y ∈ ts, Tru S y.fr from fun y hy => by
        obtain ⟨m, hm⟩ := List.getElem?_of_mem hy
        exact HN.out m y (by have := (List.getElem?_eq_some_iff.1 hm).1; omega) hm)
      have hn : decide ((k : Int) < (ts.length : Int)) = false := decide_eq_false (by omega)
      clear HN
      go_wp2_with fail
      clear hn hlt hk ca za
      go_loopw [10] (fun p wr => ∃ (k : Nat), k ≤ cs.length ∧ p = .int .i64 k ∧ Hid (∀ (m : Nat) (y : Cmd), m < k → cs[m]? = some y → Tru S (Frm.cmd y)) ∧ Box wr w.heap.size [.slice a1 ts.length c1, .slice a2 cs.length c2] ∧ Box wr (w.heap.size + 1) V ∧ Box wr (w.heap.size + 2) SD ∧ Below w.heap.size w wr) (fun p _ => cs.length - (intOf p).toNat)
      case atStart => exact ⟨0, Nat.zero_le _, rfl, Lib.hid (fun _ _ h => absurd h (Nat.not_lt_zero _)), x_d40, x_f40, x_s40, hB40⟩
      case round =>
        clear x_d40 x_f40 x_s40 hB40
        obtain ⟨k, hk, rfl, HN, x_d60, x_f60, x_s60, hB60⟩ := hrel
        have hs60 := hB60.size
        have ca := x_d60.c 1 _ rfl; have za := x_d60.lt
        by_cases hlt : k < cs.length
        case pos =>
          obtain ⟨b1, o1, rfl, hR1⟩ := H2.out.get 47 rfl (List.getElem?_eq_getElem hlt)
          have x1 := range_below hR1 hB60
          have HE := Lib.hid (List.getElem_mem hlt); have HK := Lib.hid (show Tru S (Frm.cmd cs[k]) → ∀ (m : Nat) (y : Cmd), m < k + 1 → cs[m]? = some y → Tru S (Frm.cmd y) from fun h0 m y hm hy => by
            rcases Nat.lt_or_ge m k with g | g
            · exact HN.out m y g hy
            · obtain rfl : m = k := by omega
              rw [List.getElem?_eq_getElem hlt] at hy
              cases hy
              exact h0)
          obtain ⟨g, hg⟩ : ∃ g, cs[k] = g := ⟨_, rfl⟩
          rw [hg] at x1 HE HK; clear hg hR1
          obtain ⟨b, hb⟩ := bool_ex (Tru S (Frm.cmd g))
          have RG := RR.out (Frm.cmd g) (HGT.out _ (cmd_mem.2 HE.out)) hb; have HB := Lib.hid hb; clear hb
          have LR := fun W => lcmd12_is g W
          have SF := Lib.hid (size_cmd g)
          obtain ⟨VF, hVF⟩ : ∃ X, ccell g = X := ⟨_, rfl⟩; rw [show LC.f g = VF from hVF] at x1; rw [hVF] at LR SF; clear hVF
          obtain ⟨G, hG⟩ : ∃ X, mcell (Frm.cmd g) = X := ⟨_, rfl⟩; rw [hG] at LR RG; clear hG
          have i0 : (0 : Int) ≤ (k : Int) := (by omega); have i1 : (k : Int) < (cs.length : Int) := (by omega)
          go_upto_region 14 with fail
          clear ca za
          refine wp_region_held_drew (S := fun W => Box W (w.heap.size) ([.slice a1 ts.length c1, .slice (some ⟨b1, o1, none⟩) cs.length c2]) ∧ Box W (w.heap.size + 1) (V) ∧ Box W (w.heap.size + 2) (SD) ∧ W.rangeAt (b1) (o1 + k * 47) (VF)) (by kernel_rfl) (And.intro (x_d60).drew (And.intro (x_f60).drew (And.intro (x_s60).drew x1))) (fun _ => ?_)
          refine F_drew (F := fun W => wpAnyH _ _ _ _ _ _ _ _ W) ?_
          intro Wu0 hbu0
          clear hs60
          have x_d_u0 : Box Wu0 (w.heap.size) ([.slice a1 ts.length c1, .slice (some ⟨b1, o1, none⟩) cs.length c2]) := Box.below x_d60 hbu0
          have x_f_u0 : Box Wu0 (w.heap.size + 1) (V) := Box.below x_f60 hbu0
          have x_s_u0 : Box Wu0 (w.heap.size + 2) (SD) := Box.below x_s60 hbu0
          have c_g_u0 := range_below x1 hbu0
          have Bu0 := below_thru hB60 hbu0
          clear x_d60 x_f60 x_s60 x1 hB60 hbu0
          refine takeH 1 54 (v := ?vu1_1) rfl (by rfl) (by kernel_rfl) (by kernel_rfl) (by kernel_rfl) (fun _ _ _ h => h) (Or.inl ⟨by rfl, ?_⟩) ((And.intro x_d_u0 (And.intro x_f_u0 (And.intro x_s_u0 c_g_u0)))) ?_
          rotate_left
          · intro wq hSq
            go_simp
            exact rfl
          try simp only [Act.put, List.setIfInBounds_toArray, List.set_cons_zero, List.set_cons_succ]
          refine takeH 2 55 (v := ?vu2_2) rfl (by rfl) (by kernel_rfl) (by kernel_rfl) (by kernel_rfl) (fun _ _ _ h => h) (Or.inl ⟨by rfl, ?_⟩) ((And.intro x_d_u0 (And.intro x_f_u0 (And.intro x_s_u0 c_g_u0)))) ?_
          rotate_left
          · intro wq hSq
            have cq := (hSq.1).c 1 _ rfl
            have zq := lt_of_cell cq
            go_simp
            exact rfl
          try simp only [Act.put, List.setIfInBounds_toArray, List.set_cons_zero, List.set_cons_succ]
          refine takeH 3 56 (v := ?vu3_3) rfl (by rfl) (by kernel_rfl) (by kernel_rfl) (by kernel_rfl) (fun _ _ _ h => h) (Or.inl ⟨by rfl, ?_⟩) ((And.intro x_d_u0 (And.intro x_f_u0 (And.intro x_s_u0 c_g_u0)))) ?_
          rotate_left
          · intro wq hSq
            go_simp
            exact rfl
          try simp only [Act.put, List.setIfInBounds_toArray, List.set_cons_zero, List.set_cons_succ]
          refine takeH 4 57 (v := ?vu4_4) rfl (by rfl) (by kernel_rfl) (by kernel_rfl) (by kernel_rfl) (fun _ _ _ h => h) (Or.inl ⟨by rfl, ?_⟩) ((And.intro x_d_u0 (And.intro x_f_u0 (And.intro x_s_u0 c_g_u0)))) ?_
          rotate_left
          · intro wq hSq
            go_simp
            exact rfl
          try simp only [Act.put, List.setIfInBounds_toArray, List.set_cons_zero, List.set_cons_succ]
          refine takeH 0 53 (v := .agg (SD).toArray) rfl (by rfl) (by kernel_rfl) (by kernel_rfl) (by kernel_rfl) (fun _ _ _ h => h) (yieldsIf_load_mid (by rfl) _ _ rfl _ _ rfl (SD) _ (fun wq hq => Box.range (hq.2.2.1)) Tryd.underlying29 rfl SS.out) ((And.intro x_d_u0 (And.intro x_f_u0 (And.intro x_s_u0 c_g_u0)))) ?_
          try simp only [Act.put, List.setIfInBounds_toArray, List.set_cons_zero, List.set_cons_succ]
          refine takeH 5 58 (v := .agg (VF).toArray) rfl (by rfl) (by kernel_rfl) (by kernel_rfl) (by kernel_rfl) (fun _ _ _ h => h) (yieldsIf_load_mid (by rfl) _ _ rfl _ _ rfl (VF) _ (fun wq hq => hq.2.2.2) Tryd.underlying39 rfl SF.out) ((And.intro x_d_u0 (And.intro x_f_u0 (And.intro x_s_u0 c_g_u0)))) ?_
          try simp only [Act.put, List.setIfInBounds_toArray, List.set_cons_zero, List.set_cons_succ]
          refine wpAnyH_ready (rs := [6]) (by kernel_rfl) (by simp) (AllReadyH.cons rfl (fun K hK => ?_) AllReadyH.nil)
          go_simp
          refine (LR _).mono ?_
          rintro e Wu5 ⟨rfl, hbu5⟩
          have x_d_u5 : Box Wu5 (w.heap.size) ([.slice a1 ts.length c1, .slice (some ⟨b1, o1, none⟩) cs.length c2]) := Box.below x_d_u0 hbu5
          have x_f_u5 : Box Wu5 (w.heap.size + 1) (V) := Box.below x_f_u0 hbu5
          have x_s_u5 : Box Wu5 (w.heap.size + 2) (SD) := Box.below x_s_u0 hbu5
          have c_g_u5 := range_below c_g_u0 hbu5
          have Bu5 := below_thru Bu0 hbu5
          clear x_d_u0 x_f_u0 x_s_u0 c_g_u0 Bu0 hbu5
          refine hK.out _ _ (And.intro x_d_u5 (And.intro x_f_u5 (And.intro x_s_u5 c_g_u5))) (fun _ => ?_); clear hK K
          refine wpAnyH_ready (rs := [7]) (by kernel_rfl) (by simp) (AllReadyH.cons rfl (fun K hK => ?_) AllReadyH.nil)
          go_simp
          refine (RG _ (Lib.hid (hL.out.below Bu5))).mono ?_
          rintro e Wu6 ⟨rfl, hbu6⟩
          have x_d_u6 : Box Wu6 (w.heap.size) ([.slice a1 ts.length c1, .slice (some ⟨b1, o1, none⟩) cs.length c2]) := Box.below x_d_u5 hbu6
          have x_f_u6 : Box Wu6 (w.heap.size + 1) (V) := Box.below x_f_u5 hbu6
          have x_s_u6 : Box Wu6 (w.heap.size + 2) (SD) := Box.below x_s_u5 hbu6
          have c_g_u6 := range_below c_g_u5 hbu6
          have Bu6 := below_thru Bu5 hbu6
          clear x_d_u5 x_f_u5 x_s_u5 c_g_u5 Bu5 hbu6
          refine hK.out _ _ (And.intro x_d_u6 (And.intro x_f_u6 (And.intro x_s_u6 c_g_u6))) (fun _ => ?_); clear hK K
          refine takeH 8 52 (v := ?vu8_7) rfl (by rfl) (by kernel_rfl) (by kernel_rfl) (by kernel_rfl) (fun _ _ _ h => h) (Or.inl ⟨by rfl, ?_⟩) ((And.intro x_d_u6 (And.intro x_f_u6 (And.intro x_s_u6 c_g_u6)))) ?_
          rotate_left
          · intro wq hSq
            go_simp
            exact rfl
          try simp only [Act.put, List.setIfInBounds_toArray, List.set_cons_zero, List.set_cons_succ]
          refine takeH 9 61 (v := ?vu9_8) rfl (by rfl) (by kernel_rfl) (by kernel_rfl) (by kernel_rfl) (fun _ _ _ h => h) (Or.inl ⟨by rfl, ?_⟩) ((And.intro x_d_u6 (And.intro x_f_u6 (And.intro x_s_u6 c_g_u6)))) ?_
          rotate_left
          · intro wq hSq
            go_simp
            exact rfl
          try simp only [Act.put, List.setIfInBounds_toArray, List.set_cons_zero, List.set_cons_succ]
          refine takeH 10 62 (v := ?vu10_9) rfl (by rfl) (by kernel_rfl) (by kernel_rfl) (by kernel_rfl) (fun _ _ _ h => h) (Or.inl ⟨by rfl, ?_⟩) ((And.intro x_d_u6 (And.intro x_f_u6 (And.intro x_s_u6 c_g_u6)))) ?_
          rotate_left
          · intro wq hSq
            go_simp
            exact rfl
          try simp only [Act.put, List.setIfInBounds_toArray, List.set_cons_zero, List.set_cons_succ]
          refine takeH 11 11 (v := ?vu11_10) rfl (by rfl) (by kernel_rfl) (by kernel_rfl) (by kernel_rfl) (fun _ _ _ h => h) (Or.inl ⟨by rfl, ?_⟩) ((And.intro x_d_u6 (And.intro x_f_u6 (And.intro x_s_u6 c_g_u6)))) ?_
          rotate_left
          · intro wq hSq
            go_simp
            exact rfl
          try simp only [Act.put, List.setIfInBounds_toArray, List.set_cons_zero, List.set_cons_succ]
          refine takeH 12 12 (v := ?vu12_11) rfl (by rfl) (by kernel_rfl) (by kernel_rfl) (by kernel_rfl) (fun _ _ _ h => h) (Or.inl ⟨by rfl, ?_⟩) ((And.intro x_d_u6 (And.intro x_f_u6 (And.intro x_s_u6 c_g_u6)))) ?_
          rotate_left
          · intro wq hSq
            go_simp
            exact rfl
          try simp only [Act.put, List.setIfInBounds_toArray, List.set_cons_zero, List.set_cons_succ]
          refine wpAnyH_done (by kernel_rfl) ?_ _
          have hB61 := Bu6; have hs61 := hB61.size
          have x_d61 := x_d_u6
          have x_f61 := x_f_u6
          have x_s61 := x_s_u6
          clear Bu6 x_d_u6 x_f_u6 x_s_u6
          cases b with
          | true =>
            have HN2 := Lib.hid (HK.out (HB.out.1 rfl)); clear HB HK HE HN RG LR
            go_wp2_with fail
            go_roundw
            case rel => exact ⟨k + 1, by omega, by go_num, HN2, x_d61, x_f61, x_s61, hB61⟩
            case measure => simp [intOf]; omega
          | false =>
            clear HB HK HE HN RG LR
            go_wp2_with fail
            refine (AL _).mono ?_
            rintro e w99 ⟨rfl, hb9⟩
            have hB99 := below_thru hB61 hb9
            go_wp2_with fail
            go_returns
            exact ⟨rfl, hB99⟩
        case neg =>
          have HAc := Lib.hid (show ∀ y ∈ cs, Tru S (Frm.cmd y) from fun y hy => by
            obtain ⟨m, hm⟩ := List.getElem?_of_mem hy
            exact HN.out m y (by have := (List.getElem?_eq_some_iff.1 hm).1; omega) hm)
          have hn : decide ((k : Int) < (cs.length : Int)) = false := decide_eq_false (by omega)
          clear HN
          have HRI := Lib.hid (real_iff (f := f) HAt.out HAc.out); clear HAt HAc RR HGT
          go_upto_region 19 with fail
          clear hn hlt hk ca za
          go_wp2_with (first
            | (refine wpList_load_box9 rfl _ _ rfl x_s60 rfl Tryd.underlying29 rfl SS.out ?_)
            | (refine wpList_load_box9 rfl _ _ rfl x_f60 rfl Tryd.underlying41 rfl SV.out ?_))
          refine (RF _ (Lib.hid (hL.out.below hB60))).mono ?_
          rintro e w61 ⟨rfl, hb⟩
          have hB61 : Below w.heap.size w w61 := below_thru hB60 hb
          have hs61 := hB61.size
          have x_d61 : Box w61 (w.heap.size) ([.slice a1 ts.length c1, .slice a2 cs.length c2]) := Box.below x_d60 hb
          have x_f61 : Box w61 (w.heap.size + 1) (V) := Box.below x_f60 hb
          have x_s61 : Box w61 (w.heap.size + 2) (SD) := Box.below x_s60 hb
          clear hB60 hs60 x_d60 x_f60 x_s60
          clear hb
          go_wp2_with (first
            | (refine wpList_load_box9 rfl _ _ rfl x_d61 rfl Tryd.underlying25 rfl (size_id12 _ _) ?_)
            | (refine wpList_load_box9 rfl _ _ rfl x_f61 rfl Tryd.underlying41 rfl SV.out ?_))
          refine (AC _ _ (HD.out.below hB61)).mono ?_
          rintro e w62 ⟨rfl, hb⟩
          have hB62 : Below w.heap.size w w62 := below_thru hB61 hb
          have hs62 := hB62.size
          have x_d62 : Box w62 (w.heap.size) ([.slice a1 ts.length c1, .slice a2 cs.length c2]) := Box.below x_d61 hb
          have x_f62 : Box w62 (w.heap.size + 1) (V) := Box.below x_f61 hb
          have x_s62 : Box w62 (w.heap.size + 2) (SD) := Box.below x_s61 hb
          clear hB61 hs61 x_d61 x_f61 x_s61
          clear hb
          cases bf with
          | true =>
            have hxm : x = m := bool_eq12 HXA.out (HMS.out.trans ⟨fun h => HRI.out.2 ⟨HBF.out.1 rfl, h⟩, fun h => (HRI.out.1 h).2⟩)
            subst hxm; have hbq : (x == x) = true := beq_self_eq_true x; clear HRI HBF HXA HMS
            go_wp2_with (first
              | (refine wpList_load_box9 rfl _ _ rfl x_d62 rfl Tryd.underlying25 rfl (size_id12 _ _) ?_)
              | (refine wpList_load_box9 rfl _ _ rfl x_f62 rfl Tryd.underlying41 rfl SV.out ?_))
            refine (ME _ _ (HD.out.below hB62)).mono ?_
            rintro e w63 ⟨rfl, hb⟩
            have hB63 : Below w.heap.size w w63 := below_thru hB62 hb
            have hs63 := hB63.size
            have x_d63 : Box w63 (w.heap.size) ([.slice a1 ts.length c1, .slice a2 cs.length c2]) := Box.below x_d62 hb
            have x_f63 : Box w63 (w.heap.size + 1) (V) := Box.below x_f62 hb
            have x_s63 : Box w63 (w.heap.size + 2) (SD) := Box.below x_s62 hb
            clear hB62 hs62 x_d62 x_f62 x_s62
            clear hb
            go_wp2_with fail
            refine (AL _).mono ?_
            rintro e w64 ⟨rfl, hb⟩
            have hB64 : Below w.heap.size w w64 := below_thru hB63 hb
            have hs64 := hB64.size
            have x_d64 : Box w64 (w.heap.size) ([.slice a1 ts.length c1, .slice a2 cs.length c2]) := Box.below x_d63 hb
            have x_f64 : Box w64 (w.heap.size + 1) (V) := Box.below x_f63 hb
            have x_s64 : Box w64 (w.heap.size + 2) (SD) := Box.below x_s63 hb
            clear hB63 hs63 x_d63 x_f63 x_s63
            clear hb
            go_wp2_with fail
            go_returns
            exact ⟨rfl, hB64⟩
          | false =>
            have hxf : x = false := by
              cases x with
              | false => rfl
              | true => exact absurd (HBF.out.2 (HRI.out.1 (HXA.out.1 rfl)).1) Bool.false_ne_true
            subst hxf; clear HRI HBF HXA HMS
            go_wp2_with fail
            refine (AL _).mono ?_
            rintro e w63 ⟨rfl, hb⟩
            have hB63 : Below w.heap.size w w63 := below_thru hB62 hb
            have hs63 := hB63.size
            have x_d63 : Box w63 (w.heap.size) ([.slice a1 ts.length c1, .slice a2 cs.length c2]) := Box.below x_d62 hb
            have x_f63 : Box w63 (w.heap.size + 1) (V) := Box.below x_f62 hb
            have x_s63 : Box w63 (w.heap.size + 2) (SD) := Box.below x_s62 hb
            clear hB62 hs62 x_d62 x_f62 x_s62
            clear hb
            go_wp2_with fail
            go_returns
            exact ⟨rfl, hB63⟩
theorem real12_is {v : Value} {ts : List Tk} {cs : List Cmd} (f : Frm) {S : List Int} (hS : S.length = 32) (hSb : Byts S) (hl : ts.length + cs.length ≤ 1000000000000000) (w : World) (h1 : IsD w v ts cs) (hL : Hid (LaidS w)) : Calls Tryd.prog 3 #[v, .agg (mcell f).toArray, .agg (S.map (Value.int .u8)).toArray] w fun e w' => e = .returned (.bool true) ∧ Below w.heap.size w w' := by
  by_cases hg : FitD ts cs f
  · exact real12_b f hS hSb hl hg w h1 hL
  · exact real12_a f hS hl hg w h1

end Go.Proofs.YtpccahdbienjeaaDoor
