/-
  The reference of layer 13, walked: Check.
-/
import Derived.Test.YtepimljjbmoojaaArE
namespace Go.Proofs.Ytepimljjbmoojaa
open Go.RowKit

set_option maxRecDepth 100000 in
set_option maxHeartbeats 6400000 in
theorem rchk_a {v : Value} {A : Ar} (h : A.nx.length < 1) (w : World) (h1 : IsA w v A) : Calls Try.prog 20 #[v] w fun e w' => e = .returned (.int .i64 8) ∧ Below w.heap.size w w' := by
  have HA := Lib.hid h1
  obtain ⟨v1, v2, rfl, g1, g2⟩ := id h1
  obtain ⟨a1, c1, rfl, hr1⟩ := id g1; obtain ⟨a2, c2, rfl, hr2⟩ := id g2
  have m1 := hr1.most; have r1 := hr1.room; have m2 := hr2.most; have r2 := hr2.room; have H1 := Lib.hid g1; have H2 := Lib.hid g2
  clear hr1 hr2 g1 g2 h1
  have d0 : decide ((A.nx.length : Int) < 1) = true := decide_eq_true (by omega)
  clear HA H1 H2 h
  go_enter Try.func20, Try.ntmps20
  go_upto_region 1 with fail
  refine F_gen (F := fun W => Code.wp _ _ _ _ W) (J := fun W => Box W (w.heap.size) ([.slice a1 A.nx.length c1, .slice a2 A.us.length c2, .int .i64 A.fr]) ∧ Below w.heap.size w W) (And.intro (Box.newc rfl rfl) (by go_grown)) ?_
  intro w0 ⟨e_a, hB0⟩
  have hs0 := hB0.size
  have x_a0 := e_a; clear e_a
  have ca := (x_a0).c 0 _ rfl
  have za := (x_a0).lt
  have cb := (x_a0).c 1 _ rfl
  have zb := (x_a0).lt
  go_wp2_with fail
  go_returns
  exact ⟨rfl, hB0⟩

set_option maxRecDepth 100000 in
set_option maxHeartbeats 6400000 in
theorem rchk_b {v : Value} {A : Ar} (h : 16 < A.nx.length) (w : World) (h1 : IsA w v A) : Calls Try.prog 20 #[v] w fun e w' => e = .returned (.int .i64 8) ∧ Below w.heap.size w w' := by
  have HA := Lib.hid h1
  obtain ⟨v1, v2, rfl, g1, g2⟩ := id h1
  obtain ⟨a1, c1, rfl, hr1⟩ := id g1; obtain ⟨a2, c2, rfl, hr2⟩ := id g2
  have m1 := hr1.most; have r1 := hr1.room; have m2 := hr2.most; have r2 := hr2.room; have H1 := Lib.hid g1; have H2 := Lib.hid g2
  clear hr1 hr2 g1 g2 h1
  have d0 : decide ((A.nx.length : Int) < 1) = false := decide_eq_false (by omega)
  have d1 : decide (16 < (A.nx.length : Int)) = true := decide_eq_true (by omega)
  clear HA H1 H2 h
  go_enter Try.func20, Try.ntmps20
  go_upto_region 1 with fail
  refine F_gen (F := fun W => Code.wp _ _ _ _ W) (J := fun W => Box W (w.heap.size) ([.slice a1 A.nx.length c1, .slice a2 A.us.length c2, .int .i64 A.fr]) ∧ Below w.heap.size w W) (And.intro (Box.newc rfl rfl) (by go_grown)) ?_
  intro w0 ⟨e_a, hB0⟩
  have hs0 := hB0.size
  have x_a0 := e_a; clear e_a
  have ca := (x_a0).c 0 _ rfl
  have za := (x_a0).lt
  have cb := (x_a0).c 1 _ rfl
  have zb := (x_a0).lt
  go_wp2_with fail
  go_returns
  exact ⟨rfl, hB0⟩

set_option maxRecDepth 100000 in
set_option maxHeartbeats 6400000 in
theorem rchk_c {v : Value} {A : Ar} (h : 1 ≤ A.nx.length ∧ A.nx.length ≤ 16) (h2 : A.us.length ≠ A.nx.length) (w : World) (h1 : IsA w v A) : Calls Try.prog 20 #[v] w fun e w' => e = .returned (.int .i64 8) ∧ Below w.heap.size w w' := by
  have HA := Lib.hid h1
  obtain ⟨v1, v2, rfl, g1, g2⟩ := id h1
  obtain ⟨a1, c1, rfl, hr1⟩ := id g1; obtain ⟨a2, c2, rfl, hr2⟩ := id g2
  have m1 := hr1.most; have r1 := hr1.room; have m2 := hr2.most; have r2 := hr2.room; have H1 := Lib.hid g1; have H2 := Lib.hid g2
  clear hr1 hr2 g1 g2 h1
  have d0 : decide ((A.nx.length : Int) < 1) = false := decide_eq_false (by omega)
  have d1 : decide (16 < (A.nx.length : Int)) = false := decide_eq_false (by omega)
  have d9 : ((A.us.length : Int) != (A.nx.length : Int)) = true := by rw [bne_iff_ne]; omega
  clear HA H1 H2 h h2
  go_enter Try.func20, Try.ntmps20
  go_upto_region 1 with fail
  refine F_gen (F := fun W => Code.wp _ _ _ _ W) (J := fun W => Box W (w.heap.size) ([.slice a1 A.nx.length c1, .slice a2 A.us.length c2, .int .i64 A.fr]) ∧ Below w.heap.size w W) (And.intro (Box.newc rfl rfl) (by go_grown)) ?_
  intro w0 ⟨e_a, hB0⟩
  have hs0 := hB0.size
  have x_a0 := e_a; clear e_a
  have ca := (x_a0).c 0 _ rfl
  have za := (x_a0).lt
  have cb := (x_a0).c 1 _ rfl
  have zb := (x_a0).lt
  go_wp2_with fail
  go_returns
  exact ⟨rfl, hB0⟩

set_option maxRecDepth 100000 in
set_option maxHeartbeats 6400000 in
theorem rchk_d {v : Value} {A : Ar} (hp : 1 ≤ A.nx.length) (hm : A.nx.length ≤ 16) (hu : A.us.length = A.nx.length) (hr : ∀ l, ¬ FreeL A l) (w : World) (h1 : IsA w v A) : Calls Try.prog 20 #[v] w fun e w' => e = .returned (.int .i64 8) ∧ Below w.heap.size w w' := by
  have FR := fun (W : World) (u : Value) (h : IsA W u A) => rfree_is W h hm (Or.inr ⟨rfl, hr⟩)
  have HA := Lib.hid h1
  obtain ⟨v1, v2, rfl, g1, g2⟩ := id h1
  obtain ⟨a1, c1, rfl, hr1⟩ := id g1; obtain ⟨a2, c2, rfl, hr2⟩ := id g2
  have m1 := hr1.most; have r1 := hr1.room; have m2 := hr2.most; have r2 := hr2.room; have H1 := Lib.hid g1; have H2 := Lib.hid g2
  clear hr1 hr2 g1 g2 h1
  obtain ⟨n, hn⟩ : ∃ n, A.nx.length = n := ⟨_, rfl⟩
  rw [hu] at r2 H2 HA ⊢; rw [hn] at hu hp hm r1 r2 H1 H2 HA ⊢
  have HN := Lib.hid hn; have HU := Lib.hid hu
  have SA := Lib.hid (size_ar (.slice a1 n c1) (.slice a2 n c2) (.int .i64 A.fr))
  clear hn hu hr
  have d0 : decide ((n : Int) < 1) = false := decide_eq_false (by omega); have d1 : decide (16 < (n : Int)) = false := decide_eq_false (by omega)
  go_enter Try.func20, Try.ntmps20
  go_upto_region 1 with fail
  refine F_gen (F := fun W => Code.wp _ _ _ _ W) (J := fun W => Box W (w.heap.size) ([.slice a1 n c1, .slice a2 n c2, .int .i64 A.fr]) ∧ Below w.heap.size w W) (And.intro (Box.newc rfl rfl) (by go_grown)) ?_
  intro w0 ⟨e_a, hB0⟩
  have hs0 := hB0.size
  have x_a0 := e_a; clear e_a
  have ca := (x_a0).c 0 _ rfl
  have za := (x_a0).lt
  have cb := (x_a0).c 1 _ rfl
  have zb := (x_a0).lt
  go_upto_region 3 with fail
  clear d0 d1 ca za cb zb
  go_wp2_with (refine wpList_load_box9 rfl _ _ rfl x_a0 rfl Try.underlying25 rfl SA.out ?_)
  refine (FR _ _ (HA.out.below hB0)).mono ?_
  rintro e w1 ⟨u, rfl, hI, hO, hb⟩
  clear hI hO
  have hB1 : Below w.heap.size w w1 := below_thru hB0 hb
  have hs1 := hB1.size
  have x_a1 : Box w1 (w.heap.size) ([.slice a1 n c1, .slice a2 n c2, .int .i64 A.fr]) := Box.below x_a0 hb
  clear hB0 hs0 x_a0
  clear hb
  go_wp2_with fail
  go_returns
  exact ⟨rfl, hB1⟩

set_option maxRecDepth 100000 in
set_option maxHeartbeats 6400000 in
theorem rchk_e {v : Value} {A : Ar} (hp : 1 ≤ A.nx.length) (hm : A.nx.length ≤ 16) (hu : A.us.length = A.nx.length) {l : List Nat} {q : Int} (hr : FreeL A l) (hq : ChkA A q) (w : World) (h1 : IsA w v A) : Calls Try.prog 20 #[v] w fun e w' => e = .returned (.int .i64 q) ∧ Below w.heap.size w w' := by
  have FR := fun (W : World) (u : Value) (h : IsA W u A) => rfree_is W h hm (Or.inl ⟨l, rfl, hr⟩)
  have HA := Lib.hid h1
  obtain ⟨v1, v2, rfl, g1, g2⟩ := id h1
  obtain ⟨a1, c1, rfl, hr1⟩ := id g1; obtain ⟨a2, c2, rfl, hr2⟩ := id g2
  have m1 := hr1.most; have r1 := hr1.room; have m2 := hr2.most; have r2 := hr2.room; have H1 := Lib.hid g1; have H2 := Lib.hid g2
  clear hr1 hr2 g1 g2 h1
  obtain ⟨n, hn⟩ : ∃ n, A.nx.length = n := ⟨_, rfl⟩
  rw [hu] at r2 H2 HA ⊢; rw [hn] at hu hp hm r1 r2 H1 H2 HA ⊢
  have HN := Lib.hid hn; have HU := Lib.hid hu; have HR := Lib.hid hr; have HQ := Lib.hid hq
  have SA := Lib.hid (size_ar (.slice a1 n c1) (.slice a2 n c2) (.int .i64 A.fr))
  clear hn hu hr hq
  have d0 : decide ((n : Int) < 1) = false := decide_eq_false (by omega); have d1 : decide (16 < (n : Int)) = false := decide_eq_false (by omega)
  go_enter Try.func20, Try.ntmps20
  go_upto_region 1 with fail
  refine F_gen (F := fun W => Code.wp _ _ _ _ W) (J := fun W => Box W (w.heap.size) ([.slice a1 n c1, .slice a2 n c2, .int .i64 A.fr]) ∧ Below w.heap.size w W) (And.intro (Box.newc rfl rfl) (by go_grown)) ?_
  intro w0 ⟨e_a, hB0⟩
  have hs0 := hB0.size
  have x_a0 := e_a; clear e_a
  have ca := (x_a0).c 0 _ rfl
  have za := (x_a0).lt
  have cb := (x_a0).c 1 _ rfl
  have zb := (x_a0).lt
  go_upto_region 3 with fail
  clear d0 d1 ca za cb zb
  go_wp2_with (refine wpList_load_box9 rfl _ _ rfl x_a0 rfl Try.underlying25 rfl SA.out ?_)
  refine (FR _ _ (HA.out.below hB0)).mono ?_
  rintro e w1 ⟨u, rfl, hI, hO, hb⟩
  have hB1 : Below w.heap.size w w1 := below_thru hB0 hb
  have hs1 := hB1.size
  have x_a1 : Box w1 (w.heap.size) ([.slice a1 n c1, .slice a2 n c2, .int .i64 A.fr]) := Box.below x_a0 hb
  clear hB0 hs0 x_a0
  clear hb
  clear hO; have HI : Hid (IsR LI w1 u (nums l)) := Lib.hid hI; clear hI
  go_wp2_with fail
  go_loopw [5] (fun i wr => ∃ k : Nat, k ≤ n ∧ i = .int .i64 k ∧ Hid (Seen A l k) ∧ Box wr w.heap.size [.slice a1 n c1, .slice a2 n c2, .int .i64 A.fr] ∧ Below w1.heap.size w1 wr ∧ Below w.heap.size w wr) (fun i _ => n - (intOf i).toNat)
  case atStart => exact ⟨0, Nat.zero_le _, rfl, Lib.hid (Seen.zero A l), x_a1, Below.refl _ _, hB1⟩
  case round =>
    clear x_a1 hB1 hs1
    obtain ⟨k, hk, rfl, HS, x_a, hB0, hB⟩ := hrel
    have hs := hB.size; have ca := x_a.c 1 _ rfl; have za := x_a.lt
    by_cases hlt : k < n
    case neg =>
      have HX := Lib.hid (show (0 : Int) = q from ChkA.uniq (ChkA.good (HR.out.valid (by rw [HN.out]; omega) (by rw [HN.out]; omega) (by rw [HU.out, HN.out]) HS.out (by rw [HU.out]; omega))) HQ.out)
      clear HS
      have hd : decide ((k : Int) < (n : Int)) = false := decide_eq_false (by omega)
      go_wp2_with fail
      go_returns
      exact ⟨ret_i12 HX.out, hB⟩
    case pos =>
      obtain ⟨x, hx⟩ : ∃ x, A.nx[k]? = some x := ⟨_, List.getElem?_eq_getElem (by rw [HN.out]; exact hlt)⟩
      obtain ⟨u', hu⟩ : ∃ u, A.us[k]? = some u := ⟨_, List.getElem?_eq_getElem (by rw [HU.out]; exact hlt)⟩
      obtain ⟨b1, o1, rfl, e1⟩ := H1.out.getI hx
      obtain ⟨b2, o2, rfl, e2⟩ := H2.out.getB hu
      have f1 := cell_below hB e1; have f2 := cell_below hB e2
      have i0 : (0 : Int) ≤ (k : Int) := (by omega); have i1 : (k : Int) < (n : Int) := (by omega)
      have IN := fun (W : World) (b : Bool) (h : IsR LI W u (nums l)) (hb : b = true ↔ k ∈ l) => rin_is (x := (k : Int)) (b := b) W h (hb.trans nums_mem.symm)
      clear e1 e2
      go_upto_region 9 with fail
      clear ca za
      by_cases hkl : k ∈ l
      case pos =>
        cases u' with
        | true =>
          have HX := Lib.hid (show (8 : Int) = q from ChkA.uniq (ChkA.bad fun l' hv => by
            obtain rfl := hv.freeL.uniq HR.out
            have := hv.used k (by rw [HN.out]; exact hlt)
            rw [hu] at this
            simp [hkl] at this) HQ.out)
          clear HS hx hu
          have x_a7 := x_a; have hB7 := hB; have hs7 := hs; have K_w1_7 := hB0; clear x_a hB hs hB0
          refine wp_region_held_drew (S := fun W => Box W (w.heap.size) ([.slice (some ⟨b1, o1, none⟩) n c1, .slice (some ⟨b2, o2, none⟩) n c2, .int .i64 A.fr]) ∧ W.cell? ⟨b1, o1 + k, none⟩ = some (.int .i64 x) ∧ W.cell? ⟨b2, o2 + k, none⟩ = some (.bool true)) (by kernel_rfl) (And.intro (x_a7).drew (And.intro f1 f2)) (fun _ => ?_)
          refine F_drew (F := fun W => wpAnyH _ _ _ _ _ _ _ _ W) ?_
          intro Wa0 hba0
          clear hs7
          have x_a_a0 : Box Wa0 (w.heap.size) ([.slice (some ⟨b1, o1, none⟩) n c1, .slice (some ⟨b2, o2, none⟩) n c2, .int .i64 A.fr]) := Box.below x_a7 hba0
          have c_n_a0 := cell_below hba0 f1
          have c_u_a0 := cell_below hba0 f2
          have Ba0 := below_thru hB7 hba0
          have K_w1_a0 := below_thru K_w1_7 hba0
          clear x_a7 f1 f2 hB7 K_w1_7 hba0
          refine takeH 0 39 (v := ?va0_1) rfl (by rfl) (by kernel_rfl) (by kernel_rfl) (by kernel_rfl) (fun _ _ _ h => h) (Or.inl ⟨by rfl, ?_⟩) ((And.intro x_a_a0 (And.intro c_n_a0 c_u_a0))) ?_
          rotate_left
          · intro wq hSq
            go_simp
            exact rfl
          try simp only [Act.put, List.setIfInBounds_toArray, List.set_cons_zero, List.set_cons_succ]
          refine takeH 1 40 (v := ?va1_2) rfl (by rfl) (by kernel_rfl) (by kernel_rfl) (by kernel_rfl) (fun _ _ _ h => h) (Or.inl ⟨by rfl, ?_⟩) ((And.intro x_a_a0 (And.intro c_n_a0 c_u_a0))) ?_
          rotate_left
          · intro wq hSq
            have cq := (hSq.1).c 1 _ rfl
            have zq := lt_of_cell cq
            go_simp
            exact rfl
          try simp only [Act.put, List.setIfInBounds_toArray, List.set_cons_zero, List.set_cons_succ]
          refine takeH 2 41 (v := ?va2_3) rfl (by rfl) (by kernel_rfl) (by kernel_rfl) (by kernel_rfl) (fun _ _ _ h => h) (Or.inl ⟨by rfl, ?_⟩) ((And.intro x_a_a0 (And.intro c_n_a0 c_u_a0))) ?_
          rotate_left
          · intro wq hSq
            go_simp
            exact rfl
          try simp only [Act.put, List.setIfInBounds_toArray, List.set_cons_zero, List.set_cons_succ]
          refine takeH 3 42 (v := ?va3_4) rfl (by rfl) (by kernel_rfl) (by kernel_rfl) (by kernel_rfl) (fun _ _ _ h => h) (Or.inl ⟨by rfl, ?_⟩) ((And.intro x_a_a0 (And.intro c_n_a0 c_u_a0))) ?_
          rotate_left
          · intro wq hSq
            go_simp
            exact rfl
          try simp only [Act.put, List.setIfInBounds_toArray, List.set_cons_zero, List.set_cons_succ]
          refine takeH 4 43 (v := ?va4_5) rfl (by rfl) (by kernel_rfl) (by kernel_rfl) (by kernel_rfl) (fun _ _ _ h => h) (Or.inl ⟨by rfl, ?_⟩) ((And.intro x_a_a0 (And.intro c_n_a0 c_u_a0))) ?_
          rotate_left
          · intro wq hSq
            have cq := hSq.2.2
            have zq := lt_of_cell cq
            go_simp
            exact rfl
          try simp only [Act.put, List.setIfInBounds_toArray, List.set_cons_zero, List.set_cons_succ]
          refine takeH 5 44 (v := ?va5_6) rfl (by rfl) (by kernel_rfl) (by kernel_rfl) (by kernel_rfl) (fun _ _ _ h => h) (Or.inl ⟨by rfl, ?_⟩) ((And.intro x_a_a0 (And.intro c_n_a0 c_u_a0))) ?_
          rotate_left
          · intro wq hSq
            go_simp
            exact rfl
          try simp only [Act.put, List.setIfInBounds_toArray, List.set_cons_zero, List.set_cons_succ]
          refine takeH 6 45 (v := ?va6_7) rfl (by rfl) (by kernel_rfl) (by kernel_rfl) (by kernel_rfl) (fun _ _ _ h => h) (Or.inl ⟨by rfl, ?_⟩) ((And.intro x_a_a0 (And.intro c_n_a0 c_u_a0))) ?_
          rotate_left
          · intro wq hSq
            go_simp
            exact rfl
          try simp only [Act.put, List.setIfInBounds_toArray, List.set_cons_zero, List.set_cons_succ]
          refine wpAnyH_ready (rs := [7]) (by kernel_rfl) (by simp) (AllReadyH.cons rfl (fun K hK => ?_) AllReadyH.nil)
          go_simp
          refine (IN _ true (HI.out.below K_w1_a0) ⟨fun _ => hkl, fun _ => rfl⟩).mono ?_
          rintro e Wa8 ⟨rfl, hba8⟩
          have x_a_a8 : Box Wa8 (w.heap.size) ([.slice (some ⟨b1, o1, none⟩) n c1, .slice (some ⟨b2, o2, none⟩) n c2, .int .i64 A.fr]) := Box.below x_a_a0 hba8
          have c_n_a8 := cell_below hba8 c_n_a0
          have c_u_a8 := cell_below hba8 c_u_a0
          have Ba8 := below_thru Ba0 hba8
          have K_w1_a8 := below_thru K_w1_a0 hba8
          clear x_a_a0 c_n_a0 c_u_a0 Ba0 K_w1_a0 hba8
          refine hK.out _ _ (And.intro x_a_a8 (And.intro c_n_a8 c_u_a8)) (fun _ => ?_); clear hK K
          refine takeH 8 47 (v := ?va8_9) rfl (by rfl) (by kernel_rfl) (by kernel_rfl) (by kernel_rfl) (fun _ _ _ h => h) (Or.inl ⟨by rfl, ?_⟩) ((And.intro x_a_a8 (And.intro c_n_a8 c_u_a8))) ?_
          rotate_left
          · intro wq hSq
            go_simp
            exact rfl
          try simp only [Act.put, List.setIfInBounds_toArray, List.set_cons_zero, List.set_cons_succ]
          refine takeH 9 48 (v := ?va9_10) rfl (by rfl) (by kernel_rfl) (by kernel_rfl) (by kernel_rfl) (fun _ _ _ h => h) (Or.inl ⟨by rfl, ?_⟩) ((And.intro x_a_a8 (And.intro c_n_a8 c_u_a8))) ?_
          rotate_left
          · intro wq hSq
            go_simp
            exact rfl
          try simp only [Act.put, List.setIfInBounds_toArray, List.set_cons_zero, List.set_cons_succ]
          refine takeH 10 49 (v := undef) rfl (by rfl) (by kernel_rfl) (by kernel_rfl) (by kernel_rfl) (fun _ _ _ h => h) (Or.inr ⟨by rfl, rfl⟩) ((And.intro x_a_a8 (And.intro c_n_a8 c_u_a8))) ?_
          try simp only [Act.put, List.setIfInBounds_toArray, List.set_cons_zero, List.set_cons_succ]
          refine takeH 11 50 (v := undef) rfl (by rfl) (by kernel_rfl) (by kernel_rfl) (by kernel_rfl) (fun _ _ _ h => h) (Or.inr ⟨by rfl, rfl⟩) ((And.intro x_a_a8 (And.intro c_n_a8 c_u_a8))) ?_
          try simp only [Act.put, List.setIfInBounds_toArray, List.set_cons_zero, List.set_cons_succ]
          refine takeH 12 51 (v := undef) rfl (by rfl) (by kernel_rfl) (by kernel_rfl) (by kernel_rfl) (fun _ _ _ h => h) (Or.inr ⟨by rfl, rfl⟩) ((And.intro x_a_a8 (And.intro c_n_a8 c_u_a8))) ?_
          try simp only [Act.put, List.setIfInBounds_toArray, List.set_cons_zero, List.set_cons_succ]
          refine takeH 13 52 (v := undef) rfl (by rfl) (by kernel_rfl) (by kernel_rfl) (by kernel_rfl) (fun _ _ _ h => h) (Or.inr ⟨by rfl, rfl⟩) ((And.intro x_a_a8 (And.intro c_n_a8 c_u_a8))) ?_
          try simp only [Act.put, List.setIfInBounds_toArray, List.set_cons_zero, List.set_cons_succ]
          refine takeH 14 53 (v := undef) rfl (by rfl) (by kernel_rfl) (by kernel_rfl) (by kernel_rfl) (fun _ _ _ h => h) (Or.inr ⟨by rfl, rfl⟩) ((And.intro x_a_a8 (And.intro c_n_a8 c_u_a8))) ?_
          try simp only [Act.put, List.setIfInBounds_toArray, List.set_cons_zero, List.set_cons_succ]
          refine takeH 15 54 (v := undef) rfl (by rfl) (by kernel_rfl) (by kernel_rfl) (by kernel_rfl) (fun _ _ _ h => h) (Or.inr ⟨by rfl, rfl⟩) ((And.intro x_a_a8 (And.intro c_n_a8 c_u_a8))) ?_
          try simp only [Act.put, List.setIfInBounds_toArray, List.set_cons_zero, List.set_cons_succ]
          refine takeH 16 55 (v := undef) rfl (by rfl) (by kernel_rfl) (by kernel_rfl) (by kernel_rfl) (fun _ _ _ h => h) (Or.inr ⟨by rfl, rfl⟩) ((And.intro x_a_a8 (And.intro c_n_a8 c_u_a8))) ?_
          try simp only [Act.put, List.setIfInBounds_toArray, List.set_cons_zero, List.set_cons_succ]
          refine takeH 17 56 (v := undef) rfl (by rfl) (by kernel_rfl) (by kernel_rfl) (by kernel_rfl) (fun _ _ _ h => h) (Or.inr ⟨by rfl, rfl⟩) ((And.intro x_a_a8 (And.intro c_n_a8 c_u_a8))) ?_
          try simp only [Act.put, List.setIfInBounds_toArray, List.set_cons_zero, List.set_cons_succ]
          refine takeH 18 57 (v := undef) rfl (by rfl) (by kernel_rfl) (by kernel_rfl) (by kernel_rfl) (fun _ _ _ h => h) (Or.inr ⟨by rfl, rfl⟩) ((And.intro x_a_a8 (And.intro c_n_a8 c_u_a8))) ?_
          try simp only [Act.put, List.setIfInBounds_toArray, List.set_cons_zero, List.set_cons_succ]
          refine takeH 19 58 (v := undef) rfl (by rfl) (by kernel_rfl) (by kernel_rfl) (by kernel_rfl) (fun _ _ _ h => h) (Or.inr ⟨by rfl, rfl⟩) ((And.intro x_a_a8 (And.intro c_n_a8 c_u_a8))) ?_
          try simp only [Act.put, List.setIfInBounds_toArray, List.set_cons_zero, List.set_cons_succ]
          refine takeH 20 59 (v := undef) rfl (by rfl) (by kernel_rfl) (by kernel_rfl) (by kernel_rfl) (fun _ _ _ h => h) (Or.inr ⟨by rfl, rfl⟩) ((And.intro x_a_a8 (And.intro c_n_a8 c_u_a8))) ?_
          try simp only [Act.put, List.setIfInBounds_toArray, List.set_cons_zero, List.set_cons_succ]
          refine takeH 21 60 (v := undef) rfl (by rfl) (by kernel_rfl) (by kernel_rfl) (by kernel_rfl) (fun _ _ _ h => h) (Or.inr ⟨by rfl, rfl⟩) ((And.intro x_a_a8 (And.intro c_n_a8 c_u_a8))) ?_
          try simp only [Act.put, List.setIfInBounds_toArray, List.set_cons_zero, List.set_cons_succ]
          refine takeH 22 61 (v := undef) rfl (by rfl) (by kernel_rfl) (by kernel_rfl) (by kernel_rfl) (fun _ _ _ h => h) (Or.inr ⟨by rfl, rfl⟩) ((And.intro x_a_a8 (And.intro c_n_a8 c_u_a8))) ?_
          try simp only [Act.put, List.setIfInBounds_toArray, List.set_cons_zero, List.set_cons_succ]
          refine takeH 23 62 (v := ?va23_11) rfl (by rfl) (by kernel_rfl) (by kernel_rfl) (by kernel_rfl) (fun _ _ _ h => h) (Or.inl ⟨by rfl, ?_⟩) ((And.intro x_a_a8 (And.intro c_n_a8 c_u_a8))) ?_
          rotate_left
          · intro wq hSq
            go_simp
            exact rfl
          try simp only [Act.put, List.setIfInBounds_toArray, List.set_cons_zero, List.set_cons_succ]
          refine wpAnyH_done (by kernel_rfl) ?_ _
          go_wp2_with fail
          go_returns
          exact ⟨ret_i12 HX.out, Ba8⟩
        | false =>
          have HS2 := Lib.hid (HS.out.succ (by rw [hu]; simp [hkl]) (fun h => absurd hkl h))
          clear HS hx hu
          have x_a7 := x_a; have hB7 := hB; have hs7 := hs; have K_w1_7 := hB0; clear x_a hB hs hB0
          refine wp_region_held_drew (S := fun W => Box W (w.heap.size) ([.slice (some ⟨b1, o1, none⟩) n c1, .slice (some ⟨b2, o2, none⟩) n c2, .int .i64 A.fr]) ∧ W.cell? ⟨b1, o1 + k, none⟩ = some (.int .i64 x) ∧ W.cell? ⟨b2, o2 + k, none⟩ = some (.bool false)) (by kernel_rfl) (And.intro (x_a7).drew (And.intro f1 f2)) (fun _ => ?_)
          refine F_drew (F := fun W => wpAnyH _ _ _ _ _ _ _ _ W) ?_
          intro Wb0 hbb0
          clear hs7
          have x_a_b0 : Box Wb0 (w.heap.size) ([.slice (some ⟨b1, o1, none⟩) n c1, .slice (some ⟨b2, o2, none⟩) n c2, .int .i64 A.fr]) := Box.below x_a7 hbb0
          have c_n_b0 := cell_below hbb0 f1
          have c_u_b0 := cell_below hbb0 f2
          have Bb0 := below_thru hB7 hbb0
          have K_w1_b0 := below_thru K_w1_7 hbb0
          clear x_a7 f1 f2 hB7 K_w1_7 hbb0
          refine takeH 0 39 (v := ?vb0_1) rfl (by rfl) (by kernel_rfl) (by kernel_rfl) (by kernel_rfl) (fun _ _ _ h => h) (Or.inl ⟨by rfl, ?_⟩) ((And.intro x_a_b0 (And.intro c_n_b0 c_u_b0))) ?_
          rotate_left
          · intro wq hSq
            go_simp
            exact rfl
          try simp only [Act.put, List.setIfInBounds_toArray, List.set_cons_zero, List.set_cons_succ]
          refine takeH 1 40 (v := ?vb1_2) rfl (by rfl) (by kernel_rfl) (by kernel_rfl) (by kernel_rfl) (fun _ _ _ h => h) (Or.inl ⟨by rfl, ?_⟩) ((And.intro x_a_b0 (And.intro c_n_b0 c_u_b0))) ?_
          rotate_left
          · intro wq hSq
            have cq := (hSq.1).c 1 _ rfl
            have zq := lt_of_cell cq
            go_simp
            exact rfl
          try simp only [Act.put, List.setIfInBounds_toArray, List.set_cons_zero, List.set_cons_succ]
          refine takeH 2 41 (v := ?vb2_3) rfl (by rfl) (by kernel_rfl) (by kernel_rfl) (by kernel_rfl) (fun _ _ _ h => h) (Or.inl ⟨by rfl, ?_⟩) ((And.intro x_a_b0 (And.intro c_n_b0 c_u_b0))) ?_
          rotate_left
          · intro wq hSq
            go_simp
            exact rfl
          try simp only [Act.put, List.setIfInBounds_toArray, List.set_cons_zero, List.set_cons_succ]
          refine takeH 3 42 (v := ?vb3_4) rfl (by rfl) (by kernel_rfl) (by kernel_rfl) (by kernel_rfl) (fun _ _ _ h => h) (Or.inl ⟨by rfl, ?_⟩) ((And.intro x_a_b0 (And.intro c_n_b0 c_u_b0))) ?_
          rotate_left
          · intro wq hSq
            go_simp
            exact rfl
          try simp only [Act.put, List.setIfInBounds_toArray, List.set_cons_zero, List.set_cons_succ]
          refine takeH 4 43 (v := ?vb4_5) rfl (by rfl) (by kernel_rfl) (by kernel_rfl) (by kernel_rfl) (fun _ _ _ h => h) (Or.inl ⟨by rfl, ?_⟩) ((And.intro x_a_b0 (And.intro c_n_b0 c_u_b0))) ?_
          rotate_left
          · intro wq hSq
            have cq := hSq.2.2
            have zq := lt_of_cell cq
            go_simp
            exact rfl
          try simp only [Act.put, List.setIfInBounds_toArray, List.set_cons_zero, List.set_cons_succ]
          refine takeH 5 44 (v := ?vb5_6) rfl (by rfl) (by kernel_rfl) (by kernel_rfl) (by kernel_rfl) (fun _ _ _ h => h) (Or.inl ⟨by rfl, ?_⟩) ((And.intro x_a_b0 (And.intro c_n_b0 c_u_b0))) ?_
          rotate_left
          · intro wq hSq
            go_simp
            exact rfl
          try simp only [Act.put, List.setIfInBounds_toArray, List.set_cons_zero, List.set_cons_succ]
          refine takeH 6 45 (v := ?vb6_7) rfl (by rfl) (by kernel_rfl) (by kernel_rfl) (by kernel_rfl) (fun _ _ _ h => h) (Or.inl ⟨by rfl, ?_⟩) ((And.intro x_a_b0 (And.intro c_n_b0 c_u_b0))) ?_
          rotate_left
          · intro wq hSq
            go_simp
            exact rfl
          try simp only [Act.put, List.setIfInBounds_toArray, List.set_cons_zero, List.set_cons_succ]
          refine wpAnyH_ready (rs := [7]) (by kernel_rfl) (by simp) (AllReadyH.cons rfl (fun K hK => ?_) AllReadyH.nil)
          go_simp
          refine (IN _ true (HI.out.below K_w1_b0) ⟨fun _ => hkl, fun _ => rfl⟩).mono ?_
          rintro e Wb8 ⟨rfl, hbb8⟩
          have x_a_b8 : Box Wb8 (w.heap.size) ([.slice (some ⟨b1, o1, none⟩) n c1, .slice (some ⟨b2, o2, none⟩) n c2, .int .i64 A.fr]) := Box.below x_a_b0 hbb8
          have c_n_b8 := cell_below hbb8 c_n_b0
          have c_u_b8 := cell_below hbb8 c_u_b0
          have Bb8 := below_thru Bb0 hbb8
          have K_w1_b8 := below_thru K_w1_b0 hbb8
          clear x_a_b0 c_n_b0 c_u_b0 Bb0 K_w1_b0 hbb8
          refine hK.out _ _ (And.intro x_a_b8 (And.intro c_n_b8 c_u_b8)) (fun _ => ?_); clear hK K
          refine takeH 8 47 (v := ?vb8_9) rfl (by rfl) (by kernel_rfl) (by kernel_rfl) (by kernel_rfl) (fun _ _ _ h => h) (Or.inl ⟨by rfl, ?_⟩) ((And.intro x_a_b8 (And.intro c_n_b8 c_u_b8))) ?_
          rotate_left
          · intro wq hSq
            go_simp
            exact rfl
          try simp only [Act.put, List.setIfInBounds_toArray, List.set_cons_zero, List.set_cons_succ]
          refine takeH 9 48 (v := ?vb9_10) rfl (by rfl) (by kernel_rfl) (by kernel_rfl) (by kernel_rfl) (fun _ _ _ h => h) (Or.inl ⟨by rfl, ?_⟩) ((And.intro x_a_b8 (And.intro c_n_b8 c_u_b8))) ?_
          rotate_left
          · intro wq hSq
            go_simp
            exact rfl
          try simp only [Act.put, List.setIfInBounds_toArray, List.set_cons_zero, List.set_cons_succ]
          refine takeH 10 49 (v := ?vb10_11) rfl (by rfl) (by kernel_rfl) (by kernel_rfl) (by kernel_rfl) (fun _ _ _ h => h) (Or.inl ⟨by rfl, ?_⟩) ((And.intro x_a_b8 (And.intro c_n_b8 c_u_b8))) ?_
          rotate_left
          · intro wq hSq
            go_simp
            exact rfl
          try simp only [Act.put, List.setIfInBounds_toArray, List.set_cons_zero, List.set_cons_succ]
          refine takeH 11 50 (v := ?vb11_12) rfl (by rfl) (by kernel_rfl) (by kernel_rfl) (by kernel_rfl) (fun _ _ _ h => h) (Or.inl ⟨by rfl, ?_⟩) ((And.intro x_a_b8 (And.intro c_n_b8 c_u_b8))) ?_
          rotate_left
          · intro wq hSq
            have cq := (hSq.1).c 1 _ rfl
            have zq := lt_of_cell cq
            go_simp
            exact rfl
          try simp only [Act.put, List.setIfInBounds_toArray, List.set_cons_zero, List.set_cons_succ]
          refine takeH 12 51 (v := ?vb12_13) rfl (by rfl) (by kernel_rfl) (by kernel_rfl) (by kernel_rfl) (fun _ _ _ h => h) (Or.inl ⟨by rfl, ?_⟩) ((And.intro x_a_b8 (And.intro c_n_b8 c_u_b8))) ?_
          rotate_left
          · intro wq hSq
            go_simp
            exact rfl
          try simp only [Act.put, List.setIfInBounds_toArray, List.set_cons_zero, List.set_cons_succ]
          refine takeH 13 52 (v := ?vb13_14) rfl (by rfl) (by kernel_rfl) (by kernel_rfl) (by kernel_rfl) (fun _ _ _ h => h) (Or.inl ⟨by rfl, ?_⟩) ((And.intro x_a_b8 (And.intro c_n_b8 c_u_b8))) ?_
          rotate_left
          · intro wq hSq
            go_simp
            exact rfl
          try simp only [Act.put, List.setIfInBounds_toArray, List.set_cons_zero, List.set_cons_succ]
          refine takeH 14 53 (v := ?vb14_15) rfl (by rfl) (by kernel_rfl) (by kernel_rfl) (by kernel_rfl) (fun _ _ _ h => h) (Or.inl ⟨by rfl, ?_⟩) ((And.intro x_a_b8 (And.intro c_n_b8 c_u_b8))) ?_
          rotate_left
          · intro wq hSq
            have cq := hSq.2.2
            have zq := lt_of_cell cq
            go_simp
            exact rfl
          try simp only [Act.put, List.setIfInBounds_toArray, List.set_cons_zero, List.set_cons_succ]
          refine takeH 15 54 (v := ?vb15_16) rfl (by rfl) (by kernel_rfl) (by kernel_rfl) (by kernel_rfl) (fun _ _ _ h => h) (Or.inl ⟨by rfl, ?_⟩) ((And.intro x_a_b8 (And.intro c_n_b8 c_u_b8))) ?_
          rotate_left
          · intro wq hSq
            go_simp
            exact rfl
          try simp only [Act.put, List.setIfInBounds_toArray, List.set_cons_zero, List.set_cons_succ]
          refine takeH 16 55 (v := undef) rfl (by rfl) (by kernel_rfl) (by kernel_rfl) (by kernel_rfl) (fun _ _ _ h => h) (Or.inr ⟨by rfl, rfl⟩) ((And.intro x_a_b8 (And.intro c_n_b8 c_u_b8))) ?_
          try simp only [Act.put, List.setIfInBounds_toArray, List.set_cons_zero, List.set_cons_succ]
          refine takeH 17 56 (v := undef) rfl (by rfl) (by kernel_rfl) (by kernel_rfl) (by kernel_rfl) (fun _ _ _ h => h) (Or.inr ⟨by rfl, rfl⟩) ((And.intro x_a_b8 (And.intro c_n_b8 c_u_b8))) ?_
          try simp only [Act.put, List.setIfInBounds_toArray, List.set_cons_zero, List.set_cons_succ]
          refine takeH 18 57 (v := undef) rfl (by rfl) (by kernel_rfl) (by kernel_rfl) (by kernel_rfl) (fun _ _ _ h => h) (Or.inr ⟨by rfl, rfl⟩) ((And.intro x_a_b8 (And.intro c_n_b8 c_u_b8))) ?_
          try simp only [Act.put, List.setIfInBounds_toArray, List.set_cons_zero, List.set_cons_succ]
          refine takeH 19 58 (v := undef) rfl (by rfl) (by kernel_rfl) (by kernel_rfl) (by kernel_rfl) (fun _ _ _ h => h) (Or.inr ⟨by rfl, rfl⟩) ((And.intro x_a_b8 (And.intro c_n_b8 c_u_b8))) ?_
          try simp only [Act.put, List.setIfInBounds_toArray, List.set_cons_zero, List.set_cons_succ]
          refine takeH 20 59 (v := undef) rfl (by rfl) (by kernel_rfl) (by kernel_rfl) (by kernel_rfl) (fun _ _ _ h => h) (Or.inr ⟨by rfl, rfl⟩) ((And.intro x_a_b8 (And.intro c_n_b8 c_u_b8))) ?_
          try simp only [Act.put, List.setIfInBounds_toArray, List.set_cons_zero, List.set_cons_succ]
          refine takeH 21 60 (v := undef) rfl (by rfl) (by kernel_rfl) (by kernel_rfl) (by kernel_rfl) (fun _ _ _ h => h) (Or.inr ⟨by rfl, rfl⟩) ((And.intro x_a_b8 (And.intro c_n_b8 c_u_b8))) ?_
          try simp only [Act.put, List.setIfInBounds_toArray, List.set_cons_zero, List.set_cons_succ]
          refine takeH 22 61 (v := ?vb22_17) rfl (by rfl) (by kernel_rfl) (by kernel_rfl) (by kernel_rfl) (fun _ _ _ h => h) (Or.inl ⟨by rfl, ?_⟩) ((And.intro x_a_b8 (And.intro c_n_b8 c_u_b8))) ?_
          rotate_left
          · intro wq hSq
            go_simp
            exact rfl
          try simp only [Act.put, List.setIfInBounds_toArray, List.set_cons_zero, List.set_cons_succ]
          refine takeH 23 62 (v := ?vb23_18) rfl (by rfl) (by kernel_rfl) (by kernel_rfl) (by kernel_rfl) (fun _ _ _ h => h) (Or.inl ⟨by rfl, ?_⟩) ((And.intro x_a_b8 (And.intro c_n_b8 c_u_b8))) ?_
          rotate_left
          · intro wq hSq
            go_simp
            exact rfl
          try simp only [Act.put, List.setIfInBounds_toArray, List.set_cons_zero, List.set_cons_succ]
          refine wpAnyH_done (by kernel_rfl) ?_ _
          go_wp2_with fail
          go_roundw
          case rel => exact ⟨k + 1, by omega, by go_num, HS2, x_a_b8, K_w1_b8, Bb8⟩
          case measure => simp [intOf]; omega
      case neg =>
        cases u' with
        | false =>
          have HX := Lib.hid (show (8 : Int) = q from ChkA.uniq (ChkA.bad fun l' hv => by
            obtain rfl := hv.freeL.uniq HR.out
            have := hv.used k (by rw [HN.out]; exact hlt)
            rw [hu] at this
            simp [hkl] at this) HQ.out)
          clear HS hx hu
          have x_a7 := x_a; have hB7 := hB; have hs7 := hs; have K_w1_7 := hB0; clear x_a hB hs hB0
          refine wp_region_held_drew (S := fun W => Box W (w.heap.size) ([.slice (some ⟨b1, o1, none⟩) n c1, .slice (some ⟨b2, o2, none⟩) n c2, .int .i64 A.fr]) ∧ W.cell? ⟨b1, o1 + k, none⟩ = some (.int .i64 x) ∧ W.cell? ⟨b2, o2 + k, none⟩ = some (.bool false)) (by kernel_rfl) (And.intro (x_a7).drew (And.intro f1 f2)) (fun _ => ?_)
          refine F_drew (F := fun W => wpAnyH _ _ _ _ _ _ _ _ W) ?_
          intro Wc0 hbc0
          clear hs7
          have x_a_c0 : Box Wc0 (w.heap.size) ([.slice (some ⟨b1, o1, none⟩) n c1, .slice (some ⟨b2, o2, none⟩) n c2, .int .i64 A.fr]) := Box.below x_a7 hbc0
          have c_n_c0 := cell_below hbc0 f1
          have c_u_c0 := cell_below hbc0 f2
          have Bc0 := below_thru hB7 hbc0
          have K_w1_c0 := below_thru K_w1_7 hbc0
          clear x_a7 f1 f2 hB7 K_w1_7 hbc0
          refine takeH 0 39 (v := ?vc0_1) rfl (by rfl) (by kernel_rfl) (by kernel_rfl) (by kernel_rfl) (fun _ _ _ h => h) (Or.inl ⟨by rfl, ?_⟩) ((And.intro x_a_c0 (And.intro c_n_c0 c_u_c0))) ?_
          rotate_left
          · intro wq hSq
            go_simp
            exact rfl
          try simp only [Act.put, List.setIfInBounds_toArray, List.set_cons_zero, List.set_cons_succ]
          refine takeH 1 40 (v := ?vc1_2) rfl (by rfl) (by kernel_rfl) (by kernel_rfl) (by kernel_rfl) (fun _ _ _ h => h) (Or.inl ⟨by rfl, ?_⟩) ((And.intro x_a_c0 (And.intro c_n_c0 c_u_c0))) ?_
          rotate_left
          · intro wq hSq
            have cq := (hSq.1).c 1 _ rfl
            have zq := lt_of_cell cq
            go_simp
            exact rfl
          try simp only [Act.put, List.setIfInBounds_toArray, List.set_cons_zero, List.set_cons_succ]
          refine takeH 2 41 (v := ?vc2_3) rfl (by rfl) (by kernel_rfl) (by kernel_rfl) (by kernel_rfl) (fun _ _ _ h => h) (Or.inl ⟨by rfl, ?_⟩) ((And.intro x_a_c0 (And.intro c_n_c0 c_u_c0))) ?_
          rotate_left
          · intro wq hSq
            go_simp
            exact rfl
          try simp only [Act.put, List.setIfInBounds_toArray, List.set_cons_zero, List.set_cons_succ]
          refine takeH 3 42 (v := ?vc3_4) rfl (by rfl) (by kernel_rfl) (by kernel_rfl) (by kernel_rfl) (fun _ _ _ h => h) (Or.inl ⟨by rfl, ?_⟩) ((And.intro x_a_c0 (And.intro c_n_c0 c_u_c0))) ?_
          rotate_left
          · intro wq hSq
            go_simp
            exact rfl
          try simp only [Act.put, List.setIfInBounds_toArray, List.set_cons_zero, List.set_cons_succ]
          refine takeH 4 43 (v := ?vc4_5) rfl (by rfl) (by kernel_rfl) (by kernel_rfl) (by kernel_rfl) (fun _ _ _ h => h) (Or.inl ⟨by rfl, ?_⟩) ((And.intro x_a_c0 (And.intro c_n_c0 c_u_c0))) ?_
          rotate_left
          · intro wq hSq
            have cq := hSq.2.2
            have zq := lt_of_cell cq
            go_simp
            exact rfl
          try simp only [Act.put, List.setIfInBounds_toArray, List.set_cons_zero, List.set_cons_succ]
          refine takeH 5 44 (v := ?vc5_6) rfl (by rfl) (by kernel_rfl) (by kernel_rfl) (by kernel_rfl) (fun _ _ _ h => h) (Or.inl ⟨by rfl, ?_⟩) ((And.intro x_a_c0 (And.intro c_n_c0 c_u_c0))) ?_
          rotate_left
          · intro wq hSq
            go_simp
            exact rfl
          try simp only [Act.put, List.setIfInBounds_toArray, List.set_cons_zero, List.set_cons_succ]
          refine takeH 6 45 (v := ?vc6_7) rfl (by rfl) (by kernel_rfl) (by kernel_rfl) (by kernel_rfl) (fun _ _ _ h => h) (Or.inl ⟨by rfl, ?_⟩) ((And.intro x_a_c0 (And.intro c_n_c0 c_u_c0))) ?_
          rotate_left
          · intro wq hSq
            go_simp
            exact rfl
          try simp only [Act.put, List.setIfInBounds_toArray, List.set_cons_zero, List.set_cons_succ]
          refine wpAnyH_ready (rs := [7]) (by kernel_rfl) (by simp) (AllReadyH.cons rfl (fun K hK => ?_) AllReadyH.nil)
          go_simp
          refine (IN _ false (HI.out.below K_w1_c0) ⟨fun h => (Bool.false_ne_true h).elim, fun h => absurd h hkl⟩).mono ?_
          rintro e Wc8 ⟨rfl, hbc8⟩
          have x_a_c8 : Box Wc8 (w.heap.size) ([.slice (some ⟨b1, o1, none⟩) n c1, .slice (some ⟨b2, o2, none⟩) n c2, .int .i64 A.fr]) := Box.below x_a_c0 hbc8
          have c_n_c8 := cell_below hbc8 c_n_c0
          have c_u_c8 := cell_below hbc8 c_u_c0
          have Bc8 := below_thru Bc0 hbc8
          have K_w1_c8 := below_thru K_w1_c0 hbc8
          clear x_a_c0 c_n_c0 c_u_c0 Bc0 K_w1_c0 hbc8
          refine hK.out _ _ (And.intro x_a_c8 (And.intro c_n_c8 c_u_c8)) (fun _ => ?_); clear hK K
          refine takeH 8 47 (v := ?vc8_9) rfl (by rfl) (by kernel_rfl) (by kernel_rfl) (by kernel_rfl) (fun _ _ _ h => h) (Or.inl ⟨by rfl, ?_⟩) ((And.intro x_a_c8 (And.intro c_n_c8 c_u_c8))) ?_
          rotate_left
          · intro wq hSq
            go_simp
            exact rfl
          try simp only [Act.put, List.setIfInBounds_toArray, List.set_cons_zero, List.set_cons_succ]
          refine takeH 9 48 (v := ?vc9_10) rfl (by rfl) (by kernel_rfl) (by kernel_rfl) (by kernel_rfl) (fun _ _ _ h => h) (Or.inl ⟨by rfl, ?_⟩) ((And.intro x_a_c8 (And.intro c_n_c8 c_u_c8))) ?_
          rotate_left
          · intro wq hSq
            go_simp
            exact rfl
          try simp only [Act.put, List.setIfInBounds_toArray, List.set_cons_zero, List.set_cons_succ]
          refine takeH 10 49 (v := undef) rfl (by rfl) (by kernel_rfl) (by kernel_rfl) (by kernel_rfl) (fun _ _ _ h => h) (Or.inr ⟨by rfl, rfl⟩) ((And.intro x_a_c8 (And.intro c_n_c8 c_u_c8))) ?_
          try simp only [Act.put, List.setIfInBounds_toArray, List.set_cons_zero, List.set_cons_succ]
          refine takeH 11 50 (v := undef) rfl (by rfl) (by kernel_rfl) (by kernel_rfl) (by kernel_rfl) (fun _ _ _ h => h) (Or.inr ⟨by rfl, rfl⟩) ((And.intro x_a_c8 (And.intro c_n_c8 c_u_c8))) ?_
          try simp only [Act.put, List.setIfInBounds_toArray, List.set_cons_zero, List.set_cons_succ]
          refine takeH 12 51 (v := undef) rfl (by rfl) (by kernel_rfl) (by kernel_rfl) (by kernel_rfl) (fun _ _ _ h => h) (Or.inr ⟨by rfl, rfl⟩) ((And.intro x_a_c8 (And.intro c_n_c8 c_u_c8))) ?_
          try simp only [Act.put, List.setIfInBounds_toArray, List.set_cons_zero, List.set_cons_succ]
          refine takeH 13 52 (v := undef) rfl (by rfl) (by kernel_rfl) (by kernel_rfl) (by kernel_rfl) (fun _ _ _ h => h) (Or.inr ⟨by rfl, rfl⟩) ((And.intro x_a_c8 (And.intro c_n_c8 c_u_c8))) ?_
          try simp only [Act.put, List.setIfInBounds_toArray, List.set_cons_zero, List.set_cons_succ]
          refine takeH 14 53 (v := undef) rfl (by rfl) (by kernel_rfl) (by kernel_rfl) (by kernel_rfl) (fun _ _ _ h => h) (Or.inr ⟨by rfl, rfl⟩) ((And.intro x_a_c8 (And.intro c_n_c8 c_u_c8))) ?_
          try simp only [Act.put, List.setIfInBounds_toArray, List.set_cons_zero, List.set_cons_succ]
          refine takeH 15 54 (v := undef) rfl (by rfl) (by kernel_rfl) (by kernel_rfl) (by kernel_rfl) (fun _ _ _ h => h) (Or.inr ⟨by rfl, rfl⟩) ((And.intro x_a_c8 (And.intro c_n_c8 c_u_c8))) ?_
          try simp only [Act.put, List.setIfInBounds_toArray, List.set_cons_zero, List.set_cons_succ]
          refine takeH 16 55 (v := undef) rfl (by rfl) (by kernel_rfl) (by kernel_rfl) (by kernel_rfl) (fun _ _ _ h => h) (Or.inr ⟨by rfl, rfl⟩) ((And.intro x_a_c8 (And.intro c_n_c8 c_u_c8))) ?_
          try simp only [Act.put, List.setIfInBounds_toArray, List.set_cons_zero, List.set_cons_succ]
          refine takeH 17 56 (v := undef) rfl (by rfl) (by kernel_rfl) (by kernel_rfl) (by kernel_rfl) (fun _ _ _ h => h) (Or.inr ⟨by rfl, rfl⟩) ((And.intro x_a_c8 (And.intro c_n_c8 c_u_c8))) ?_
          try simp only [Act.put, List.setIfInBounds_toArray, List.set_cons_zero, List.set_cons_succ]
          refine takeH 18 57 (v := undef) rfl (by rfl) (by kernel_rfl) (by kernel_rfl) (by kernel_rfl) (fun _ _ _ h => h) (Or.inr ⟨by rfl, rfl⟩) ((And.intro x_a_c8 (And.intro c_n_c8 c_u_c8))) ?_
          try simp only [Act.put, List.setIfInBounds_toArray, List.set_cons_zero, List.set_cons_succ]
          refine takeH 19 58 (v := undef) rfl (by rfl) (by kernel_rfl) (by kernel_rfl) (by kernel_rfl) (fun _ _ _ h => h) (Or.inr ⟨by rfl, rfl⟩) ((And.intro x_a_c8 (And.intro c_n_c8 c_u_c8))) ?_
          try simp only [Act.put, List.setIfInBounds_toArray, List.set_cons_zero, List.set_cons_succ]
          refine takeH 20 59 (v := undef) rfl (by rfl) (by kernel_rfl) (by kernel_rfl) (by kernel_rfl) (fun _ _ _ h => h) (Or.inr ⟨by rfl, rfl⟩) ((And.intro x_a_c8 (And.intro c_n_c8 c_u_c8))) ?_
          try simp only [Act.put, List.setIfInBounds_toArray, List.set_cons_zero, List.set_cons_succ]
          refine takeH 21 60 (v := undef) rfl (by rfl) (by kernel_rfl) (by kernel_rfl) (by kernel_rfl) (fun _ _ _ h => h) (Or.inr ⟨by rfl, rfl⟩) ((And.intro x_a_c8 (And.intro c_n_c8 c_u_c8))) ?_
          try simp only [Act.put, List.setIfInBounds_toArray, List.set_cons_zero, List.set_cons_succ]
          refine takeH 22 61 (v := undef) rfl (by rfl) (by kernel_rfl) (by kernel_rfl) (by kernel_rfl) (fun _ _ _ h => h) (Or.inr ⟨by rfl, rfl⟩) ((And.intro x_a_c8 (And.intro c_n_c8 c_u_c8))) ?_
          try simp only [Act.put, List.setIfInBounds_toArray, List.set_cons_zero, List.set_cons_succ]
          refine takeH 23 62 (v := ?vc23_11) rfl (by rfl) (by kernel_rfl) (by kernel_rfl) (by kernel_rfl) (fun _ _ _ h => h) (Or.inl ⟨by rfl, ?_⟩) ((And.intro x_a_c8 (And.intro c_n_c8 c_u_c8))) ?_
          rotate_left
          · intro wq hSq
            go_simp
            exact rfl
          try simp only [Act.put, List.setIfInBounds_toArray, List.set_cons_zero, List.set_cons_succ]
          refine wpAnyH_done (by kernel_rfl) ?_ _
          go_wp2_with fail
          go_returns
          exact ⟨ret_i12 HX.out, Bc8⟩
        | true =>
          by_cases hx1 : x = -1
          case pos =>
            subst hx1
            have HS2 := Lib.hid (HS.out.succ (by rw [hu]; simp [hkl]) (fun _ => hx))
            clear HS hx hu
            have x_a7 := x_a; have hB7 := hB; have hs7 := hs; have K_w1_7 := hB0; clear x_a hB hs hB0
            refine wp_region_held_drew (S := fun W => Box W (w.heap.size) ([.slice (some ⟨b1, o1, none⟩) n c1, .slice (some ⟨b2, o2, none⟩) n c2, .int .i64 A.fr]) ∧ W.cell? ⟨b1, o1 + k, none⟩ = some (.int .i64 (-1)) ∧ W.cell? ⟨b2, o2 + k, none⟩ = some (.bool true)) (by kernel_rfl) (And.intro (x_a7).drew (And.intro f1 f2)) (fun _ => ?_)
            refine F_drew (F := fun W => wpAnyH _ _ _ _ _ _ _ _ W) ?_
            intro Wd0 hbd0
            clear hs7
            have x_a_d0 : Box Wd0 (w.heap.size) ([.slice (some ⟨b1, o1, none⟩) n c1, .slice (some ⟨b2, o2, none⟩) n c2, .int .i64 A.fr]) := Box.below x_a7 hbd0
            have c_n_d0 := cell_below hbd0 f1
            have c_u_d0 := cell_below hbd0 f2
            have Bd0 := below_thru hB7 hbd0
            have K_w1_d0 := below_thru K_w1_7 hbd0
            clear x_a7 f1 f2 hB7 K_w1_7 hbd0
            refine takeH 0 39 (v := ?vd0_1) rfl (by rfl) (by kernel_rfl) (by kernel_rfl) (by kernel_rfl) (fun _ _ _ h => h) (Or.inl ⟨by rfl, ?_⟩) ((And.intro x_a_d0 (And.intro c_n_d0 c_u_d0))) ?_
            rotate_left
            · intro wq hSq
              go_simp
              exact rfl
            try simp only [Act.put, List.setIfInBounds_toArray, List.set_cons_zero, List.set_cons_succ]
            refine takeH 1 40 (v := ?vd1_2) rfl (by rfl) (by kernel_rfl) (by kernel_rfl) (by kernel_rfl) (fun _ _ _ h => h) (Or.inl ⟨by rfl, ?_⟩) ((And.intro x_a_d0 (And.intro c_n_d0 c_u_d0))) ?_
            rotate_left
            · intro wq hSq
              have cq := (hSq.1).c 1 _ rfl
              have zq := lt_of_cell cq
              go_simp
              exact rfl
            try simp only [Act.put, List.setIfInBounds_toArray, List.set_cons_zero, List.set_cons_succ]
            refine takeH 2 41 (v := ?vd2_3) rfl (by rfl) (by kernel_rfl) (by kernel_rfl) (by kernel_rfl) (fun _ _ _ h => h) (Or.inl ⟨by rfl, ?_⟩) ((And.intro x_a_d0 (And.intro c_n_d0 c_u_d0))) ?_
            rotate_left
            · intro wq hSq
              go_simp
              exact rfl
            try simp only [Act.put, List.setIfInBounds_toArray, List.set_cons_zero, List.set_cons_succ]
            refine takeH 3 42 (v := ?vd3_4) rfl (by rfl) (by kernel_rfl) (by kernel_rfl) (by kernel_rfl) (fun _ _ _ h => h) (Or.inl ⟨by rfl, ?_⟩) ((And.intro x_a_d0 (And.intro c_n_d0 c_u_d0))) ?_
            rotate_left
            · intro wq hSq
              go_simp
              exact rfl
            try simp only [Act.put, List.setIfInBounds_toArray, List.set_cons_zero, List.set_cons_succ]
            refine takeH 4 43 (v := ?vd4_5) rfl (by rfl) (by kernel_rfl) (by kernel_rfl) (by kernel_rfl) (fun _ _ _ h => h) (Or.inl ⟨by rfl, ?_⟩) ((And.intro x_a_d0 (And.intro c_n_d0 c_u_d0))) ?_
            rotate_left
            · intro wq hSq
              have cq := hSq.2.2
              have zq := lt_of_cell cq
              go_simp
              exact rfl
            try simp only [Act.put, List.setIfInBounds_toArray, List.set_cons_zero, List.set_cons_succ]
            refine takeH 5 44 (v := ?vd5_6) rfl (by rfl) (by kernel_rfl) (by kernel_rfl) (by kernel_rfl) (fun _ _ _ h => h) (Or.inl ⟨by rfl, ?_⟩) ((And.intro x_a_d0 (And.intro c_n_d0 c_u_d0))) ?_
            rotate_left
            · intro wq hSq
              go_simp
              exact rfl
            try simp only [Act.put, List.setIfInBounds_toArray, List.set_cons_zero, List.set_cons_succ]
            refine takeH 6 45 (v := ?vd6_7) rfl (by rfl) (by kernel_rfl) (by kernel_rfl) (by kernel_rfl) (fun _ _ _ h => h) (Or.inl ⟨by rfl, ?_⟩) ((And.intro x_a_d0 (And.intro c_n_d0 c_u_d0))) ?_
            rotate_left
            · intro wq hSq
              go_simp
              exact rfl
            try simp only [Act.put, List.setIfInBounds_toArray, List.set_cons_zero, List.set_cons_succ]
            refine wpAnyH_ready (rs := [7]) (by kernel_rfl) (by simp) (AllReadyH.cons rfl (fun K hK => ?_) AllReadyH.nil)
            go_simp
            refine (IN _ false (HI.out.below K_w1_d0) ⟨fun h => (Bool.false_ne_true h).elim, fun h => absurd h hkl⟩).mono ?_
            rintro e Wd8 ⟨rfl, hbd8⟩
            have x_a_d8 : Box Wd8 (w.heap.size) ([.slice (some ⟨b1, o1, none⟩) n c1, .slice (some ⟨b2, o2, none⟩) n c2, .int .i64 A.fr]) := Box.below x_a_d0 hbd8
            have c_n_d8 := cell_below hbd8 c_n_d0
            have c_u_d8 := cell_below hbd8 c_u_d0
            have Bd8 := below_thru Bd0 hbd8
            have K_w1_d8 := below_thru K_w1_d0 hbd8
            clear x_a_d0 c_n_d0 c_u_d0 Bd0 K_w1_d0 hbd8
            refine hK.out _ _ (And.intro x_a_d8 (And.intro c_n_d8 c_u_d8)) (fun _ => ?_); clear hK K
            refine takeH 8 47 (v := ?vd8_9) rfl (by rfl) (by kernel_rfl) (by kernel_rfl) (by kernel_rfl) (fun _ _ _ h => h) (Or.inl ⟨by rfl, ?_⟩) ((And.intro x_a_d8 (And.intro c_n_d8 c_u_d8))) ?_
            rotate_left
            · intro wq hSq
              go_simp
              exact rfl
            try simp only [Act.put, List.setIfInBounds_toArray, List.set_cons_zero, List.set_cons_succ]
            refine takeH 9 48 (v := ?vd9_10) rfl (by rfl) (by kernel_rfl) (by kernel_rfl) (by kernel_rfl) (fun _ _ _ h => h) (Or.inl ⟨by rfl, ?_⟩) ((And.intro x_a_d8 (And.intro c_n_d8 c_u_d8))) ?_
            rotate_left
            · intro wq hSq
              go_simp
              exact rfl
            try simp only [Act.put, List.setIfInBounds_toArray, List.set_cons_zero, List.set_cons_succ]
            refine takeH 10 49 (v := ?vd10_11) rfl (by rfl) (by kernel_rfl) (by kernel_rfl) (by kernel_rfl) (fun _ _ _ h => h) (Or.inl ⟨by rfl, ?_⟩) ((And.intro x_a_d8 (And.intro c_n_d8 c_u_d8))) ?_
            rotate_left
            · intro wq hSq
              go_simp
              exact rfl
            try simp only [Act.put, List.setIfInBounds_toArray, List.set_cons_zero, List.set_cons_succ]
            refine takeH 11 50 (v := ?vd11_12) rfl (by rfl) (by kernel_rfl) (by kernel_rfl) (by kernel_rfl) (fun _ _ _ h => h) (Or.inl ⟨by rfl, ?_⟩) ((And.intro x_a_d8 (And.intro c_n_d8 c_u_d8))) ?_
            rotate_left
            · intro wq hSq
              have cq := (hSq.1).c 1 _ rfl
              have zq := lt_of_cell cq
              go_simp
              exact rfl
            try simp only [Act.put, List.setIfInBounds_toArray, List.set_cons_zero, List.set_cons_succ]
            refine takeH 12 51 (v := ?vd12_13) rfl (by rfl) (by kernel_rfl) (by kernel_rfl) (by kernel_rfl) (fun _ _ _ h => h) (Or.inl ⟨by rfl, ?_⟩) ((And.intro x_a_d8 (And.intro c_n_d8 c_u_d8))) ?_
            rotate_left
            · intro wq hSq
              go_simp
              exact rfl
            try simp only [Act.put, List.setIfInBounds_toArray, List.set_cons_zero, List.set_cons_succ]
            refine takeH 13 52 (v := ?vd13_14) rfl (by rfl) (by kernel_rfl) (by kernel_rfl) (by kernel_rfl) (fun _ _ _ h => h) (Or.inl ⟨by rfl, ?_⟩) ((And.intro x_a_d8 (And.intro c_n_d8 c_u_d8))) ?_
            rotate_left
            · intro wq hSq
              go_simp
              exact rfl
            try simp only [Act.put, List.setIfInBounds_toArray, List.set_cons_zero, List.set_cons_succ]
            refine takeH 14 53 (v := ?vd14_15) rfl (by rfl) (by kernel_rfl) (by kernel_rfl) (by kernel_rfl) (fun _ _ _ h => h) (Or.inl ⟨by rfl, ?_⟩) ((And.intro x_a_d8 (And.intro c_n_d8 c_u_d8))) ?_
            rotate_left
            · intro wq hSq
              have cq := hSq.2.2
              have zq := lt_of_cell cq
              go_simp
              exact rfl
            try simp only [Act.put, List.setIfInBounds_toArray, List.set_cons_zero, List.set_cons_succ]
            refine takeH 15 54 (v := ?vd15_16) rfl (by rfl) (by kernel_rfl) (by kernel_rfl) (by kernel_rfl) (fun _ _ _ h => h) (Or.inl ⟨by rfl, ?_⟩) ((And.intro x_a_d8 (And.intro c_n_d8 c_u_d8))) ?_
            rotate_left
            · intro wq hSq
              go_simp
              exact rfl
            try simp only [Act.put, List.setIfInBounds_toArray, List.set_cons_zero, List.set_cons_succ]
            refine takeH 16 55 (v := ?vd16_17) rfl (by rfl) (by kernel_rfl) (by kernel_rfl) (by kernel_rfl) (fun _ _ _ h => h) (Or.inl ⟨by rfl, ?_⟩) ((And.intro x_a_d8 (And.intro c_n_d8 c_u_d8))) ?_
            rotate_left
            · intro wq hSq
              go_simp
              exact rfl
            try simp only [Act.put, List.setIfInBounds_toArray, List.set_cons_zero, List.set_cons_succ]
            refine takeH 17 56 (v := ?vd17_18) rfl (by rfl) (by kernel_rfl) (by kernel_rfl) (by kernel_rfl) (fun _ _ _ h => h) (Or.inl ⟨by rfl, ?_⟩) ((And.intro x_a_d8 (And.intro c_n_d8 c_u_d8))) ?_
            rotate_left
            · intro wq hSq
              have cq := (hSq.1).c 0 _ rfl
              have zq := lt_of_cell cq
              go_simp
              exact rfl
            try simp only [Act.put, List.setIfInBounds_toArray, List.set_cons_zero, List.set_cons_succ]
            refine takeH 18 57 (v := ?vd18_19) rfl (by rfl) (by kernel_rfl) (by kernel_rfl) (by kernel_rfl) (fun _ _ _ h => h) (Or.inl ⟨by rfl, ?_⟩) ((And.intro x_a_d8 (And.intro c_n_d8 c_u_d8))) ?_
            rotate_left
            · intro wq hSq
              go_simp
              exact rfl
            try simp only [Act.put, List.setIfInBounds_toArray, List.set_cons_zero, List.set_cons_succ]
            refine takeH 19 58 (v := ?vd19_20) rfl (by rfl) (by kernel_rfl) (by kernel_rfl) (by kernel_rfl) (fun _ _ _ h => h) (Or.inl ⟨by rfl, ?_⟩) ((And.intro x_a_d8 (And.intro c_n_d8 c_u_d8))) ?_
            rotate_left
            · intro wq hSq
              go_simp
              exact rfl
            try simp only [Act.put, List.setIfInBounds_toArray, List.set_cons_zero, List.set_cons_succ]
            refine takeH 20 59 (v := ?vd20_21) rfl (by rfl) (by kernel_rfl) (by kernel_rfl) (by kernel_rfl) (fun _ _ _ h => h) (Or.inl ⟨by rfl, ?_⟩) ((And.intro x_a_d8 (And.intro c_n_d8 c_u_d8))) ?_
            rotate_left
            · intro wq hSq
              have cq := hSq.2.1
              have zq := lt_of_cell cq
              go_simp
              exact rfl
            try simp only [Act.put, List.setIfInBounds_toArray, List.set_cons_zero, List.set_cons_succ]
            refine takeH 21 60 (v := ?vd21_22) rfl (by rfl) (by kernel_rfl) (by kernel_rfl) (by kernel_rfl) (fun _ _ _ h => h) (Or.inl ⟨by rfl, ?_⟩) ((And.intro x_a_d8 (And.intro c_n_d8 c_u_d8))) ?_
            rotate_left
            · intro wq hSq
              go_simp
              exact rfl
            try simp only [Act.put, List.setIfInBounds_toArray, List.set_cons_zero, List.set_cons_succ]
            refine takeH 22 61 (v := ?vd22_23) rfl (by rfl) (by kernel_rfl) (by kernel_rfl) (by kernel_rfl) (fun _ _ _ h => h) (Or.inl ⟨by rfl, ?_⟩) ((And.intro x_a_d8 (And.intro c_n_d8 c_u_d8))) ?_
            rotate_left
            · intro wq hSq
              go_simp
              exact rfl
            try simp only [Act.put, List.setIfInBounds_toArray, List.set_cons_zero, List.set_cons_succ]
            refine takeH 23 62 (v := ?vd23_24) rfl (by rfl) (by kernel_rfl) (by kernel_rfl) (by kernel_rfl) (fun _ _ _ h => h) (Or.inl ⟨by rfl, ?_⟩) ((And.intro x_a_d8 (And.intro c_n_d8 c_u_d8))) ?_
            rotate_left
            · intro wq hSq
              go_simp
              exact rfl
            try simp only [Act.put, List.setIfInBounds_toArray, List.set_cons_zero, List.set_cons_succ]
            refine wpAnyH_done (by kernel_rfl) ?_ _
            go_wp2_with fail
            go_roundw
            case rel => exact ⟨k + 1, by omega, by go_num, HS2, x_a_d8, K_w1_d8, Bd8⟩
            case measure => simp [intOf]; omega
          case neg =>
            have d2 : (x != -1) = true := by rw [bne_iff_ne]; exact hx1
            have HX := Lib.hid (show (8 : Int) = q from ChkA.uniq (ChkA.bad fun l' hv => by
              obtain rfl := hv.freeL.uniq HR.out
              have := hv.next k (by rw [HN.out]; exact hlt) hkl
              rw [hx] at this
              exact hx1 (by simpa using this)) HQ.out)
            clear HS hx hu hx1
            have x_a7 := x_a; have hB7 := hB; have hs7 := hs; have K_w1_7 := hB0; clear x_a hB hs hB0
            refine wp_region_held_drew (S := fun W => Box W (w.heap.size) ([.slice (some ⟨b1, o1, none⟩) n c1, .slice (some ⟨b2, o2, none⟩) n c2, .int .i64 A.fr]) ∧ W.cell? ⟨b1, o1 + k, none⟩ = some (.int .i64 x) ∧ W.cell? ⟨b2, o2 + k, none⟩ = some (.bool true)) (by kernel_rfl) (And.intro (x_a7).drew (And.intro f1 f2)) (fun _ => ?_)
            refine F_drew (F := fun W => wpAnyH _ _ _ _ _ _ _ _ W) ?_
            intro We0 hbe0
            clear hs7
            have x_a_e0 : Box We0 (w.heap.size) ([.slice (some ⟨b1, o1, none⟩) n c1, .slice (some ⟨b2, o2, none⟩) n c2, .int .i64 A.fr]) := Box.below x_a7 hbe0
            have c_n_e0 := cell_below hbe0 f1
            have c_u_e0 := cell_below hbe0 f2
            have Be0 := below_thru hB7 hbe0
            have K_w1_e0 := below_thru K_w1_7 hbe0
            clear x_a7 f1 f2 hB7 K_w1_7 hbe0
            refine takeH 0 39 (v := ?ve0_1) rfl (by rfl) (by kernel_rfl) (by kernel_rfl) (by kernel_rfl) (fun _ _ _ h => h) (Or.inl ⟨by rfl, ?_⟩) ((And.intro x_a_e0 (And.intro c_n_e0 c_u_e0))) ?_
            rotate_left
            · intro wq hSq
              go_simp
              exact rfl
            try simp only [Act.put, List.setIfInBounds_toArray, List.set_cons_zero, List.set_cons_succ]
            refine takeH 1 40 (v := ?ve1_2) rfl (by rfl) (by kernel_rfl) (by kernel_rfl) (by kernel_rfl) (fun _ _ _ h => h) (Or.inl ⟨by rfl, ?_⟩) ((And.intro x_a_e0 (And.intro c_n_e0 c_u_e0))) ?_
            rotate_left
            · intro wq hSq
              have cq := (hSq.1).c 1 _ rfl
              have zq := lt_of_cell cq
              go_simp
              exact rfl
            try simp only [Act.put, List.setIfInBounds_toArray, List.set_cons_zero, List.set_cons_succ]
            refine takeH 2 41 (v := ?ve2_3) rfl (by rfl) (by kernel_rfl) (by kernel_rfl) (by kernel_rfl) (fun _ _ _ h => h) (Or.inl ⟨by rfl, ?_⟩) ((And.intro x_a_e0 (And.intro c_n_e0 c_u_e0))) ?_
            rotate_left
            · intro wq hSq
              go_simp
              exact rfl
            try simp only [Act.put, List.setIfInBounds_toArray, List.set_cons_zero, List.set_cons_succ]
            refine takeH 3 42 (v := ?ve3_4) rfl (by rfl) (by kernel_rfl) (by kernel_rfl) (by kernel_rfl) (fun _ _ _ h => h) (Or.inl ⟨by rfl, ?_⟩) ((And.intro x_a_e0 (And.intro c_n_e0 c_u_e0))) ?_
            rotate_left
            · intro wq hSq
              go_simp
              exact rfl
            try simp only [Act.put, List.setIfInBounds_toArray, List.set_cons_zero, List.set_cons_succ]
            refine takeH 4 43 (v := ?ve4_5) rfl (by rfl) (by kernel_rfl) (by kernel_rfl) (by kernel_rfl) (fun _ _ _ h => h) (Or.inl ⟨by rfl, ?_⟩) ((And.intro x_a_e0 (And.intro c_n_e0 c_u_e0))) ?_
            rotate_left
            · intro wq hSq
              have cq := hSq.2.2
              have zq := lt_of_cell cq
              go_simp
              exact rfl
            try simp only [Act.put, List.setIfInBounds_toArray, List.set_cons_zero, List.set_cons_succ]
            refine takeH 5 44 (v := ?ve5_6) rfl (by rfl) (by kernel_rfl) (by kernel_rfl) (by kernel_rfl) (fun _ _ _ h => h) (Or.inl ⟨by rfl, ?_⟩) ((And.intro x_a_e0 (And.intro c_n_e0 c_u_e0))) ?_
            rotate_left
            · intro wq hSq
              go_simp
              exact rfl
            try simp only [Act.put, List.setIfInBounds_toArray, List.set_cons_zero, List.set_cons_succ]
            refine takeH 6 45 (v := ?ve6_7) rfl (by rfl) (by kernel_rfl) (by kernel_rfl) (by kernel_rfl) (fun _ _ _ h => h) (Or.inl ⟨by rfl, ?_⟩) ((And.intro x_a_e0 (And.intro c_n_e0 c_u_e0))) ?_
            rotate_left
            · intro wq hSq
              go_simp
              exact rfl
            try simp only [Act.put, List.setIfInBounds_toArray, List.set_cons_zero, List.set_cons_succ]
            refine wpAnyH_ready (rs := [7]) (by kernel_rfl) (by simp) (AllReadyH.cons rfl (fun K hK => ?_) AllReadyH.nil)
            go_simp
            refine (IN _ false (HI.out.below K_w1_e0) ⟨fun h => (Bool.false_ne_true h).elim, fun h => absurd h hkl⟩).mono ?_
            rintro e We8 ⟨rfl, hbe8⟩
            have x_a_e8 : Box We8 (w.heap.size) ([.slice (some ⟨b1, o1, none⟩) n c1, .slice (some ⟨b2, o2, none⟩) n c2, .int .i64 A.fr]) := Box.below x_a_e0 hbe8
            have c_n_e8 := cell_below hbe8 c_n_e0
            have c_u_e8 := cell_below hbe8 c_u_e0
            have Be8 := below_thru Be0 hbe8
            have K_w1_e8 := below_thru K_w1_e0 hbe8
            clear x_a_e0 c_n_e0 c_u_e0 Be0 K_w1_e0 hbe8
            refine hK.out _ _ (And.intro x_a_e8 (And.intro c_n_e8 c_u_e8)) (fun _ => ?_); clear hK K
            refine takeH 8 47 (v := ?ve8_9) rfl (by rfl) (by kernel_rfl) (by kernel_rfl) (by kernel_rfl) (fun _ _ _ h => h) (Or.inl ⟨by rfl, ?_⟩) ((And.intro x_a_e8 (And.intro c_n_e8 c_u_e8))) ?_
            rotate_left
            · intro wq hSq
              go_simp
              exact rfl
            try simp only [Act.put, List.setIfInBounds_toArray, List.set_cons_zero, List.set_cons_succ]
            refine takeH 9 48 (v := ?ve9_10) rfl (by rfl) (by kernel_rfl) (by kernel_rfl) (by kernel_rfl) (fun _ _ _ h => h) (Or.inl ⟨by rfl, ?_⟩) ((And.intro x_a_e8 (And.intro c_n_e8 c_u_e8))) ?_
            rotate_left
            · intro wq hSq
              go_simp
              exact rfl
            try simp only [Act.put, List.setIfInBounds_toArray, List.set_cons_zero, List.set_cons_succ]
            refine takeH 10 49 (v := ?ve10_11) rfl (by rfl) (by kernel_rfl) (by kernel_rfl) (by kernel_rfl) (fun _ _ _ h => h) (Or.inl ⟨by rfl, ?_⟩) ((And.intro x_a_e8 (And.intro c_n_e8 c_u_e8))) ?_
            rotate_left
            · intro wq hSq
              go_simp
              exact rfl
            try simp only [Act.put, List.setIfInBounds_toArray, List.set_cons_zero, List.set_cons_succ]
            refine takeH 11 50 (v := ?ve11_12) rfl (by rfl) (by kernel_rfl) (by kernel_rfl) (by kernel_rfl) (fun _ _ _ h => h) (Or.inl ⟨by rfl, ?_⟩) ((And.intro x_a_e8 (And.intro c_n_e8 c_u_e8))) ?_
            rotate_left
            · intro wq hSq
              have cq := (hSq.1).c 1 _ rfl
              have zq := lt_of_cell cq
              go_simp
              exact rfl
            try simp only [Act.put, List.setIfInBounds_toArray, List.set_cons_zero, List.set_cons_succ]
            refine takeH 12 51 (v := ?ve12_13) rfl (by rfl) (by kernel_rfl) (by kernel_rfl) (by kernel_rfl) (fun _ _ _ h => h) (Or.inl ⟨by rfl, ?_⟩) ((And.intro x_a_e8 (And.intro c_n_e8 c_u_e8))) ?_
            rotate_left
            · intro wq hSq
              go_simp
              exact rfl
            try simp only [Act.put, List.setIfInBounds_toArray, List.set_cons_zero, List.set_cons_succ]
            refine takeH 13 52 (v := ?ve13_14) rfl (by rfl) (by kernel_rfl) (by kernel_rfl) (by kernel_rfl) (fun _ _ _ h => h) (Or.inl ⟨by rfl, ?_⟩) ((And.intro x_a_e8 (And.intro c_n_e8 c_u_e8))) ?_
            rotate_left
            · intro wq hSq
              go_simp
              exact rfl
            try simp only [Act.put, List.setIfInBounds_toArray, List.set_cons_zero, List.set_cons_succ]
            refine takeH 14 53 (v := ?ve14_15) rfl (by rfl) (by kernel_rfl) (by kernel_rfl) (by kernel_rfl) (fun _ _ _ h => h) (Or.inl ⟨by rfl, ?_⟩) ((And.intro x_a_e8 (And.intro c_n_e8 c_u_e8))) ?_
            rotate_left
            · intro wq hSq
              have cq := hSq.2.2
              have zq := lt_of_cell cq
              go_simp
              exact rfl
            try simp only [Act.put, List.setIfInBounds_toArray, List.set_cons_zero, List.set_cons_succ]
            refine takeH 15 54 (v := ?ve15_16) rfl (by rfl) (by kernel_rfl) (by kernel_rfl) (by kernel_rfl) (fun _ _ _ h => h) (Or.inl ⟨by rfl, ?_⟩) ((And.intro x_a_e8 (And.intro c_n_e8 c_u_e8))) ?_
            rotate_left
            · intro wq hSq
              go_simp
              exact rfl
            try simp only [Act.put, List.setIfInBounds_toArray, List.set_cons_zero, List.set_cons_succ]
            refine takeH 16 55 (v := ?ve16_17) rfl (by rfl) (by kernel_rfl) (by kernel_rfl) (by kernel_rfl) (fun _ _ _ h => h) (Or.inl ⟨by rfl, ?_⟩) ((And.intro x_a_e8 (And.intro c_n_e8 c_u_e8))) ?_
            rotate_left
            · intro wq hSq
              go_simp
              exact rfl
            try simp only [Act.put, List.setIfInBounds_toArray, List.set_cons_zero, List.set_cons_succ]
            refine takeH 17 56 (v := ?ve17_18) rfl (by rfl) (by kernel_rfl) (by kernel_rfl) (by kernel_rfl) (fun _ _ _ h => h) (Or.inl ⟨by rfl, ?_⟩) ((And.intro x_a_e8 (And.intro c_n_e8 c_u_e8))) ?_
            rotate_left
            · intro wq hSq
              have cq := (hSq.1).c 0 _ rfl
              have zq := lt_of_cell cq
              go_simp
              exact rfl
            try simp only [Act.put, List.setIfInBounds_toArray, List.set_cons_zero, List.set_cons_succ]
            refine takeH 18 57 (v := ?ve18_19) rfl (by rfl) (by kernel_rfl) (by kernel_rfl) (by kernel_rfl) (fun _ _ _ h => h) (Or.inl ⟨by rfl, ?_⟩) ((And.intro x_a_e8 (And.intro c_n_e8 c_u_e8))) ?_
            rotate_left
            · intro wq hSq
              go_simp
              exact rfl
            try simp only [Act.put, List.setIfInBounds_toArray, List.set_cons_zero, List.set_cons_succ]
            refine takeH 19 58 (v := ?ve19_20) rfl (by rfl) (by kernel_rfl) (by kernel_rfl) (by kernel_rfl) (fun _ _ _ h => h) (Or.inl ⟨by rfl, ?_⟩) ((And.intro x_a_e8 (And.intro c_n_e8 c_u_e8))) ?_
            rotate_left
            · intro wq hSq
              go_simp
              exact rfl
            try simp only [Act.put, List.setIfInBounds_toArray, List.set_cons_zero, List.set_cons_succ]
            refine takeH 20 59 (v := ?ve20_21) rfl (by rfl) (by kernel_rfl) (by kernel_rfl) (by kernel_rfl) (fun _ _ _ h => h) (Or.inl ⟨by rfl, ?_⟩) ((And.intro x_a_e8 (And.intro c_n_e8 c_u_e8))) ?_
            rotate_left
            · intro wq hSq
              have cq := hSq.2.1
              have zq := lt_of_cell cq
              go_simp
              exact rfl
            try simp only [Act.put, List.setIfInBounds_toArray, List.set_cons_zero, List.set_cons_succ]
            refine takeH 21 60 (v := ?ve21_22) rfl (by rfl) (by kernel_rfl) (by kernel_rfl) (by kernel_rfl) (fun _ _ _ h => h) (Or.inl ⟨by rfl, ?_⟩) ((And.intro x_a_e8 (And.intro c_n_e8 c_u_e8))) ?_
            rotate_left
            · intro wq hSq
              go_simp
              exact rfl
            try simp only [Act.put, List.setIfInBounds_toArray, List.set_cons_zero, List.set_cons_succ]
            refine takeH 22 61 (v := ?ve22_23) rfl (by rfl) (by kernel_rfl) (by kernel_rfl) (by kernel_rfl) (fun _ _ _ h => h) (Or.inl ⟨by rfl, ?_⟩) ((And.intro x_a_e8 (And.intro c_n_e8 c_u_e8))) ?_
            rotate_left
            · intro wq hSq
              go_simp
              exact rfl
            try simp only [Act.put, List.setIfInBounds_toArray, List.set_cons_zero, List.set_cons_succ]
            refine takeH 23 62 (v := ?ve23_24) rfl (by rfl) (by kernel_rfl) (by kernel_rfl) (by kernel_rfl) (fun _ _ _ h => h) (Or.inl ⟨by rfl, ?_⟩) ((And.intro x_a_e8 (And.intro c_n_e8 c_u_e8))) ?_
            rotate_left
            · intro wq hSq
              go_simp
              exact rfl
            try simp only [Act.put, List.setIfInBounds_toArray, List.set_cons_zero, List.set_cons_succ]
            refine wpAnyH_done (by kernel_rfl) ?_ _
            go_wp2_with fail
            go_returns
            exact ⟨ret_i12 HX.out, Be8⟩

theorem rchk_is {v : Value} {A : Ar} {q : Int} (w : World) (h1 : IsA w v A) (hq : ChkA A q) : Calls Try.prog 20 #[v] w fun e w' => e = .returned (.int .i64 q) ∧ Below w.heap.size w w' := by
  by_cases h : A.nx.length < 1
  · rw [hq.uniq (ChkA.big (Or.inl h))]
    exact rchk_a h w h1
  · by_cases h2 : 16 < A.nx.length
    · rw [hq.uniq (ChkA.big (Or.inr (Or.inl h2)))]
      exact rchk_b h2 w h1
    · by_cases h3 : A.us.length = A.nx.length
      · obtain ⟨r, hr⟩ := FrA.ex A
        rcases hr with ⟨l, _, hl⟩ | ⟨_, hn⟩
        · exact rchk_e (by omega) (by omega) h3 hl hq w h1
        · rw [hq.uniq (ChkA.bad fun l hl => hn l hl.freeL)]
          exact rchk_d (by omega) (by omega) h3 hn w h1
      · rw [hq.uniq (ChkA.big (Or.inr (Or.inr h3)))]
        exact rchk_c ⟨by omega, by omega⟩ h3 w h1


end Go.Proofs.Ytepimljjbmoojaa
