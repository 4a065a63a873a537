/-
  LruUses, walked.
-/
import Derived.Test.YtjhlpkkefdohjaaLrM0
namespace Go.Proofs.Ytjhlpkkefdohjaa
open Go.RowKit

set_option maxRecDepth 100000 in
set_option maxHeartbeats 6400000 in
theorem uses15_a {v : Value} {ls : List Int} {p : Int} (h : p < 1) (w : World) (h1 : IsR LI w v ls) : Calls Try.prog 5 #[.int .i64 p, v] w fun e w' => e = .returned (.bool true) ∧ Below w.heap.size w w' := by
  have AL := fun W => alive15_is W
  have NW := fun W => plnew_is (Or.inl ⟨rfl, Or.inl h, rfl⟩ : NwO p Od.zero 2) W; obtain ⟨B, hB⟩ : ∃ B, Od.zero = B := ⟨_, rfl⟩; rw [hB] at NW; clear hB
  have d0 : decide (p < 1) = true := decide_eq_true (by omega)
  obtain ⟨a1, c1, rfl, hr1⟩ := id h1; have r1 := hr1.room; obtain ⟨m, hm⟩ : ∃ m, ls.length = m := ⟨_, rfl⟩; rw [hm] at r1 ⊢; clear hr1 h1 hm h
  have hB0 := Below.refl w.heap.size w
  have hs0 := hB0.size
  go_enter Try.func5, Try.ntmps5
  go_wp2_with fail
  refine (AL _).mono ?_
  rintro e w1 ⟨rfl, hb⟩
  have hB1 : Below w.heap.size w w1 := below_thru hB0 hb
  have hs1 := hB1.size
  clear hB0 hs0
  clear hb
  go_wp2_with fail
  refine (NW _).mono ?_
  rintro e w2 ⟨vb, rfl, hI, hF, hb⟩
  obtain ⟨xb, yb, rfl, rx, ry⟩ := id hI; obtain ⟨pb, cb, rfl, hrx⟩ := id rx; obtain ⟨qb, db, rfl, hry⟩ := id ry; clear hrx hry rx ry hF
  have hB2 : Below w.heap.size w w2 := below_thru hB1 hb
  have hs2 := hB2.size
  clear hB1 hs1
  clear hb
  have K_w2_2 : Below w2.heap.size w2 w2 := Below.refl _ _
  have Ib : Hid (IsO w2 (.agg [.slice pb B.pv.length cb, .slice qb B.nx.length db, .int .i64 B.hd, .int .i64 B.tl].toArray) B) := Lib.hid hI; clear hI
  have d_b_0 := hs2
  go_upto_region 3 with (refine wpList_store_box (cs := [.slice pb B.pv.length cb, .slice qb B.nx.length db, .int .i64 B.hd, .int .i64 B.tl]) rfl _ _ _ rfl (Box.newc (l := od0) rfl rfl) rfl rfl (size_od _ _ _ _) rfl (one_od _ _ _ _ _ _ _ _) ?_; intro W2_0 hW2_0)
  have hN : Below w2.heap.size w2 W2_0 := (hW2_0.below _ _ (by omega) ((Below.refl _ w2).alloc (Nat.le_refl _) _))
  have x_b3 : Box W2_0 (w2.heap.size) ([.slice pb B.pv.length cb, .slice qb B.nx.length db, .int .i64 B.hd, .int .i64 B.tl]) := hW2_0.box
  have K_w2_3 : Below w2.heap.size w2 W2_0 := below_thru K_w2_2 hN
  clear K_w2_2
  have hB3 : Below w.heap.size w W2_0 := below_thru hB2 hN
  have hs3 := hB3.size
  clear hB2 hs2
  clear hN hW2_0
  clear K_w2_3
  go_wp2_with fail
  go_returns
  exact ⟨rfl, hB3⟩

set_option maxRecDepth 100000 in
set_option maxHeartbeats 6400000 in
theorem uses15_b {v : Value} {ls : List Int} {p : Int} (h : 16 < p) (w : World) (h1 : IsR LI w v ls) : Calls Try.prog 5 #[.int .i64 p, v] w fun e w' => e = .returned (.bool true) ∧ Below w.heap.size w w' := by
  have AL := fun W => alive15_is W
  have NW := fun W => plnew_is (Or.inl ⟨rfl, Or.inr h, rfl⟩ : NwO p Od.zero 2) W; obtain ⟨B, hB⟩ : ∃ B, Od.zero = B := ⟨_, rfl⟩; rw [hB] at NW; clear hB
  have d0 : decide (p < 1) = false := decide_eq_false (by omega)
  have d1 : decide (16 < p) = true := decide_eq_true (by omega)
  obtain ⟨a1, c1, rfl, hr1⟩ := id h1; have r1 := hr1.room; obtain ⟨m, hm⟩ : ∃ m, ls.length = m := ⟨_, rfl⟩; rw [hm] at r1 ⊢; clear hr1 h1 hm h
  have hB0 := Below.refl w.heap.size w
  have hs0 := hB0.size
  go_enter Try.func5, Try.ntmps5
  go_wp2_with fail
  refine (AL _).mono ?_
  rintro e w1 ⟨rfl, hb⟩
  have hB1 : Below w.heap.size w w1 := below_thru hB0 hb
  have hs1 := hB1.size
  clear hB0 hs0
  clear hb
  go_wp2_with fail
  refine (NW _).mono ?_
  rintro e w2 ⟨vb, rfl, hI, hF, hb⟩
  obtain ⟨xb, yb, rfl, rx, ry⟩ := id hI; obtain ⟨pb, cb, rfl, hrx⟩ := id rx; obtain ⟨qb, db, rfl, hry⟩ := id ry; clear hrx hry rx ry hF
  have hB2 : Below w.heap.size w w2 := below_thru hB1 hb
  have hs2 := hB2.size
  clear hB1 hs1
  clear hb
  have K_w2_2 : Below w2.heap.size w2 w2 := Below.refl _ _
  have Ib : Hid (IsO w2 (.agg [.slice pb B.pv.length cb, .slice qb B.nx.length db, .int .i64 B.hd, .int .i64 B.tl].toArray) B) := Lib.hid hI; clear hI
  have d_b_0 := hs2
  go_upto_region 3 with (refine wpList_store_box (cs := [.slice pb B.pv.length cb, .slice qb B.nx.length db, .int .i64 B.hd, .int .i64 B.tl]) rfl _ _ _ rfl (Box.newc (l := od0) rfl rfl) rfl rfl (size_od _ _ _ _) rfl (one_od _ _ _ _ _ _ _ _) ?_; intro W2_0 hW2_0)
  have hN : Below w2.heap.size w2 W2_0 := (hW2_0.below _ _ (by omega) ((Below.refl _ w2).alloc (Nat.le_refl _) _))
  have x_b3 : Box W2_0 (w2.heap.size) ([.slice pb B.pv.length cb, .slice qb B.nx.length db, .int .i64 B.hd, .int .i64 B.tl]) := hW2_0.box
  have K_w2_3 : Below w2.heap.size w2 W2_0 := below_thru K_w2_2 hN
  clear K_w2_2
  have hB3 : Below w.heap.size w W2_0 := below_thru hB2 hN
  have hs3 := hB3.size
  clear hB2 hs2
  clear hN hW2_0
  clear K_w2_3
  go_wp2_with fail
  go_returns
  exact ⟨rfl, hB3⟩

set_option maxRecDepth 100000 in
set_option maxHeartbeats 6400000 in
theorem uses15_c {v : Value} {ls : List Int} {n : Nat} (h : 1 ≤ n) (h2 : n ≤ 16) (hl : 60 < ls.length) (w : World) (h1 : IsR LI w v ls) : Calls Try.prog 5 #[.int .i64 (n : Int), v] w fun e w' => e = .returned (.bool true) ∧ Below w.heap.size w w' := by
  have AL := fun W => alive15_is W
  have NW := fun W => plnew_is (Or.inr ⟨rfl, n, rfl, h, h2, rfl⟩ : NwO (n : Int) (ofL n []) 0) W; obtain ⟨B, hB⟩ : ∃ B, ofL n [] = B := ⟨_, rfl⟩; rw [hB] at NW; clear hB
  have d0 : decide ((n : Int) < 1) = false := decide_eq_false (by omega)
  have d1 : decide (16 < (n : Int)) = false := decide_eq_false (by omega)
  obtain ⟨a1, c1, rfl, hr1⟩ := id h1; have r1 := hr1.room; obtain ⟨m, hm⟩ : ∃ m, ls.length = m := ⟨_, rfl⟩; rw [hm] at r1 hl ⊢; clear hr1 h1 hm h h2
  have d3 : decide (60 < (m : Int)) = true := decide_eq_true (by omega); have d4 : decide (60 < m) = true := decide_eq_true hl; clear hl
  have hB0 := Below.refl w.heap.size w
  have hs0 := hB0.size
  go_enter Try.func5, Try.ntmps5
  go_wp2_with fail
  refine (AL _).mono ?_
  rintro e w1 ⟨rfl, hb⟩
  have hB1 : Below w.heap.size w w1 := below_thru hB0 hb
  have hs1 := hB1.size
  clear hB0 hs0
  clear hb
  go_wp2_with fail
  refine (NW _).mono ?_
  rintro e w2 ⟨vb, rfl, hI, hF, hb⟩
  obtain ⟨xb, yb, rfl, rx, ry⟩ := id hI; obtain ⟨pb, cb, rfl, hrx⟩ := id rx; obtain ⟨qb, db, rfl, hry⟩ := id ry; clear hrx hry rx ry hF
  have hB2 : Below w.heap.size w w2 := below_thru hB1 hb
  have hs2 := hB2.size
  clear hB1 hs1
  clear hb
  have K_w2_2 : Below w2.heap.size w2 w2 := Below.refl _ _
  have Ib : Hid (IsO w2 (.agg [.slice pb B.pv.length cb, .slice qb B.nx.length db, .int .i64 B.hd, .int .i64 B.tl].toArray) B) := Lib.hid hI; clear hI
  have d_b_0 := hs2
  go_upto_region 3 with (refine wpList_store_box (cs := [.slice pb B.pv.length cb, .slice qb B.nx.length db, .int .i64 B.hd, .int .i64 B.tl]) rfl _ _ _ rfl (Box.newc (l := od0) rfl rfl) rfl rfl (size_od _ _ _ _) rfl (one_od _ _ _ _ _ _ _ _) ?_; intro W2_0 hW2_0)
  have hN : Below w2.heap.size w2 W2_0 := (hW2_0.below _ _ (by omega) ((Below.refl _ w2).alloc (Nat.le_refl _) _))
  have x_b3 : Box W2_0 (w2.heap.size) ([.slice pb B.pv.length cb, .slice qb B.nx.length db, .int .i64 B.hd, .int .i64 B.tl]) := hW2_0.box
  have K_w2_3 : Below w2.heap.size w2 W2_0 := below_thru K_w2_2 hN
  clear K_w2_2
  have hB3 : Below w.heap.size w W2_0 := below_thru hB2 hN
  have hs3 := hB3.size
  clear hB2 hs2
  clear hN hW2_0
  clear K_w2_3
  go_wp2_with fail
  go_returns
  exact ⟨rfl, hB3⟩

set_option maxRecDepth 100000 in
set_option maxHeartbeats 6400000 in
theorem uses15_d {v : Value} {ls : List Int} {n : Nat} (h : 1 ≤ n) (h2 : n ≤ 16) (hl : ls.length ≤ 60) (w : World) (h1 : IsR LI w v ls) : Calls Try.prog 5 #[.int .i64 (n : Int), v] w fun e w' => e = .returned (.bool true) ∧ Below w.heap.size w w' := by
  have AL := fun W => alive15_is W
  have NW := fun W => plnew_is (Or.inr ⟨rfl, n, rfl, h, h2, rfl⟩ : NwO (n : Int) (ofL n []) 0) W; have HV := Lib.hid (vo_zero h h2); have HN := Lib.hid (show (ofL n []).pv.length = n ∧ (ofL n []).nx.length = n from ⟨ofL_pv _ _, ofL_nx _ _⟩); obtain ⟨B, hB⟩ : ∃ B, ofL n [] = B := ⟨_, rfl⟩; rw [hB] at NW HV HN; clear hB
  have d0 : decide ((n : Int) < 1) = false := decide_eq_false (by omega)
  have d1 : decide (16 < (n : Int)) = false := decide_eq_false (by omega)
  obtain ⟨a1, c1, rfl, hr1⟩ := id h1; have r1 := hr1.room; have m1 := hr1.most; have H1 := Lib.hid h1; obtain ⟨m, hm⟩ : ∃ m, ls.length = m := ⟨_, rfl⟩; rw [hm] at r1 hl H1 ⊢; have HM := Lib.hid hm; clear hr1 h1 hm
  have d3 : decide (60 < (m : Int)) = false := decide_eq_false (by omega); have d4 : decide (60 < m) = false := decide_eq_false (by omega); obtain ⟨tiLI, hin, hz0, hz1, hz2⟩ := info_parts info_in
  have hB0 := Below.refl w.heap.size w
  have hs0 := hB0.size
  go_enter Try.func5, Try.ntmps5
  go_wp2_with fail
  refine (AL _).mono ?_
  rintro e w1 ⟨rfl, hb⟩
  have hB1 : Below w.heap.size w w1 := below_thru hB0 hb
  have hs1 := hB1.size
  clear hB0 hs0
  clear hb
  go_wp2_with fail
  refine (NW _).mono ?_
  rintro e w2 ⟨vb, rfl, hI, hF, hb⟩
  obtain ⟨xb, yb, rfl, rx, ry⟩ := id hI; obtain ⟨pb, cb, rfl, hrx⟩ := id rx; obtain ⟨qb, db, rfl, hry⟩ := id ry; clear hrx hry rx ry; have Fb := Lib.hid hF; clear hF
  have hB2 : Below w.heap.size w w2 := below_thru hB1 hb
  have hs2 := hB2.size
  clear hB1 hs1
  clear hb
  have K_w2_2 : Below w2.heap.size w2 w2 := Below.refl _ _
  have Ib : Hid (IsO w2 (.agg [.slice pb B.pv.length cb, .slice qb B.nx.length db, .int .i64 B.hd, .int .i64 B.tl].toArray) B) := Lib.hid hI; have Lb := Lib.hid (hI.low (by rw [HN.out.1]; exact h) (by rw [HN.out.2]; exact h)); clear hI; have hsq := hs2
  have d_b_0 := hs2
  go_upto_region 3 with (refine wpList_store_box (cs := [.slice pb B.pv.length cb, .slice qb B.nx.length db, .int .i64 B.hd, .int .i64 B.tl]) rfl _ _ _ rfl (Box.newc (l := od0) rfl rfl) rfl rfl (size_od _ _ _ _) rfl (one_od _ _ _ _ _ _ _ _) ?_; intro W2_0 hW2_0)
  have hN : Below w2.heap.size w2 W2_0 := (hW2_0.below _ _ (by omega) ((Below.refl _ w2).alloc (Nat.le_refl _) _))
  have x_b3 : Box W2_0 (w2.heap.size) ([.slice pb B.pv.length cb, .slice qb B.nx.length db, .int .i64 B.hd, .int .i64 B.tl]) := hW2_0.box
  have K_w2_3 : Below w2.heap.size w2 W2_0 := below_thru K_w2_2 hN
  clear K_w2_2
  have hB3 : Below w.heap.size w W2_0 := below_thru hB2 hN
  have hs3 := hB3.size
  clear hB2 hs2
  clear hN hW2_0
  have Gb := Lib.hid (Ib.out.below K_w2_3); clear Ib
  clear K_w2_3
  go_upto_region 5 with fail
  clear d0 d1 d3 d4 Fb
  obtain ⟨bo, hbo⟩ : ∃ b, w2.heap.size = b := ⟨_, rfl⟩; rw [hbo] at x_b3 Lb ⊢; have lbo : w.heap.size ≤ bo := by omega
  clear hbo hsq
  go_wp2_with fail
  go_loopw [9] (fun i wr => ∃ (k : Nat) (U : Od) (l : List Nat) (p : Option Addr) (c : Nat) (q : Option Addr) (d : Nat), k ≤ m ∧ i = .int .i64 k ∧ Hid (VO U l) ∧ Hid (U.pv.length = n ∧ U.nx.length = n) ∧ Hid (l = tL n (ls.take k)) ∧ Hid (IsO wr (.agg [.slice p U.pv.length c, .slice q U.nx.length d, .int .i64 U.hd, .int .i64 U.tl].toArray) U) ∧ Hid (OffO bo (.agg [.slice p U.pv.length c, .slice q U.nx.length d, .int .i64 U.hd, .int .i64 U.tl].toArray)) ∧ Box wr bo [.slice p U.pv.length c, .slice q U.nx.length d, .int .i64 U.hd, .int .i64 U.tl] ∧ Below w.heap.size w wr) (fun i _ => m - (intOf i).toNat)
  case atStart => exact ⟨0, B, [], pb, cb, qb, db, Nat.zero_le _, rfl, HV, HN, Lib.hid (by rw [List.take_zero]; rfl), Gb, Lb, x_b3, hB3⟩
  case round =>
    clear x_b3 hB3 hs3 HV HN Gb Lb
    obtain ⟨k, U, l, p, c, q, d, hk, rfl, HV, HN, HL, HI, HO, x_o, hB⟩ := hrel
    have hs := hB.size
    by_cases hlt : k < m
    case pos =>
      obtain ⟨x, hx⟩ : ∃ x, ls[k]? = some x := ⟨_, List.getElem?_eq_getElem (by rw [HM.out]; exact hlt)⟩
      obtain ⟨b1, o1, rfl, e1⟩ := H1.out.getI hx
      have E1 := Lib.hid e1; clear e1
      have HS := Lib.hid (tL_snoc (n := n) hx)
      have i0 : (0 : Int) ≤ (k : Int) := (by omega); have i1 : (k : Int) < (m : Int) := (by omega)
      have f1 := cell_below hB E1.out; have z1 := lt_of_cell f1
      clear hx
      by_cases hx0 : 0 ≤ x ∧ x < (n : Int)
      case neg =>
        have HT := Lib.hid (show l = tL n (ls.take (k + 1)) by rw [HS.out, ← HL.out]; unfold tch; rw [if_neg hx0]); clear HS HL
        have TK := fun (W : World) (u : Value) (g : IsO W u U) => pltouch_is (p := x) (Or.inr ⟨l, HV.out, Or.inl ⟨rfl, by rw [HN.out.1]; omega, rfl⟩⟩) W g; obtain ⟨R, hR⟩ : ∃ R, Od.zero = R := ⟨_, rfl⟩; rw [hR] at TK; clear hR
        have x_o20 := x_o; have hB20 := hB; clear x_o hB; have hs20 := hB20.size
        have K_wr_20 : Below wr.heap.size wr wr := Below.refl _ _
        go_upto_region 9 with fail
        go_cut [10, 11] (fun p10 p11 wx => ∃ (bx : Nat) (px : Option Addr) (cx : Nat) (qx : Option Addr) (dx : Nat), p10 = .pointer (some ⟨bx, 0, none⟩) ∧ p11 = .int .i64 2 ∧ bo ≠ bx ∧ w.heap.size ≤ bx ∧ Box wx bx [.slice px R.pv.length cx, .slice qx R.nx.length dx, .int .i64 R.hd, .int .i64 R.tl] ∧ Box wx bo [.slice p U.pv.length c, .slice q U.nx.length d, .int .i64 U.hd, .int .i64 U.tl] ∧ Hid (IsO wx (.agg [.slice p U.pv.length c, .slice q U.nx.length d, .int .i64 U.hd, .int .i64 U.tl].toArray) U) ∧ Below w.heap.size w wx)
        case first =>
          refine wp_region_held_drew (S := fun W => Box W (bo) ([.slice p U.pv.length c, .slice q U.nx.length d, .int .i64 U.hd, .int .i64 U.tl]) ∧ W.cell? ⟨b1, o1 + k, none⟩ = some (.int .i64 x)) (by kernel_rfl) (And.intro (x_o20).drew f1) (fun _ => ?_)
          refine F_drew (F := fun W => wpAnyH _ _ _ _ _ _ _ _ W) ?_
          intro Ws0 hbs0
          clear hs20
          have x_o_s0 : Box Ws0 (bo) ([.slice p U.pv.length c, .slice q U.nx.length d, .int .i64 U.hd, .int .i64 U.tl]) := Box.below x_o20 hbs0
          have c_x_s0 := cell_below hbs0 f1
          have Bs0 := below_thru hB20 hbs0
          have K_wr_s0 := below_thru K_wr_20 hbs0
          clear x_o20 f1 hB20 K_wr_20 hbs0
          refine takeH 1 62 (v := ?vs1_1) rfl (by rfl) (by kernel_rfl) (by kernel_rfl) (by kernel_rfl) (fun _ _ _ h => h) (Or.inl ⟨by rfl, ?_⟩) ((And.intro x_o_s0 c_x_s0)) ?_
          rotate_left
          · intro wq hSq
            go_simp
            exact rfl
          try simp only [Act.put, List.setIfInBounds_toArray, List.set_cons_zero, List.set_cons_succ]
          refine takeH 2 63 (v := ?vs2_2) rfl (by rfl) (by kernel_rfl) (by kernel_rfl) (by kernel_rfl) (fun _ _ _ h => h) (Or.inl ⟨by rfl, ?_⟩) ((And.intro x_o_s0 c_x_s0)) ?_
          rotate_left
          · intro wq hSq
            go_simp
            exact rfl
          try simp only [Act.put, List.setIfInBounds_toArray, List.set_cons_zero, List.set_cons_succ]
          refine takeH 3 64 (v := ?vs3_3) rfl (by rfl) (by kernel_rfl) (by kernel_rfl) (by kernel_rfl) (fun _ _ _ h => h) (Or.inl ⟨by rfl, ?_⟩) ((And.intro x_o_s0 c_x_s0)) ?_
          rotate_left
          · intro wq hSq
            go_simp
            exact rfl
          try simp only [Act.put, List.setIfInBounds_toArray, List.set_cons_zero, List.set_cons_succ]
          refine takeH 4 65 (v := ?vs4_4) rfl (by rfl) (by kernel_rfl) (by kernel_rfl) (by kernel_rfl) (fun _ _ _ h => h) (Or.inl ⟨by rfl, ?_⟩) ((And.intro x_o_s0 c_x_s0)) ?_
          rotate_left
          · intro wq hSq
            have cq := hSq.2
            have zq := lt_of_cell cq
            go_simp
            exact rfl
          try simp only [Act.put, List.setIfInBounds_toArray, List.set_cons_zero, List.set_cons_succ]
          refine takeH 0 61 (v := .agg ([.slice p U.pv.length c, .slice q U.nx.length d, .int .i64 U.hd, .int .i64 U.tl]).toArray) rfl (by rfl) (by kernel_rfl) (by kernel_rfl) (by kernel_rfl) (fun _ _ _ h => h) (yieldsIf_load_mid (by rfl) _ _ rfl _ _ rfl ([.slice p U.pv.length c, .slice q U.nx.length d, .int .i64 U.hd, .int .i64 U.tl]) _ (fun wq hq => Box.range (hq.1)) Try.underlying24 rfl (size_od _ _ _ _)) ((And.intro x_o_s0 c_x_s0)) ?_
          try simp only [Act.put, List.setIfInBounds_toArray, List.set_cons_zero, List.set_cons_succ]
          refine wpAnyH_ready (rs := [5, 9]) (by kernel_rfl) (by simp) (AllReadyH.cons rfl (fun K hK => ?_) (AllReadyH.cons rfl (fun K hK => ?_) AllReadyH.nil))
          · skip
            go_simp
            have lo9 := (x_o_s0).lt
            refine (TK _ _ (HI.out.below K_wr_s0)).mono ?_
            rintro e Ws5 ⟨vx, rfl, hI, hF, hbs5⟩
            obtain ⟨xx, yy, rfl, rx, ry⟩ := id hI; obtain ⟨px, cx, rfl, hrx⟩ := id rx; obtain ⟨qx, dx, rfl, hry⟩ := id ry; clear hrx hry rx ry
            have HOB := Lib.hid (hF.off (b := bo) (by omega)); have HIR := Lib.hid hI; clear hF hI lo9
            have x_o_s5 : Box Ws5 (bo) ([.slice p U.pv.length c, .slice q U.nx.length d, .int .i64 U.hd, .int .i64 U.tl]) := Box.below x_o_s0 hbs5
            have c_x_s5 := cell_below hbs5 c_x_s0
            have Bs5 := below_thru Bs0 hbs5
            have K_wr_s5 := below_thru K_wr_s0 hbs5
            clear x_o_s0 c_x_s0 Bs0 K_wr_s0 hbs5
            refine hK.out _ _ (And.intro x_o_s5 c_x_s5) (fun _ => ?_); clear hK K
            refine takeH 6 60 (v := ?vs6_6) rfl (by rfl) (by kernel_rfl) (by kernel_rfl) (by kernel_rfl) (fun _ _ _ h => h) (Or.inl ⟨by rfl, ?_⟩) ((And.intro x_o_s5 c_x_s5)) ?_
            rotate_left
            · intro wq hSq
              go_simp
              exact rfl
            try simp only [Act.put, List.setIfInBounds_toArray, List.set_cons_zero, List.set_cons_succ]
            refine takeH 7 67 (v := ?vs7_7) rfl (by rfl) (by kernel_rfl) (by kernel_rfl) (by kernel_rfl) (fun _ _ _ h => h) (Or.inl ⟨by rfl, ?_⟩) ((And.intro x_o_s5 c_x_s5)) ?_
            rotate_left
            · intro wq hSq
              go_simp
              exact rfl
            try simp only [Act.put, List.setIfInBounds_toArray, List.set_cons_zero, List.set_cons_succ]
            refine takeH 8 68 (v := ?vs8_8) rfl (by rfl) (by kernel_rfl) (by kernel_rfl) (by kernel_rfl) (fun _ _ _ h => h) (Or.inl ⟨by rfl, ?_⟩) ((And.intro x_o_s5 c_x_s5)) ?_
            rotate_left
            · intro wq hSq
              go_simp
              exact rfl
            try simp only [Act.put, List.setIfInBounds_toArray, List.set_cons_zero, List.set_cons_succ]
            refine wpAnyH_ready (rs := [9]) (by kernel_rfl) (by simp) (AllReadyH.cons rfl (fun K hK => ?_) AllReadyH.nil)
            go_simp
            have ql_o := (x_o_s5).lt
            have qk_wr := Below.size K_wr_s5
            have qs_p := Below.size Bs5
            refine hK.out _ _ (And.intro (Box.alloc x_o_s5 _) (cell_alloc c_x_s5)) (fun _ => ?_); clear hK K
            refine F_gen (F := fun W => wpAnyH _ _ _ _ _ _ _ _ W) (J := fun W => Box W (Ws5.heap.size) (od0) ∧ Below Ws5.heap.size Ws5 W) (And.intro (Box.newc (l := od0) rfl rfl) ((Below.refl _ _).alloc (Nat.le_refl _) _)) ?_
            intro Ws9 ⟨na_p_s9, hbs9⟩
            have HIR2 := Lib.hid (HIR.out.below hbs9); clear HIR
            have x_o_s9 : Box Ws9 (bo) ([.slice p U.pv.length c, .slice q U.nx.length d, .int .i64 U.hd, .int .i64 U.tl]) := Box.below x_o_s5 hbs9
            have c_x_s9 := cell_below hbs9 c_x_s5
            have Bs9 := below_thru Bs5 hbs9
            have K_wr_s9 := below_thru K_wr_s5 hbs9
            clear x_o_s5 c_x_s5 Bs5 K_wr_s5 hbs9
            obtain ⟨bx, hbx⟩ : ∃ b, Ws5.heap.size = b := ⟨_, rfl⟩
            rw [hbx] at na_p_s9 ql_o qk_wr qs_p ⊢
            clear hbx
            have HIR := HIR2; clear HIR2
            refine wpAnyH_ready (rs := [10]) (by kernel_rfl) (by simp) (AllReadyH.cons rfl (fun K hK => ?_) AllReadyH.nil)
            have nz_o := (x_o_s9).lt
            refine step_store_box0 (cs := [.slice px R.pv.length cx, .slice qx R.nx.length dx, .int .i64 R.hd, .int .i64 R.tl]) rfl rfl _ _ _ rfl na_p_s9 rfl rfl (size_od _ _ _ _) rfl (one_od _ _ _ _ _ _ _ _) ?_
            intro Ws10 hWs10
            have x_o_s10 : Box Ws10 (bo) ([.slice p U.pv.length c, .slice q U.nx.length d, .int .i64 U.hd, .int .i64 U.tl]) := hWs10.past _ _ (by omega) x_o_s9
            have c_x_s10 := hWs10.cell _ _ _ (by omega) c_x_s9
            have z_p_s10 := hWs10.box
            have Bs10 := hWs10.below _ _ (by omega) Bs9
            have K_wr_s10 := hWs10.below _ _ (by have := Below.size K_wr_s9; omega) K_wr_s9
            clear nz_o x_o_s9 c_x_s9 na_p_s9 Bs9 K_wr_s9 hWs10
            refine hK.out _ _ (And.intro x_o_s10 c_x_s10) (fun _ => ?_); clear hK K
            refine takeH 11 11 (v := ?vs11_11) rfl (by rfl) (by kernel_rfl) (by kernel_rfl) (by kernel_rfl) (fun _ _ _ h => h) (Or.inl ⟨by rfl, ?_⟩) ((And.intro x_o_s10 c_x_s10)) ?_
            rotate_left
            · intro wq hSq
              go_simp
              exact rfl
            try simp only [Act.put, List.setIfInBounds_toArray, List.set_cons_zero, List.set_cons_succ]
            refine wpAnyH_done (by kernel_rfl) ?_ _
            go_wp2_with fail
            go_meet
            exact ⟨bx, px, cx, qx, dx, rfl, rfl, by omega, by omega, z_p_s10, x_o_s10, Lib.hid (HI.out.below K_wr_s10), Bs10⟩
          · skip
            go_simp
            have ql_o := (x_o_s0).lt
            have qk_wr := Below.size K_wr_s0
            have qs_p := Below.size Bs0
            refine hK.out _ _ (And.intro (Box.alloc x_o_s0 _) (cell_alloc c_x_s0)) (fun _ => ?_); clear hK K
            refine F_gen (F := fun W => wpAnyH _ _ _ _ _ _ _ _ W) (J := fun W => Box W (Ws0.heap.size) (od0) ∧ Below Ws0.heap.size Ws0 W) (And.intro (Box.newc (l := od0) rfl rfl) ((Below.refl _ _).alloc (Nat.le_refl _) _)) ?_
            intro Ws12 ⟨na_p_s12, hbs12⟩
            have x_o_s12 : Box Ws12 (bo) ([.slice p U.pv.length c, .slice q U.nx.length d, .int .i64 U.hd, .int .i64 U.tl]) := Box.below x_o_s0 hbs12
            have c_x_s12 := cell_below hbs12 c_x_s0
            have Bs12 := below_thru Bs0 hbs12
            have K_wr_s12 := below_thru K_wr_s0 hbs12
            clear x_o_s0 c_x_s0 Bs0 K_wr_s0 hbs12
            obtain ⟨bx, hbx⟩ : ∃ b, Ws0.heap.size = b := ⟨_, rfl⟩
            rw [hbx] at na_p_s12 ql_o qk_wr qs_p ⊢
            clear hbx
            refine wpAnyH_ready (rs := [5]) (by kernel_rfl) (by simp) (AllReadyH.cons rfl (fun K hK => ?_) AllReadyH.nil)
            go_simp
            have lz := (na_p_s12).lt
            have lo9 := (x_o_s12).lt
            refine (TK _ _ (HI.out.below K_wr_s12)).mono ?_
            rintro e Ws13 ⟨vx, rfl, hI, hF, hbs13⟩
            obtain ⟨xx, yy, rfl, rx, ry⟩ := id hI; obtain ⟨px, cx, rfl, hrx⟩ := id rx; obtain ⟨qx, dx, rfl, hry⟩ := id ry; clear hrx hry rx ry
            have HOB := Lib.hid (hF.off (b := bo) (by omega)); have HIR := Lib.hid hI; have HOX := Lib.hid (hF.off (b := bx) (by omega)); clear hF hI lo9 lz
            have x_o_s13 : Box Ws13 (bo) ([.slice p U.pv.length c, .slice q U.nx.length d, .int .i64 U.hd, .int .i64 U.tl]) := Box.below x_o_s12 hbs13
            have c_x_s13 := cell_below hbs13 c_x_s12
            have z_p_s13 : Box Ws13 (bx) (od0) := Box.below na_p_s12 hbs13
            have Bs13 := below_thru Bs12 hbs13
            have K_wr_s13 := below_thru K_wr_s12 hbs13
            clear x_o_s12 c_x_s12 na_p_s12 Bs12 K_wr_s12 hbs13
            refine hK.out _ _ (And.intro x_o_s13 c_x_s13) (fun _ => ?_); clear hK K
            refine takeH 6 60 (v := ?vs6_14) rfl (by rfl) (by kernel_rfl) (by kernel_rfl) (by kernel_rfl) (fun _ _ _ h => h) (Or.inl ⟨by rfl, ?_⟩) ((And.intro x_o_s13 c_x_s13)) ?_
            rotate_left
            · intro wq hSq
              go_simp
              exact rfl
            try simp only [Act.put, List.setIfInBounds_toArray, List.set_cons_zero, List.set_cons_succ]
            refine takeH 7 67 (v := ?vs7_15) rfl (by rfl) (by kernel_rfl) (by kernel_rfl) (by kernel_rfl) (fun _ _ _ h => h) (Or.inl ⟨by rfl, ?_⟩) ((And.intro x_o_s13 c_x_s13)) ?_
            rotate_left
            · intro wq hSq
              go_simp
              exact rfl
            try simp only [Act.put, List.setIfInBounds_toArray, List.set_cons_zero, List.set_cons_succ]
            refine takeH 8 68 (v := ?vs8_16) rfl (by rfl) (by kernel_rfl) (by kernel_rfl) (by kernel_rfl) (fun _ _ _ h => h) (Or.inl ⟨by rfl, ?_⟩) ((And.intro x_o_s13 c_x_s13)) ?_
            rotate_left
            · intro wq hSq
              go_simp
              exact rfl
            try simp only [Act.put, List.setIfInBounds_toArray, List.set_cons_zero, List.set_cons_succ]
            refine wpAnyH_ready (rs := [10]) (by kernel_rfl) (by simp) (AllReadyH.cons rfl (fun K hK => ?_) AllReadyH.nil)
            have nz_o := (x_o_s13).lt
            refine step_store_box0 (cs := [.slice px R.pv.length cx, .slice qx R.nx.length dx, .int .i64 R.hd, .int .i64 R.tl]) rfl rfl _ _ _ rfl z_p_s13 rfl rfl (size_od _ _ _ _) rfl (one_od _ _ _ _ _ _ _ _) ?_
            intro Ws17 hWs17
            have x_o_s17 : Box Ws17 (bo) ([.slice p U.pv.length c, .slice q U.nx.length d, .int .i64 U.hd, .int .i64 U.tl]) := hWs17.past _ _ (by omega) x_o_s13
            have c_x_s17 := hWs17.cell _ _ _ (by omega) c_x_s13
            have z_p_s17 := hWs17.box
            have Bs17 := hWs17.below _ _ (by omega) Bs13
            have K_wr_s17 := hWs17.below _ _ (by have := Below.size K_wr_s13; omega) K_wr_s13
            clear nz_o x_o_s13 c_x_s13 z_p_s13 Bs13 K_wr_s13 hWs17
            refine hK.out _ _ (And.intro x_o_s17 c_x_s17) (fun _ => ?_); clear hK K
            refine takeH 11 11 (v := ?vs11_18) rfl (by rfl) (by kernel_rfl) (by kernel_rfl) (by kernel_rfl) (fun _ _ _ h => h) (Or.inl ⟨by rfl, ?_⟩) ((And.intro x_o_s17 c_x_s17)) ?_
            rotate_left
            · intro wq hSq
              go_simp
              exact rfl
            try simp only [Act.put, List.setIfInBounds_toArray, List.set_cons_zero, List.set_cons_succ]
            refine wpAnyH_done (by kernel_rfl) ?_ _
            go_wp2_with fail
            go_meet
            exact ⟨bx, px, cx, qx, dx, rfl, rfl, by omega, by omega, z_p_s17, x_o_s17, Lib.hid (HI.out.below K_wr_s17), Bs17⟩
        case rest =>
          clear x_o20 hB20 hs20 K_wr_20
          obtain ⟨bx, px, cx, qx, dx, rfl, rfl, hne, lbx, x_p21, x_o21, HI2, hB21⟩ := hcut
          obtain ⟨wY, rfl⟩ : ∃ u : World, u = wc := ⟨_, rfl⟩; clear HI; have HI := HI2; clear HI2
          have hs21 := hB21.size
          have f1 := cell_below hB21 E1.out; have z1 := lt_of_cell f1
          have hd : (decide (x < 0) = true ∨ (decide (x < 0) = false ∧ decide ((n : Int) ≤ x) = true)) := by
            by_cases q : x < 0
            · exact Or.inl (decide_eq_true q)
            · exact Or.inr ⟨decide_eq_false q, decide_eq_true (by omega)⟩
          clear hx0
          rcases hd with hd | ⟨hd, hd2⟩
          · go_wp2_with fail
            go_roundw
            case rel => exact ⟨k + 1, U, l, p, c, q, d, by omega, by go_num, HV, HN, HT, HI, HO, x_o21, hB21⟩
            case measure => simp [intOf]; omega
          · go_wp2_with fail
            go_roundw
            case rel => exact ⟨k + 1, U, l, p, c, q, d, by omega, by go_num, HV, HN, HT, HI, HO, x_o21, hB21⟩
            case measure => simp [intOf]; omega
      case pos =>
        obtain ⟨i, rfl⟩ : ∃ i : Nat, x = i := ⟨x.toNat, by omega⟩
        have hi : i < n := by omega
        have HT := Lib.hid (show i :: woO l i = tL n (ls.take (k + 1)) by rw [HS.out, ← HL.out]; unfold tch; rw [if_pos hx0]; rfl); clear HS HL
        have hV2 := HV.out.touch (i := i) (by rw [HN.out.1]; exact hi)
        have TK := fun (W : World) (u : Value) (g : IsO W u U) => pltouch_is (TcO.of HV.out (i := i) (by rw [HN.out.1]; exact hi)) W g
        have CK := fun (W : World) (u : Value) (g : IsO W u (ofL U.pv.length (i :: woO l i))) => rlchk_is W g (ChkO.good hV2)
        have HRn := Lib.hid (show (ofL U.pv.length (i :: woO l i)).pv.length = n ∧ (ofL U.pv.length (i :: woO l i)).nx.length = n from ⟨(ofL_pv _ _).trans HN.out.1, (ofL_nx _ _).trans HN.out.1⟩)
        have HV2 := Lib.hid hV2
        obtain ⟨R, hR⟩ : ∃ R, ofL U.pv.length (i :: woO l i) = R := ⟨_, rfl⟩; rw [hR] at TK CK HRn HV2; clear hR hV2
        have e0 : decide ((i : Int) < 0) = false := decide_eq_false (by omega); have e1 : decide ((n : Int) ≤ (i : Int)) = false := decide_eq_false (by omega); have e1n : decide (n ≤ i) = false := decide_eq_false (by omega)
        clear hx0
        have x_o20 := x_o; have hB20 := hB; clear x_o hB; have hs20 := hB20.size
        have K_wr_20 : Below wr.heap.size wr wr := Below.refl _ _
        go_upto_region 9 with fail
        go_cut [10, 11] (fun p10 p11 wx => ∃ (bx : Nat) (px : Option Addr) (cx : Nat) (qx : Option Addr) (dx : Nat), p10 = .pointer (some ⟨bx, 0, none⟩) ∧ p11 = .int .i64 0 ∧ bo ≠ bx ∧ w.heap.size ≤ bx ∧ Box wx bx [.slice px R.pv.length cx, .slice qx R.nx.length dx, .int .i64 R.hd, .int .i64 R.tl] ∧ Hid (IsO wx (.agg [.slice px R.pv.length cx, .slice qx R.nx.length dx, .int .i64 R.hd, .int .i64 R.tl].toArray) R) ∧ Hid (OffO bo (.agg [.slice px R.pv.length cx, .slice qx R.nx.length dx, .int .i64 R.hd, .int .i64 R.tl].toArray)) ∧ Box wx bo [.slice p U.pv.length c, .slice q U.nx.length d, .int .i64 U.hd, .int .i64 U.tl] ∧ Hid (IsO wx (.agg [.slice p U.pv.length c, .slice q U.nx.length d, .int .i64 U.hd, .int .i64 U.tl].toArray) U) ∧ Below w.heap.size w wx)
        case first =>
          refine wp_region_held_drew (S := fun W => Box W (bo) ([.slice p U.pv.length c, .slice q U.nx.length d, .int .i64 U.hd, .int .i64 U.tl]) ∧ W.cell? ⟨b1, o1 + k, none⟩ = some (.int .i64 (i : Int))) (by kernel_rfl) (And.intro (x_o20).drew f1) (fun _ => ?_)
          refine F_drew (F := fun W => wpAnyH _ _ _ _ _ _ _ _ W) ?_
          intro Wu0 hbu0
          clear hs20
          have x_o_u0 : Box Wu0 (bo) ([.slice p U.pv.length c, .slice q U.nx.length d, .int .i64 U.hd, .int .i64 U.tl]) := Box.below x_o20 hbu0
          have c_x_u0 := cell_below hbu0 f1
          have Bu0 := below_thru hB20 hbu0
          have K_wr_u0 := below_thru K_wr_20 hbu0
          clear x_o20 f1 hB20 K_wr_20 hbu0
          refine takeH 1 62 (v := ?vu1_1) rfl (by rfl) (by kernel_rfl) (by kernel_rfl) (by kernel_rfl) (fun _ _ _ h => h) (Or.inl ⟨by rfl, ?_⟩) ((And.intro x_o_u0 c_x_u0)) ?_
          rotate_left
          · intro wq hSq
            go_simp
            exact rfl
          try simp only [Act.put, List.setIfInBounds_toArray, List.set_cons_zero, List.set_cons_succ]
          refine takeH 2 63 (v := ?vu2_2) rfl (by rfl) (by kernel_rfl) (by kernel_rfl) (by kernel_rfl) (fun _ _ _ h => h) (Or.inl ⟨by rfl, ?_⟩) ((And.intro x_o_u0 c_x_u0)) ?_
          rotate_left
          · intro wq hSq
            go_simp
            exact rfl
          try simp only [Act.put, List.setIfInBounds_toArray, List.set_cons_zero, List.set_cons_succ]
          refine takeH 3 64 (v := ?vu3_3) rfl (by rfl) (by kernel_rfl) (by kernel_rfl) (by kernel_rfl) (fun _ _ _ h => h) (Or.inl ⟨by rfl, ?_⟩) ((And.intro x_o_u0 c_x_u0)) ?_
          rotate_left
          · intro wq hSq
            go_simp
            exact rfl
          try simp only [Act.put, List.setIfInBounds_toArray, List.set_cons_zero, List.set_cons_succ]
          refine takeH 4 65 (v := ?vu4_4) rfl (by rfl) (by kernel_rfl) (by kernel_rfl) (by kernel_rfl) (fun _ _ _ h => h) (Or.inl ⟨by rfl, ?_⟩) ((And.intro x_o_u0 c_x_u0)) ?_
          rotate_left
          · intro wq hSq
            have cq := hSq.2
            have zq := lt_of_cell cq
            go_simp
            exact rfl
          try simp only [Act.put, List.setIfInBounds_toArray, List.set_cons_zero, List.set_cons_succ]
          refine takeH 0 61 (v := .agg ([.slice p U.pv.length c, .slice q U.nx.length d, .int .i64 U.hd, .int .i64 U.tl]).toArray) rfl (by rfl) (by kernel_rfl) (by kernel_rfl) (by kernel_rfl) (fun _ _ _ h => h) (yieldsIf_load_mid (by rfl) _ _ rfl _ _ rfl ([.slice p U.pv.length c, .slice q U.nx.length d, .int .i64 U.hd, .int .i64 U.tl]) _ (fun wq hq => Box.range (hq.1)) Try.underlying24 rfl (size_od _ _ _ _)) ((And.intro x_o_u0 c_x_u0)) ?_
          try simp only [Act.put, List.setIfInBounds_toArray, List.set_cons_zero, List.set_cons_succ]
          refine wpAnyH_ready (rs := [5, 9]) (by kernel_rfl) (by simp) (AllReadyH.cons rfl (fun K hK => ?_) (AllReadyH.cons rfl (fun K hK => ?_) AllReadyH.nil))
          · skip
            go_simp
            have lo9 := (x_o_u0).lt
            refine (TK _ _ (HI.out.below K_wr_u0)).mono ?_
            rintro e Wu5 ⟨vx, rfl, hI, hF, hbu5⟩
            obtain ⟨xx, yy, rfl, rx, ry⟩ := id hI; obtain ⟨px, cx, rfl, hrx⟩ := id rx; obtain ⟨qx, dx, rfl, hry⟩ := id ry; clear hrx hry rx ry
            have HOB := Lib.hid (hF.off (b := bo) (by omega)); have HIR := Lib.hid hI; have hlow := hI.low (by rw [HRn.out.1]; exact h) (by rw [HRn.out.2]; exact h); clear hF hI lo9
            have x_o_u5 : Box Wu5 (bo) ([.slice p U.pv.length c, .slice q U.nx.length d, .int .i64 U.hd, .int .i64 U.tl]) := Box.below x_o_u0 hbu5
            have c_x_u5 := cell_below hbu5 c_x_u0
            have Bu5 := below_thru Bu0 hbu5
            have K_wr_u5 := below_thru K_wr_u0 hbu5
            clear x_o_u0 c_x_u0 Bu0 K_wr_u0 hbu5
            refine hK.out _ _ (And.intro x_o_u5 c_x_u5) (fun _ => ?_); clear hK K
            refine takeH 6 60 (v := ?vu6_6) rfl (by rfl) (by kernel_rfl) (by kernel_rfl) (by kernel_rfl) (fun _ _ _ h => h) (Or.inl ⟨by rfl, ?_⟩) ((And.intro x_o_u5 c_x_u5)) ?_
            rotate_left
            · intro wq hSq
              go_simp
              exact rfl
            try simp only [Act.put, List.setIfInBounds_toArray, List.set_cons_zero, List.set_cons_succ]
            refine takeH 7 67 (v := ?vu7_7) rfl (by rfl) (by kernel_rfl) (by kernel_rfl) (by kernel_rfl) (fun _ _ _ h => h) (Or.inl ⟨by rfl, ?_⟩) ((And.intro x_o_u5 c_x_u5)) ?_
            rotate_left
            · intro wq hSq
              go_simp
              exact rfl
            try simp only [Act.put, List.setIfInBounds_toArray, List.set_cons_zero, List.set_cons_succ]
            refine takeH 8 68 (v := ?vu8_8) rfl (by rfl) (by kernel_rfl) (by kernel_rfl) (by kernel_rfl) (fun _ _ _ h => h) (Or.inl ⟨by rfl, ?_⟩) ((And.intro x_o_u5 c_x_u5)) ?_
            rotate_left
            · intro wq hSq
              go_simp
              exact rfl
            try simp only [Act.put, List.setIfInBounds_toArray, List.set_cons_zero, List.set_cons_succ]
            refine wpAnyH_ready (rs := [9]) (by kernel_rfl) (by simp) (AllReadyH.cons rfl (fun K hK => ?_) AllReadyH.nil)
            go_simp
            have ql_o := (x_o_u5).lt
            have qk_wr := Below.size K_wr_u5
            have qs_p := Below.size Bu5
            refine hK.out _ _ (And.intro (Box.alloc x_o_u5 _) (cell_alloc c_x_u5)) (fun _ => ?_); clear hK K
            refine F_gen (F := fun W => wpAnyH _ _ _ _ _ _ _ _ W) (J := fun W => Box W (Wu5.heap.size) (od0) ∧ Below Wu5.heap.size Wu5 W) (And.intro (Box.newc (l := od0) rfl rfl) ((Below.refl _ _).alloc (Nat.le_refl _) _)) ?_
            intro Wu9 ⟨na_p_u9, hbu9⟩
            have HIR2 := Lib.hid (HIR.out.below hbu9); clear HIR
            have x_o_u9 : Box Wu9 (bo) ([.slice p U.pv.length c, .slice q U.nx.length d, .int .i64 U.hd, .int .i64 U.tl]) := Box.below x_o_u5 hbu9
            have c_x_u9 := cell_below hbu9 c_x_u5
            have Bu9 := below_thru Bu5 hbu9
            have K_wr_u9 := below_thru K_wr_u5 hbu9
            clear x_o_u5 c_x_u5 Bu5 K_wr_u5 hbu9
            obtain ⟨bx, hbx⟩ : ∃ b, Wu5.heap.size = b := ⟨_, rfl⟩
            rw [hbx] at na_p_u9 ql_o qk_wr qs_p hlow ⊢
            clear hbx
            have HIR := HIR2; clear HIR2; have HOX := Lib.hid hlow; clear hlow
            refine wpAnyH_ready (rs := [10]) (by kernel_rfl) (by simp) (AllReadyH.cons rfl (fun K hK => ?_) AllReadyH.nil)
            have nz_o := (x_o_u9).lt
            refine step_store_box0 (cs := [.slice px R.pv.length cx, .slice qx R.nx.length dx, .int .i64 R.hd, .int .i64 R.tl]) rfl rfl _ _ _ rfl na_p_u9 rfl rfl (size_od _ _ _ _) rfl (one_od _ _ _ _ _ _ _ _) ?_
            intro Wu10 hWu10
            have HIS := Lib.hid (IsO.stored hWu10 HIR.out HOX.out); clear HIR HOX
            have x_o_u10 : Box Wu10 (bo) ([.slice p U.pv.length c, .slice q U.nx.length d, .int .i64 U.hd, .int .i64 U.tl]) := hWu10.past _ _ (by omega) x_o_u9
            have c_x_u10 := hWu10.cell _ _ _ (by omega) c_x_u9
            have z_p_u10 := hWu10.box
            have Bu10 := hWu10.below _ _ (by omega) Bu9
            have K_wr_u10 := hWu10.below _ _ (by have := Below.size K_wr_u9; omega) K_wr_u9
            clear nz_o x_o_u9 c_x_u9 na_p_u9 Bu9 K_wr_u9 hWu10
            refine hK.out _ _ (And.intro x_o_u10 c_x_u10) (fun _ => ?_); clear hK K
            refine takeH 11 11 (v := ?vu11_11) rfl (by rfl) (by kernel_rfl) (by kernel_rfl) (by kernel_rfl) (fun _ _ _ h => h) (Or.inl ⟨by rfl, ?_⟩) ((And.intro x_o_u10 c_x_u10)) ?_
            rotate_left
            · intro wq hSq
              go_simp
              exact rfl
            try simp only [Act.put, List.setIfInBounds_toArray, List.set_cons_zero, List.set_cons_succ]
            refine wpAnyH_done (by kernel_rfl) ?_ _
            go_wp2_with fail
            go_meet
            exact ⟨bx, px, cx, qx, dx, rfl, rfl, by omega, by omega, z_p_u10, HIS, HOB, x_o_u10, Lib.hid (HI.out.below K_wr_u10), Bu10⟩
          · skip
            go_simp
            have ql_o := (x_o_u0).lt
            have qk_wr := Below.size K_wr_u0
            have qs_p := Below.size Bu0
            refine hK.out _ _ (And.intro (Box.alloc x_o_u0 _) (cell_alloc c_x_u0)) (fun _ => ?_); clear hK K
            refine F_gen (F := fun W => wpAnyH _ _ _ _ _ _ _ _ W) (J := fun W => Box W (Wu0.heap.size) (od0) ∧ Below Wu0.heap.size Wu0 W) (And.intro (Box.newc (l := od0) rfl rfl) ((Below.refl _ _).alloc (Nat.le_refl _) _)) ?_
            intro Wu12 ⟨na_p_u12, hbu12⟩
            have x_o_u12 : Box Wu12 (bo) ([.slice p U.pv.length c, .slice q U.nx.length d, .int .i64 U.hd, .int .i64 U.tl]) := Box.below x_o_u0 hbu12
            have c_x_u12 := cell_below hbu12 c_x_u0
            have Bu12 := below_thru Bu0 hbu12
            have K_wr_u12 := below_thru K_wr_u0 hbu12
            clear x_o_u0 c_x_u0 Bu0 K_wr_u0 hbu12
            obtain ⟨bx, hbx⟩ : ∃ b, Wu0.heap.size = b := ⟨_, rfl⟩
            rw [hbx] at na_p_u12 ql_o qk_wr qs_p ⊢
            clear hbx
            refine wpAnyH_ready (rs := [5]) (by kernel_rfl) (by simp) (AllReadyH.cons rfl (fun K hK => ?_) AllReadyH.nil)
            go_simp
            have lz := (na_p_u12).lt
            have lo9 := (x_o_u12).lt
            refine (TK _ _ (HI.out.below K_wr_u12)).mono ?_
            rintro e Wu13 ⟨vx, rfl, hI, hF, hbu13⟩
            obtain ⟨xx, yy, rfl, rx, ry⟩ := id hI; obtain ⟨px, cx, rfl, hrx⟩ := id rx; obtain ⟨qx, dx, rfl, hry⟩ := id ry; clear hrx hry rx ry
            have HOB := Lib.hid (hF.off (b := bo) (by omega)); have HIR := Lib.hid hI; have HOX := Lib.hid (hF.off (b := bx) (by omega)); clear hF hI lo9 lz
            have x_o_u13 : Box Wu13 (bo) ([.slice p U.pv.length c, .slice q U.nx.length d, .int .i64 U.hd, .int .i64 U.tl]) := Box.below x_o_u12 hbu13
            have c_x_u13 := cell_below hbu13 c_x_u12
            have z_p_u13 : Box Wu13 (bx) (od0) := Box.below na_p_u12 hbu13
            have Bu13 := below_thru Bu12 hbu13
            have K_wr_u13 := below_thru K_wr_u12 hbu13
            clear x_o_u12 c_x_u12 na_p_u12 Bu12 K_wr_u12 hbu13
            refine hK.out _ _ (And.intro x_o_u13 c_x_u13) (fun _ => ?_); clear hK K
            refine takeH 6 60 (v := ?vu6_14) rfl (by rfl) (by kernel_rfl) (by kernel_rfl) (by kernel_rfl) (fun _ _ _ h => h) (Or.inl ⟨by rfl, ?_⟩) ((And.intro x_o_u13 c_x_u13)) ?_
            rotate_left
            · intro wq hSq
              go_simp
              exact rfl
            try simp only [Act.put, List.setIfInBounds_toArray, List.set_cons_zero, List.set_cons_succ]
            refine takeH 7 67 (v := ?vu7_15) rfl (by rfl) (by kernel_rfl) (by kernel_rfl) (by kernel_rfl) (fun _ _ _ h => h) (Or.inl ⟨by rfl, ?_⟩) ((And.intro x_o_u13 c_x_u13)) ?_
            rotate_left
            · intro wq hSq
              go_simp
              exact rfl
            try simp only [Act.put, List.setIfInBounds_toArray, List.set_cons_zero, List.set_cons_succ]
            refine takeH 8 68 (v := ?vu8_16) rfl (by rfl) (by kernel_rfl) (by kernel_rfl) (by kernel_rfl) (fun _ _ _ h => h) (Or.inl ⟨by rfl, ?_⟩) ((And.intro x_o_u13 c_x_u13)) ?_
            rotate_left
            · intro wq hSq
              go_simp
              exact rfl
            try simp only [Act.put, List.setIfInBounds_toArray, List.set_cons_zero, List.set_cons_succ]
            refine wpAnyH_ready (rs := [10]) (by kernel_rfl) (by simp) (AllReadyH.cons rfl (fun K hK => ?_) AllReadyH.nil)
            have nz_o := (x_o_u13).lt
            refine step_store_box0 (cs := [.slice px R.pv.length cx, .slice qx R.nx.length dx, .int .i64 R.hd, .int .i64 R.tl]) rfl rfl _ _ _ rfl z_p_u13 rfl rfl (size_od _ _ _ _) rfl (one_od _ _ _ _ _ _ _ _) ?_
            intro Wu17 hWu17
            have HIS := Lib.hid (IsO.stored hWu17 HIR.out HOX.out); clear HIR HOX
            have x_o_u17 : Box Wu17 (bo) ([.slice p U.pv.length c, .slice q U.nx.length d, .int .i64 U.hd, .int .i64 U.tl]) := hWu17.past _ _ (by omega) x_o_u13
            have c_x_u17 := hWu17.cell _ _ _ (by omega) c_x_u13
            have z_p_u17 := hWu17.box
            have Bu17 := hWu17.below _ _ (by omega) Bu13
            have K_wr_u17 := hWu17.below _ _ (by have := Below.size K_wr_u13; omega) K_wr_u13
            clear nz_o x_o_u13 c_x_u13 z_p_u13 Bu13 K_wr_u13 hWu17
            refine hK.out _ _ (And.intro x_o_u17 c_x_u17) (fun _ => ?_); clear hK K
            refine takeH 11 11 (v := ?vu11_18) rfl (by rfl) (by kernel_rfl) (by kernel_rfl) (by kernel_rfl) (fun _ _ _ h => h) (Or.inl ⟨by rfl, ?_⟩) ((And.intro x_o_u17 c_x_u17)) ?_
            rotate_left
            · intro wq hSq
              go_simp
              exact rfl
            try simp only [Act.put, List.setIfInBounds_toArray, List.set_cons_zero, List.set_cons_succ]
            refine wpAnyH_done (by kernel_rfl) ?_ _
            go_wp2_with fail
            go_meet
            exact ⟨bx, px, cx, qx, dx, rfl, rfl, by omega, by omega, z_p_u17, HIS, HOB, x_o_u17, Lib.hid (HI.out.below K_wr_u17), Bu17⟩
        case rest =>
          clear x_o20 hB20 hs20 K_wr_20
          obtain ⟨bx, px, cx, qx, dx, rfl, rfl, hne, lbx, x_p21, HIR, HOB, x_o21, HI2, hB21⟩ := hcut
          obtain ⟨wY, rfl⟩ : ∃ u : World, u = wc := ⟨_, rfl⟩; clear HI; have HI := HI2; clear HI2
          have hs21 := hB21.size
          have f1 := cell_below hB21 E1.out; have z1 := lt_of_cell f1
          have K_wY_21 : Below wY.heap.size wY wY := Below.refl _ _
          go_upto_region 13 with fail
          clear f1 z1 e0 e1 e1n
          go_wp2_with (refine wpList_load_box9 rfl _ _ rfl x_p21 rfl Try.underlying24 rfl (size_od _ _ _ _) ?_)
          refine (CK _ _ (HIR.out.below K_wY_21)).mono ?_
          rintro e w22 ⟨rfl, hb⟩
          have K_wY_22 : Below wY.heap.size wY w22 := below_thru K_wY_21 hb
          clear K_wY_21
          have hB22 : Below w.heap.size w w22 := below_thru hB21 hb
          have hs22 := hB22.size
          have x_o22 : Box w22 (bo) ([.slice p U.pv.length c, .slice q U.nx.length d, .int .i64 U.hd, .int .i64 U.tl]) := Box.below x_o21 hb
          have x_p22 : Box w22 (bx) ([.slice px R.pv.length cx, .slice qx R.nx.length dx, .int .i64 R.hd, .int .i64 R.tl]) := Box.below x_p21 hb
          clear hB21 hs21 x_o21 x_p21
          clear hb
          have xl := x_p22.lt; have HIR9 := Lib.hid (HIR.out.below K_wY_22)
          clear K_wY_22
          go_upto_region 8 with (first | (refine wpList_load_box9 rfl _ _ rfl x_p22 rfl Try.underlying24 rfl (size_od _ _ _ _) ?_) | (refine wpList_store_box (cs := [.slice px R.pv.length cx, .slice qx R.nx.length dx, .int .i64 R.hd, .int .i64 R.tl]) rfl _ _ _ rfl x_o22 rfl rfl (size_od _ _ _ _) rfl (one_od _ _ _ _ _ _ _ _) ?_; intro W8 hW8))
          have HI8 := Lib.hid (IsO.stored hW8 HIR9.out HOB.out); have x_o8 := hW8.box; have hB8 := hW8.below _ _ (by omega) hB22; clear hW8
          go_wp2_with fail
          go_roundw
          case rel => exact ⟨k + 1, R, _, px, cx, qx, dx, by omega, by go_num, HV2, HRn, HT, HI8, HOB, x_o8, hB8⟩
          case measure => simp [intOf]; omega
    case neg =>
      have HE := Lib.hid (show bk n ls = l by rw [bk_all, HL.out, List.take_of_length_le (by rw [HM.out]; omega)])
      have hd : decide ((k : Int) < (m : Int)) = false := decide_eq_false (by omega)
      clear HL hk
      have W0 : IntKind.i64.wrap ((m : Int) - 1) = (m : Int) - 1 := by rw [IntKind.wrap_i64]; omega
      have lZ := Lib.hid x_o.lt; have lZ2 := Lib.hid hs
      obtain ⟨wZ, rfl⟩ : ∃ u : World, u = wr := ⟨_, rfl⟩
      go_wp2_with fail
      clear hd W0 hlt
      go_loopw [8, 12] (fun p8 i wr => ∃ j : Nat, j ≤ m ∧ i = .int .i64 ((j : Int) - 1) ∧ Hid (wr.ownsRow wZ.heap.size 3 1 p8 (bk n (ls.drop j)).length (flatR LI (nums (bk n (ls.drop j))))) ∧ Box wr bo [.slice p U.pv.length c, .slice q U.nx.length d, .int .i64 U.hd, .int .i64 U.tl] ∧ Below wZ.heap.size wZ wr ∧ Below w.heap.size w wr) (fun _ i _ => ((intOf i) + 1).toNat)
      case atStart => exact ⟨m, Nat.le_refl _, rfl, Lib.hid (by rw [List.drop_eq_nil_of_le (by rw [HM.out]; exact Nat.le_refl _)]; exact ownR_none), x_o, Below.refl _ _, hB⟩
      case round =>
        clear x_o hB hs
        obtain ⟨j, hj, rfl, HW, x_o, hBZ, hB⟩ := hrel
        have hs := hB.size
        by_cases hj0 : j = 0
        case neg =>
          obtain ⟨i, rfl⟩ : ∃ i, j = i + 1 := ⟨j - 1, by omega⟩
          clear hj0
          have hi1 : ((i + 1 : Nat) : Int) - 1 = (i : Int) := by omega
          rw [hi1]
          obtain ⟨x, hx⟩ : ∃ x, ls[i]? = some x := ⟨_, List.getElem?_eq_getElem (by rw [HM.out]; omega)⟩
          obtain ⟨b1, o1, rfl, e1⟩ := H1.out.getI hx
          have f1 := cell_below hB e1; have z1 := lt_of_cell f1; have E1 := Lib.hid e1; clear e1
          have HS := Lib.hid (bk_cons (n := n) hx)
          have hWl : (bk n (ls.drop (i + 1))).length ≤ 60 := Nat.le_trans (bk_len _ _) (by rw [List.length_drop, HM.out]; omega)
          obtain ⟨AA, hA⟩ : ∃ A, bk n (ls.drop (i + 1)) = A := ⟨_, rfl⟩; rw [hA] at HS HW hWl; clear hA hx hi1
          have i0 : (0 : Int) ≤ (i : Int) := (by omega); have i1 : (i : Int) < (m : Int) := (by omega); have g0 : decide (0 ≤ (i : Int)) = true := decide_eq_true i0
          have W1 : IntKind.i64.wrap ((i : Int) - 1) = (i : Int) - 1 := by rw [IntKind.wrap_i64]; omega
          obtain ⟨pa, pc, rfl⟩ := own_slR HW.out
          by_cases hx0 : 0 ≤ x
          case neg =>
            have e0 : decide (0 ≤ x) = false := decide_eq_false hx0
            have HS2 := Lib.hid (show bk n (ls.drop i) = AA by rw [HS.out]; unfold bks; rw [if_neg (by omega)]); clear HS
            go_wp2_with fail
            go_roundw
            case rel => exact ⟨i, by omega, rfl, Lib.hid (by rw [HS2.out]; exact HW.out), x_o, hBZ, hB⟩
            case measure => simp [intOf]
          case pos =>
            have e0 : decide (0 ≤ x) = true := decide_eq_true hx0
            by_cases hxn : x < (n : Int)
            case neg =>
              have e1 : decide (x < (n : Int)) = false := decide_eq_false hxn
              have HS2 := Lib.hid (show bk n (ls.drop i) = AA by rw [HS.out]; unfold bks; rw [if_neg (by omega)]); clear HS
              go_wp2_with fail
              go_roundw
              case rel => exact ⟨i, by omega, rfl, Lib.hid (by rw [HS2.out]; exact HW.out), x_o, hBZ, hB⟩
              case measure => simp [intOf]
            case pos =>
              have e1 : decide (x < (n : Int)) = true := decide_eq_true hxn
              obtain ⟨y, rfl⟩ : ∃ y : Nat, x = y := ⟨x.toNat, by omega⟩
              have HS1 := Lib.hid (show bk n (ls.drop i) = if y ∈ AA then AA else AA ++ [y] by rw [HS.out]; unfold bks; rw [if_pos ⟨hx0, hxn⟩]; rfl); clear HS
              have JW : Hid (IsR LI wr (.slice pa AA.length pc) (nums AA)) := Lib.hid (IsR.own HW.out rfl (nums_len AA).symm)
              obtain ⟨b, hb⟩ := bool_of (y ∈ AA)
              have IN := fun (W : World) (u : Value) (g : IsR LI W u (nums AA)) => rin_is (x := (y : Int)) (b := b) W g (hb.trans nums_mem.symm)
              go_wp2_with fail
              refine (IN _ _ JW.out).mono ?_
              rintro e w9 ⟨rfl, hb9⟩
              have x_o9 := x_o.below hb9; have hB9 := below_thru hB hb9; have hBZ9 := below_thru hBZ hb9; have HW9 := Lib.hid (ownR_below HW.out hb9); have hs9 := hB9.size; clear x_o hB hBZ HW JW hb9 hs f1 z1
              have x_o := x_o9; have hB := hB9; have hBZ := hBZ9; have HW := HW9; clear x_o9 hB9 hBZ9 HW9
              have f1 := cell_below hB E1.out; have z1 := lt_of_cell f1
              cases b with
              | true =>
                have HS2 := Lib.hid (show bk n (ls.drop i) = AA by rw [HS1.out, if_pos (hb.1 rfl)]); clear HS1 hb
                go_wp2_with fail
                go_roundw
                case rel => exact ⟨i, by omega, rfl, Lib.hid (by rw [HS2.out]; exact HW.out), x_o, hBZ, hB⟩
                case measure => simp [intOf]
              | false =>
                have HS2 := Lib.hid (show bk n (ls.drop i) = AA ++ [y] by rw [HS1.out, if_neg (fun q => Bool.false_ne_true (hb.2 q))]); clear HS1 hb
                have LX : IsR LI (w9.alloc (.cells #[.int .i64 (y : Int)] 3)) (.slice (some ⟨w9.heap.size, 0, none⟩) 1 1) [(y : Int)] := IsR.built [(y : Int)] rfl rfl rfl rfl (show 1 ≤ 1000 by decide)
                have LO := ownR_below HW.out ((Below.refl _ _).alloc (Nat.le_refl _) (.cells #[.int .i64 (y : Int)] 3))
                have hz9 := hBZ.size; have lo9 := x_o.lt
                go_upto_region 18 with (at_builtin; refine wpList_append_rows rfl LI _ _ 22 rfl wZ.heap.size 3 tiLI (.int .i64 0) 1 8 rfl Try.underlying22 hin hz0 hz1 hz2 rfl _ AA.length _ rfl LO _ [(y : Int)] rfl LX (by unfold maxLen; simp; omega) (by simp; omega) (by simp; omega) ?_; intro v40 w40 own4 gr4)
                have hKB := (Below.refl wZ.heap.size _).grown gr4 (by simp; omega) (ownR_block LO)
                have x_o3 : Box w40 bo _ := Box.keep12 (x_o.alloc (.cells #[.int .i64 (y : Int)] 3)) hKB lZ.out
                have hBZ3 : Below wZ.heap.size wZ w40 := (hBZ.alloc hz9 (.cells #[.int .i64 (y : Int)] 3)).trans hKB
                have hB3 : Below w.heap.size w w40 := (hB.alloc hs9 (.cells #[.int .i64 (y : Int)] 3)).trans (hKB.mono lZ2.out)
                have HO3 : Hid (w40.ownsRow wZ.heap.size 3 1 v40 (AA ++ [y]).length (flatR LI (nums (AA ++ [y])))) := Lib.hid (by
                  rw [nums_snoc, flatR_app, List.length_append]
                  exact own4)
                clear own4 gr4 hKB LO LX HW x_o hB hBZ hs9 hz9 lo9 f1 z1
                have x_o := x_o3; have hB := hB3; have hBZ := hBZ3; clear x_o3 hB3 hBZ3
                go_wp2_with fail
                go_roundw
                case rel => exact ⟨i, by omega, rfl, Lib.hid (by rw [HS2.out]; exact HO3.out), x_o, hBZ, hB⟩
                case measure => simp [intOf]
        case pos =>
          subst hj0
          have HW2 : Hid (wr.ownsRow wZ.heap.size 3 1 _ l.length (flatR LI (nums l))) := Lib.hid (by have h9 := HW.out; rw [List.drop_zero, HE.out] at h9; exact h9)
          clear HW HE
          obtain ⟨pa, pc, rfl⟩ := own_slR HW2.out
          have JW : Hid (IsR LI wr (.slice pa l.length pc) (nums l)) := Lib.hid (IsR.own HW2.out rfl (nums_len l).symm); clear HW2
          have g0 : decide ((0 : Int) ≤ ((0 : Nat) : Int) - 1) = false := rfl
          have HIr := Lib.hid (HI.out.below hBZ)
          have L1 := fun (W : World) (u : Value) (g : IsO W u U) => pllist_is (Or.inr ⟨rfl, HV.out⟩) W g
          have SI := fun (W : World) (u v : Value) (h : IsR LI W u (nums l)) (g : IsR LI W v (nums l)) => rlsi_is (b := true) W h g ⟨fun _ => rfl, fun _ => rfl⟩
          have hle : l.length ≤ 16 := Nat.le_trans HV.out.le HV.out.most
          cases l with
          | nil =>
            have LA := fun (W : World) (u : Value) (g : IsO W u U) => pllast_is (Or.inr ⟨[], HV.out, Or.inl ⟨rfl, rfl, rfl⟩⟩) W g
            rw [show ([] : List Nat).length = 0 from rfl] at JW ⊢
            have x_o30 := x_o; have hB30 := hB; have hs30 := hs; clear x_o hB hs
            have K_wr_30 : Below wr.heap.size wr wr := Below.refl _ _
            go_wp2_with (refine wpList_load_box9 rfl _ _ rfl x_o30 rfl Try.underlying24 rfl (size_od _ _ _ _) ?_)
            refine (L1 _ _ HIr.out).mono ?_
            rintro e w31 ⟨ug, rfl, hI, hF, hb⟩
            have K_wr_31 : Below wr.heap.size wr w31 := below_thru K_wr_30 hb
            clear K_wr_30
            have hB31 : Below w.heap.size w w31 := below_thru hB30 hb
            have hs31 := hB31.size
            have x_o31 : Box w31 (bo) ([.slice p U.pv.length c, .slice q U.nx.length d, .int .i64 U.hd, .int .i64 U.tl]) := Box.below x_o30 hb
            clear hB30 hs30 x_o30
            clear hb hF
            have K_w31_31 : Below w31.heap.size w31 w31 := Below.refl _ _
            have Jg : Hid (IsR LI w31 ug (nums [])) := Lib.hid hI; clear hI
            clear g0
            go_wp2_with (refine wpList_load_box9 rfl _ _ rfl x_o31 rfl Try.underlying24 rfl (size_od _ _ _ _) ?_)
            refine (LA _ _ (HIr.out.below K_wr_31)).mono ?_
            rintro e w32 ⟨rfl, hb⟩
            have K_wr_32 : Below wr.heap.size wr w32 := below_thru K_wr_31 hb
            have K_w31_32 : Below w31.heap.size w31 w32 := below_thru K_w31_31 hb
            clear K_wr_31 K_w31_31
            have hB32 : Below w.heap.size w w32 := below_thru hB31 hb
            have hs32 := hB32.size
            have x_o32 : Box w32 (bo) ([.slice p U.pv.length c, .slice q U.nx.length d, .int .i64 U.hd, .int .i64 U.tl]) := Box.below x_o31 hb
            clear hB31 hs31 x_o31
            clear hb
            go_wp2_with fail
            refine (SI _ _ _ (Jg.out.below K_w31_32) (JW.out.below K_wr_32)).mono ?_
            rintro e w33 ⟨rfl, hb⟩
            have K_wr_33 : Below wr.heap.size wr w33 := below_thru K_wr_32 hb
            have K_w31_33 : Below w31.heap.size w31 w33 := below_thru K_w31_32 hb
            clear K_wr_32 K_w31_32
            have hB33 : Below w.heap.size w w33 := below_thru hB32 hb
            have hs33 := hB33.size
            have x_o33 : Box w33 (bo) ([.slice p U.pv.length c, .slice q U.nx.length d, .int .i64 U.hd, .int .i64 U.tl]) := Box.below x_o32 hb
            clear hB32 hs32 x_o32
            clear hb
            clear K_wr_33 K_w31_33
            go_wp2_with fail
            go_returns
            exact ⟨rfl, hB33⟩
          | cons y0 l0 =>
            obtain ⟨a, y, ha⟩ := snoc_of (show y0 :: l0 ≠ [] by simp)
            rw [ha] at HV JW L1 SI hle ⊢; clear ha
            have LA := fun (W : World) (u : Value) (g : IsO W u U) => pllast_is (Or.inr ⟨_, HV.out, Or.inr ⟨rfl, by simp, rfl⟩⟩) W g
            rw [lstO_snoc] at LA
            have eln : (a ++ [y]).length = a.length + 1 := by rw [List.length_append, List.length_singleton]
            obtain ⟨b1, o1, rfl, e1⟩ := JW.out.getI (i := a.length) (x := (y : Int)) nums_last
            have EW := Lib.hid e1; clear e1
            obtain ⟨M, hM⟩ : ∃ M, a.length = M := ⟨_, rfl⟩
            rw [hM] at eln EW; rw [eln] at hle JW ⊢; clear hM eln
            have e0 : decide (0 < ((M + 1 : Nat) : Int)) = true := decide_eq_true (by omega); have W1 : IntKind.i64.wrap (((M + 1 : Nat) : Int) - 1) = (M : Int) := by rw [IntKind.wrap_i64]; omega
            have W2 : IntKind.i64.wrap (M : Int) = (M : Int) := by rw [IntKind.wrap_i64]; omega
            have i0 : (0 : Int) ≤ (M : Int) := (by omega); have i1 : (M : Int) < ((M + 1 : Nat) : Int) := (by omega); have c0 := beq_self_eq_true (y : Int)
            obtain ⟨lz, hlz⟩ : ∃ z, a ++ [y] = z := ⟨_, rfl⟩; rw [hlz] at L1 SI JW; clear hlz
            have x_o30 := x_o; have hB30 := hB; have hs30 := hs; clear x_o hB hs
            have K_wr_30 : Below wr.heap.size wr wr := Below.refl _ _
            go_wp2_with (refine wpList_load_box9 rfl _ _ rfl x_o30 rfl Try.underlying24 rfl (size_od _ _ _ _) ?_)
            refine (L1 _ _ HIr.out).mono ?_
            rintro e w31 ⟨ug, rfl, hI, hF, hb⟩
            have K_wr_31 : Below wr.heap.size wr w31 := below_thru K_wr_30 hb
            clear K_wr_30
            have hB31 : Below w.heap.size w w31 := below_thru hB30 hb
            have hs31 := hB31.size
            have x_o31 : Box w31 (bo) ([.slice p U.pv.length c, .slice q U.nx.length d, .int .i64 U.hd, .int .i64 U.tl]) := Box.below x_o30 hb
            clear hB30 hs30 x_o30
            clear hb hF
            have K_w31_31 : Below w31.heap.size w31 w31 := Below.refl _ _
            have Jg : Hid (IsR LI w31 ug (nums lz)) := Lib.hid hI; clear hI
            clear g0
            go_wp2_with (refine wpList_load_box9 rfl _ _ rfl x_o31 rfl Try.underlying24 rfl (size_od _ _ _ _) ?_)
            refine (LA _ _ (HIr.out.below K_wr_31)).mono ?_
            rintro e w32 ⟨rfl, hb⟩
            have K_wr_32 : Below wr.heap.size wr w32 := below_thru K_wr_31 hb
            have K_w31_32 : Below w31.heap.size w31 w32 := below_thru K_w31_31 hb
            clear K_wr_31 K_w31_31
            have hB32 : Below w.heap.size w w32 := below_thru hB31 hb
            have hs32 := hB32.size
            have x_o32 : Box w32 (bo) ([.slice p U.pv.length c, .slice q U.nx.length d, .int .i64 U.hd, .int .i64 U.tl]) := Box.below x_o31 hb
            clear hB31 hs31 x_o31
            clear hb
            go_wp2_with fail
            refine (SI _ _ _ (Jg.out.below K_w31_32) (JW.out.below K_wr_32)).mono ?_
            rintro e w33 ⟨rfl, hb⟩
            have K_wr_33 : Below wr.heap.size wr w33 := below_thru K_wr_32 hb
            have K_w31_33 : Below w31.heap.size w31 w33 := below_thru K_w31_32 hb
            clear K_wr_32 K_w31_32
            have hB33 : Below w.heap.size w w33 := below_thru hB32 hb
            have hs33 := hB33.size
            have x_o33 : Box w33 (bo) ([.slice p U.pv.length c, .slice q U.nx.length d, .int .i64 U.hd, .int .i64 U.tl]) := Box.below x_o32 hb
            clear hB32 hs32 x_o32
            clear hb
            have f1 := cell_below K_wr_33 EW.out; have z1 := lt_of_cell f1; clear K_wr_33 K_w31_33
            go_wp2_with fail
            go_returns
            exact ⟨rfl, hB33⟩

theorem uses15_is {p : Int} {v : Value} {ls : List Int} (w : World) (h1 : IsR LI w v ls) : Calls Try.prog 5 #[.int .i64 p, v] w fun e w' => e = .returned (.bool true) ∧ Below w.heap.size w w' := by
  by_cases h : p < 1
  · exact uses15_a h w h1
  · by_cases h2 : 16 < p
    · exact uses15_b h2 w h1
    · obtain ⟨n, rfl⟩ : ∃ n : Nat, p = n := ⟨p.toNat, by omega⟩
      by_cases hl : 60 < ls.length
      · exact uses15_c (by omega) (by omega) hl w h1
      · exact uses15_d (by omega) (by omega) (by omega) w h1


end Go.Proofs.Ytjhlpkkefdohjaa
