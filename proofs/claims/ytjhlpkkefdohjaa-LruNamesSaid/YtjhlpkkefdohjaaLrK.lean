/-
  Layer 15's statements, walked: alive, LruDoes.
-/
import Derived.Test.YtjhlpkkefdohjaaLrF
import Derived.Test.YtjhlpkkefdohjaaLrJ
namespace Go.Proofs.Ytjhlpkkefdohjaa
open Go.RowKit

theorem TcO.at {n : Nat} {l : List Nat} (h1 : 1 ≤ n) (h2 : n ≤ 16) (h3 : ∀ i ∈ l, i < n) (h4 : l.Nodup) {i : Nat} (hi : i < n) : TcO (ofL n l) i (ofL n (i :: woO l i)) 0 := by
  have := TcO.of (VO.of h1 h2 h3 h4) (i := i) (by rw [ofL_pv]; exact hi)
  rwa [ofL_pv] at this
theorem RmO.at {n : Nat} {l : List Nat} (h1 : 1 ≤ n) (h2 : n ≤ 16) (h3 : ∀ i ∈ l, i < n) (h4 : l.Nodup) {i : Nat} (hil : i ∈ l) : RmO (ofL n l) i (ofL n (woO l i)) 0 :=
  Or.inr ⟨l, VO.of h1 h2 h3 h4, Or.inr ⟨i, rfl, by rw [ofL_pv]; exact h3 i hil, Or.inr ⟨rfl, hil, by rw [ofL_pv]⟩⟩⟩
theorem LiO.at {n : Nat} {l : List Nat} (h1 : 1 ≤ n) (h2 : n ≤ 16) (h3 : ∀ i ∈ l, i < n) (h4 : l.Nodup) : LiO (ofL n l) l 0 := Or.inr ⟨rfl, VO.of h1 h2 h3 h4⟩
theorem same_o (O : Od) : true = true ↔ O = O := ⟨fun _ => rfl, fun _ => rfl⟩
theorem rltwin_res {v : Value} {O : Od} (w : World) (h1 : IsO w v O) (hl : O.pv.length ≤ 200 ∧ O.nx.length ≤ 200) : Calls Try.prog 9 #[v] w fun e w' => ∃ u, e = .returned u ∧ ResO O w u w' := (rltwin_is w h1 hl).mono fun _ _ h => h.res
theorem nw_15 : NwO 4 (ofL 4 []) 0 := Or.inr ⟨rfl, 4, rfl, by decide, by decide, rfl⟩
theorem ta_15 : TcO (ofL 4 []) 2 (ofL 4 [2]) 0 := TcO.at (l := []) (i := 2) (by decide) (by decide) (by decide) (by decide) (by decide)
theorem tb_15 : TcO (ofL 4 [2]) 0 (ofL 4 [0, 2]) 0 := TcO.at (l := [2]) (i := 0) (by decide) (by decide) (by decide) (by decide) (by decide)
theorem tc_15 : TcO (ofL 4 [0, 2]) 3 (ofL 4 [3, 0, 2]) 0 := TcO.at (l := [0, 2]) (i := 3) (by decide) (by decide) (by decide) (by decide) (by decide)
theorem td_15 : TcO (ofL 4 [3, 0, 2]) 0 (ofL 4 [0, 3, 2]) 0 := TcO.at (l := [3, 0, 2]) (i := 0) (by decide) (by decide) (by decide) (by decide) (by decide)
theorem rx_15 : RmO (ofL 4 [0, 3, 2]) 3 (ofL 4 [0, 2]) 0 := RmO.at (l := [0, 3, 2]) (i := 3) (by decide) (by decide) (by decide) (by decide) (by decide)
theorem lc_15 : LiO (ofL 4 [3, 0, 2]) [3, 0, 2] 0 := LiO.at (by decide) (by decide) (by decide) (by decide)
theorem ld_15 : LiO (ofL 4 [0, 3, 2]) [0, 3, 2] 0 := LiO.at (by decide) (by decide) (by decide) (by decide)
theorem lx_15 : LiO (ofL 4 [0, 2]) [0, 2] 0 := LiO.at (by decide) (by decide) (by decide) (by decide)
theorem la_15 : LaO (ofL 4 [0, 2]) 2 0 := Or.inr ⟨[0, 2], VO.of (by decide) (by decide) (by decide) (by decide), Or.inr ⟨rfl, by decide, rfl⟩⟩

set_option maxRecDepth 100000 in
set_option maxHeartbeats 6400000 in
theorem alive15_is (w : World) : Calls Try.prog 24 #[] w fun e w' => e = .returned (.bool true) ∧ Below w.heap.size w w' := by
  have NW := fun W => plnew_is nw_15 W
  have TA := fun (W : World) (v : Value) (h : IsO W v (ofL 4 [])) => pltouch_is ta_15 W h
  have TB := fun (W : World) (v : Value) (h : IsO W v (ofL 4 [2])) => pltouch_is tb_15 W h
  have TC := fun (W : World) (v : Value) (h : IsO W v (ofL 4 [0, 2])) => pltouch_is tc_15 W h
  have TD := fun (W : World) (v : Value) (h : IsO W v (ofL 4 [3, 0, 2])) => pltouch_is td_15 W h
  have RX := fun (W : World) (v : Value) (h : IsO W v (ofL 4 [0, 3, 2])) => plremove_is rx_15 W h
  have LC := fun (W : World) (v : Value) (h : IsO W v (ofL 4 [3, 0, 2])) => pllist_is lc_15 W h
  have LD := fun (W : World) (v : Value) (h : IsO W v (ofL 4 [0, 3, 2])) => pllist_is ld_15 W h
  have LXX := fun (W : World) (v : Value) (h : IsO W v (ofL 4 [0, 2])) => pllist_is lx_15 W h
  have LA := fun (W : World) (v : Value) (h : IsO W v (ofL 4 [0, 2])) => pllast_is la_15 W h
  have S302 : ∀ (W : World) (u v : Value), IsR LI W u (nums [3, 0, 2]) → IsR LI W v (nums [3, 0, 2]) → Calls Try.prog 23 #[u, v] W fun e w' => e = .returned (.bool true) ∧ Below W.heap.size W w' := fun W u v h g => rlsi_is (b := true) W h g ⟨fun _ => rfl, fun _ => rfl⟩
  have S032 : ∀ (W : World) (u v : Value), IsR LI W u (nums [0, 3, 2]) → IsR LI W v (nums [0, 3, 2]) → Calls Try.prog 23 #[u, v] W fun e w' => e = .returned (.bool true) ∧ Below W.heap.size W w' := fun W u v h g => rlsi_is (b := true) W h g ⟨fun _ => rfl, fun _ => rfl⟩
  have S02 : ∀ (W : World) (u v : Value), IsR LI W u (nums [0, 2]) → IsR LI W v (nums [0, 2]) → Calls Try.prog 23 #[u, v] W fun e w' => e = .returned (.bool true) ∧ Below W.heap.size W w' := fun W u v h g => rlsi_is (b := true) W h g ⟨fun _ => rfl, fun _ => rfl⟩
  obtain ⟨A0, hA0⟩ : ∃ A, ofL 4 [] = A := ⟨_, rfl⟩
  obtain ⟨A1, hA1⟩ : ∃ A, ofL 4 [2] = A := ⟨_, rfl⟩
  obtain ⟨A2, hA2⟩ : ∃ A, ofL 4 [0, 2] = A := ⟨_, rfl⟩
  obtain ⟨A3, hA3⟩ : ∃ A, ofL 4 [3, 0, 2] = A := ⟨_, rfl⟩
  obtain ⟨A4, hA4⟩ : ∃ A, ofL 4 [0, 3, 2] = A := ⟨_, rfl⟩
  rw [hA0] at NW TA; rw [hA1] at TA TB; rw [hA2] at TB TC RX LXX LA; rw [hA3] at TC TD LC; rw [hA4] at TD RX LD; clear hA0 hA1 hA2 hA3 hA4
  have hB0 := Below.refl w.heap.size w
  have hs0 := hB0.size
  go_enter Try.func24, Try.ntmps24
  go_wp2_with fail
  refine (NW _).mono ?_
  rintro e w1 ⟨va, rfl, hI, hF, hb⟩
  obtain ⟨xa, ya, rfl, rx, ry⟩ := id hI; obtain ⟨pa, ca, rfl, hrx⟩ := id rx; obtain ⟨qa, da, rfl, hry⟩ := id ry; clear hrx hry rx ry hF
  have hB1 : Below w.heap.size w w1 := below_thru hB0 hb
  have hs1 := hB1.size
  clear hB0 hs0
  clear hb
  have K_w1_1 : Below w1.heap.size w1 w1 := Below.refl _ _
  have Ia : Hid (IsO w1 (.agg [.slice pa A0.pv.length ca, .slice qa A0.nx.length da, .int .i64 A0.hd, .int .i64 A0.tl].toArray) A0) := Lib.hid hI; clear hI
  have d_a_0 := hs1
  go_upto_region 2 with (refine wpList_store_box (cs := [.slice pa A0.pv.length ca, .slice qa A0.nx.length da, .int .i64 A0.hd, .int .i64 A0.tl]) rfl _ _ _ rfl (Box.newc (l := od0) rfl rfl) rfl rfl (size_od _ _ _ _) rfl (one_od _ _ _ _ _ _ _ _) ?_; intro W1_0 hW1_0)
  have hN : Below w1.heap.size w1 W1_0 := (hW1_0.below _ _ (by omega) ((Below.refl _ w1).alloc (Nat.le_refl _) _))
  have x_a2 : Box W1_0 (w1.heap.size) ([.slice pa A0.pv.length ca, .slice qa A0.nx.length da, .int .i64 A0.hd, .int .i64 A0.tl]) := hW1_0.box
  have K_w1_2 : Below w1.heap.size w1 W1_0 := below_thru K_w1_1 hN
  clear K_w1_1
  have hB2 : Below w.heap.size w W1_0 := below_thru hB1 hN
  have hs2 := hB2.size
  clear hB1 hs1
  clear hN hW1_0
  go_wp2_with (refine wpList_load_box9 rfl _ _ rfl x_a2 rfl Try.underlying24 rfl (size_od _ _ _ _) ?_)
  refine (TA _ _ (Ia.out.below K_w1_2)).mono ?_
  rintro e w3 ⟨vb, rfl, hI, hF, hb⟩
  obtain ⟨xb, yb, rfl, rx, ry⟩ := id hI; obtain ⟨pb, cb, rfl, hrx⟩ := id rx; obtain ⟨qb, db, rfl, hry⟩ := id ry; clear hrx hry rx ry hF
  have K_w1_3 : Below w1.heap.size w1 w3 := below_thru K_w1_2 hb
  clear K_w1_2
  have hB3 : Below w.heap.size w w3 := below_thru hB2 hb
  have hs3 := hB3.size
  have x_a3 : Box w3 (w1.heap.size) ([.slice pa A0.pv.length ca, .slice qa A0.nx.length da, .int .i64 A0.hd, .int .i64 A0.tl]) := Box.below x_a2 hb
  clear hB2 hs2 x_a2
  clear hb
  have K_w3_3 : Below w3.heap.size w3 w3 := Below.refl _ _
  have Ib : Hid (IsO w3 (.agg [.slice pb A1.pv.length cb, .slice qb A1.nx.length db, .int .i64 A1.hd, .int .i64 A1.tl].toArray) A1) := Lib.hid hI; clear hI
  have d_b_a := (x_a3).lt
  have d_b_0 := hs3
  go_upto_region 3 with (refine wpList_store_box (cs := [.slice pb A1.pv.length cb, .slice qb A1.nx.length db, .int .i64 A1.hd, .int .i64 A1.tl]) rfl _ _ _ rfl (Box.newc (l := od0) rfl rfl) rfl rfl (size_od _ _ _ _) rfl (one_od _ _ _ _ _ _ _ _) ?_; intro W3_0 hW3_0)
  have hN : Below w3.heap.size w3 W3_0 := (hW3_0.below _ _ (by omega) ((Below.refl _ w3).alloc (Nat.le_refl _) _))
  have x_b4 : Box W3_0 (w3.heap.size) ([.slice pb A1.pv.length cb, .slice qb A1.nx.length db, .int .i64 A1.hd, .int .i64 A1.tl]) := hW3_0.box
  have K_w1_4 : Below w1.heap.size w1 W3_0 := below_thru K_w1_3 hN
  have K_w3_4 : Below w3.heap.size w3 W3_0 := below_thru K_w3_3 hN
  clear K_w1_3 K_w3_3
  have hB4 : Below w.heap.size w W3_0 := below_thru hB3 hN
  have hs4 := hB4.size
  have x_a4 : Box W3_0 (w1.heap.size) ([.slice pa A0.pv.length ca, .slice qa A0.nx.length da, .int .i64 A0.hd, .int .i64 A0.tl]) := Box.below x_a3 hN
  clear hB3 hs3 x_a3
  clear hN hW3_0
  clear K_w1_4
  clear x_a4
  go_wp2_with (refine wpList_load_box9 rfl _ _ rfl x_b4 rfl Try.underlying24 rfl (size_od _ _ _ _) ?_)
  refine (TB _ _ (Ib.out.below K_w3_4)).mono ?_
  rintro e w5 ⟨vc, rfl, hI, hF, hb⟩
  obtain ⟨xc, yc, rfl, rx, ry⟩ := id hI; obtain ⟨pc, cc, rfl, hrx⟩ := id rx; obtain ⟨qc, dc, rfl, hry⟩ := id ry; clear hrx hry rx ry hF
  have K_w3_5 : Below w3.heap.size w3 w5 := below_thru K_w3_4 hb
  clear K_w3_4
  have hB5 : Below w.heap.size w w5 := below_thru hB4 hb
  have hs5 := hB5.size
  have x_b5 : Box w5 (w3.heap.size) ([.slice pb A1.pv.length cb, .slice qb A1.nx.length db, .int .i64 A1.hd, .int .i64 A1.tl]) := Box.below x_b4 hb
  clear hB4 hs4 x_b4
  clear hb
  have K_w5_5 : Below w5.heap.size w5 w5 := Below.refl _ _
  have Ic : Hid (IsO w5 (.agg [.slice pc A2.pv.length cc, .slice qc A2.nx.length dc, .int .i64 A2.hd, .int .i64 A2.tl].toArray) A2) := Lib.hid hI; clear hI
  have d_c_b := (x_b5).lt
  have d_c_0 := hs5
  go_upto_region 4 with (refine wpList_store_box (cs := [.slice pc A2.pv.length cc, .slice qc A2.nx.length dc, .int .i64 A2.hd, .int .i64 A2.tl]) rfl _ _ _ rfl (Box.newc (l := od0) rfl rfl) rfl rfl (size_od _ _ _ _) rfl (one_od _ _ _ _ _ _ _ _) ?_; intro W5_0 hW5_0)
  have hN : Below w5.heap.size w5 W5_0 := (hW5_0.below _ _ (by omega) ((Below.refl _ w5).alloc (Nat.le_refl _) _))
  have x_c6 : Box W5_0 (w5.heap.size) ([.slice pc A2.pv.length cc, .slice qc A2.nx.length dc, .int .i64 A2.hd, .int .i64 A2.tl]) := hW5_0.box
  have K_w3_6 : Below w3.heap.size w3 W5_0 := below_thru K_w3_5 hN
  have K_w5_6 : Below w5.heap.size w5 W5_0 := below_thru K_w5_5 hN
  clear K_w3_5 K_w5_5
  have hB6 : Below w.heap.size w W5_0 := below_thru hB5 hN
  have hs6 := hB6.size
  have x_b6 : Box W5_0 (w3.heap.size) ([.slice pb A1.pv.length cb, .slice qb A1.nx.length db, .int .i64 A1.hd, .int .i64 A1.tl]) := Box.below x_b5 hN
  clear hB5 hs5 x_b5
  clear hN hW5_0
  clear K_w3_6
  clear x_b6
  go_wp2_with (refine wpList_load_box9 rfl _ _ rfl x_c6 rfl Try.underlying24 rfl (size_od _ _ _ _) ?_)
  refine (TC _ _ (Ic.out.below K_w5_6)).mono ?_
  rintro e w7 ⟨vd, rfl, hI, hF, hb⟩
  obtain ⟨xd, yd, rfl, rx, ry⟩ := id hI; obtain ⟨pd, cd, rfl, hrx⟩ := id rx; obtain ⟨qd, dd, rfl, hry⟩ := id ry; clear hrx hry rx ry hF
  have K_w5_7 : Below w5.heap.size w5 w7 := below_thru K_w5_6 hb
  clear K_w5_6
  have hB7 : Below w.heap.size w w7 := below_thru hB6 hb
  have hs7 := hB7.size
  have x_c7 : Box w7 (w5.heap.size) ([.slice pc A2.pv.length cc, .slice qc A2.nx.length dc, .int .i64 A2.hd, .int .i64 A2.tl]) := Box.below x_c6 hb
  clear hB6 hs6 x_c6
  clear hb
  have K_w7_7 : Below w7.heap.size w7 w7 := Below.refl _ _
  have Id : Hid (IsO w7 (.agg [.slice pd A3.pv.length cd, .slice qd A3.nx.length dd, .int .i64 A3.hd, .int .i64 A3.tl].toArray) A3) := Lib.hid hI; clear hI
  have d_d_c := (x_c7).lt
  have d_d_0 := hs7
  go_upto_region 5 with (refine wpList_store_box (cs := [.slice pd A3.pv.length cd, .slice qd A3.nx.length dd, .int .i64 A3.hd, .int .i64 A3.tl]) rfl _ _ _ rfl (Box.newc (l := od0) rfl rfl) rfl rfl (size_od _ _ _ _) rfl (one_od _ _ _ _ _ _ _ _) ?_; intro W7_0 hW7_0)
  have hN : Below w7.heap.size w7 W7_0 := (hW7_0.below _ _ (by omega) ((Below.refl _ w7).alloc (Nat.le_refl _) _))
  have x_d8 : Box W7_0 (w7.heap.size) ([.slice pd A3.pv.length cd, .slice qd A3.nx.length dd, .int .i64 A3.hd, .int .i64 A3.tl]) := hW7_0.box
  have K_w5_8 : Below w5.heap.size w5 W7_0 := below_thru K_w5_7 hN
  have K_w7_8 : Below w7.heap.size w7 W7_0 := below_thru K_w7_7 hN
  clear K_w5_7 K_w7_7
  have hB8 : Below w.heap.size w W7_0 := below_thru hB7 hN
  have hs8 := hB8.size
  have x_c8 : Box W7_0 (w5.heap.size) ([.slice pc A2.pv.length cc, .slice qc A2.nx.length dc, .int .i64 A2.hd, .int .i64 A2.tl]) := Box.below x_c7 hN
  clear hB7 hs7 x_c7
  clear hN hW7_0
  clear K_w5_8
  clear x_c8
  go_wp2_with (refine wpList_load_box9 rfl _ _ rfl x_d8 rfl Try.underlying24 rfl (size_od _ _ _ _) ?_)
  refine (TD _ _ (Id.out.below K_w7_8)).mono ?_
  rintro e w9 ⟨ve, rfl, hI, hF, hb⟩
  obtain ⟨xe, ye, rfl, rx, ry⟩ := id hI; obtain ⟨pe, ce, rfl, hrx⟩ := id rx; obtain ⟨qe, de, rfl, hry⟩ := id ry; clear hrx hry rx ry hF
  have K_w7_9 : Below w7.heap.size w7 w9 := below_thru K_w7_8 hb
  clear K_w7_8
  have hB9 : Below w.heap.size w w9 := below_thru hB8 hb
  have hs9 := hB9.size
  have x_d9 : Box w9 (w7.heap.size) ([.slice pd A3.pv.length cd, .slice qd A3.nx.length dd, .int .i64 A3.hd, .int .i64 A3.tl]) := Box.below x_d8 hb
  clear hB8 hs8 x_d8
  clear hb
  have K_w9_9 : Below w9.heap.size w9 w9 := Below.refl _ _
  have Ie : Hid (IsO w9 (.agg [.slice pe A4.pv.length ce, .slice qe A4.nx.length de, .int .i64 A4.hd, .int .i64 A4.tl].toArray) A4) := Lib.hid hI; clear hI
  have d_e_d := (x_d9).lt
  have d_e_0 := hs9
  go_upto_region 6 with (refine wpList_store_box (cs := [.slice pe A4.pv.length ce, .slice qe A4.nx.length de, .int .i64 A4.hd, .int .i64 A4.tl]) rfl _ _ _ rfl (Box.newc (l := od0) rfl rfl) rfl rfl (size_od _ _ _ _) rfl (one_od _ _ _ _ _ _ _ _) ?_; intro W9_0 hW9_0)
  have hN : Below w9.heap.size w9 W9_0 := (hW9_0.below _ _ (by omega) ((Below.refl _ w9).alloc (Nat.le_refl _) _))
  have x_e10 : Box W9_0 (w9.heap.size) ([.slice pe A4.pv.length ce, .slice qe A4.nx.length de, .int .i64 A4.hd, .int .i64 A4.tl]) := hW9_0.box
  have K_w7_10 : Below w7.heap.size w7 W9_0 := below_thru K_w7_9 hN
  have K_w9_10 : Below w9.heap.size w9 W9_0 := below_thru K_w9_9 hN
  clear K_w7_9 K_w9_9
  have hB10 : Below w.heap.size w W9_0 := below_thru hB9 hN
  have hs10 := hB10.size
  have x_d10 : Box W9_0 (w7.heap.size) ([.slice pd A3.pv.length cd, .slice qd A3.nx.length dd, .int .i64 A3.hd, .int .i64 A3.tl]) := Box.below x_d9 hN
  clear hB9 hs9 x_d9
  clear hN hW9_0
  go_wp2_with (refine wpList_load_box9 rfl _ _ rfl x_e10 rfl Try.underlying24 rfl (size_od _ _ _ _) ?_)
  refine (RX _ _ (Ie.out.below K_w9_10)).mono ?_
  rintro e w11 ⟨vf, rfl, hI, hF, hb⟩
  obtain ⟨xf, yf, rfl, rx, ry⟩ := id hI; obtain ⟨pf, cf, rfl, hrx⟩ := id rx; obtain ⟨qf, df, rfl, hry⟩ := id ry; clear hrx hry rx ry hF
  have K_w7_11 : Below w7.heap.size w7 w11 := below_thru K_w7_10 hb
  have K_w9_11 : Below w9.heap.size w9 w11 := below_thru K_w9_10 hb
  clear K_w7_10 K_w9_10
  have hB11 : Below w.heap.size w w11 := below_thru hB10 hb
  have hs11 := hB11.size
  have x_d11 : Box w11 (w7.heap.size) ([.slice pd A3.pv.length cd, .slice qd A3.nx.length dd, .int .i64 A3.hd, .int .i64 A3.tl]) := Box.below x_d10 hb
  have x_e11 : Box w11 (w9.heap.size) ([.slice pe A4.pv.length ce, .slice qe A4.nx.length de, .int .i64 A4.hd, .int .i64 A4.tl]) := Box.below x_e10 hb
  clear hB10 hs10 x_d10 x_e10
  clear hb
  have K_w11_11 : Below w11.heap.size w11 w11 := Below.refl _ _
  have If : Hid (IsO w11 (.agg [.slice pf A2.pv.length cf, .slice qf A2.nx.length df, .int .i64 A2.hd, .int .i64 A2.tl].toArray) A2) := Lib.hid hI; clear hI
  have d_f_d := (x_d11).lt
  have d_f_e := (x_e11).lt
  have d_f_0 := hs11
  go_upto_region 7 with (refine wpList_store_box (cs := [.slice pf A2.pv.length cf, .slice qf A2.nx.length df, .int .i64 A2.hd, .int .i64 A2.tl]) rfl _ _ _ rfl (Box.newc (l := od0) rfl rfl) rfl rfl (size_od _ _ _ _) rfl (one_od _ _ _ _ _ _ _ _) ?_; intro W11_0 hW11_0)
  have hN : Below w11.heap.size w11 W11_0 := (hW11_0.below _ _ (by omega) ((Below.refl _ w11).alloc (Nat.le_refl _) _))
  have x_f12 : Box W11_0 (w11.heap.size) ([.slice pf A2.pv.length cf, .slice qf A2.nx.length df, .int .i64 A2.hd, .int .i64 A2.tl]) := hW11_0.box
  have K_w7_12 : Below w7.heap.size w7 W11_0 := below_thru K_w7_11 hN
  have K_w9_12 : Below w9.heap.size w9 W11_0 := below_thru K_w9_11 hN
  have K_w11_12 : Below w11.heap.size w11 W11_0 := below_thru K_w11_11 hN
  clear K_w7_11 K_w9_11 K_w11_11
  have hB12 : Below w.heap.size w W11_0 := below_thru hB11 hN
  have hs12 := hB12.size
  have x_d12 : Box W11_0 (w7.heap.size) ([.slice pd A3.pv.length cd, .slice qd A3.nx.length dd, .int .i64 A3.hd, .int .i64 A3.tl]) := Box.below x_d11 hN
  have x_e12 : Box W11_0 (w9.heap.size) ([.slice pe A4.pv.length ce, .slice qe A4.nx.length de, .int .i64 A4.hd, .int .i64 A4.tl]) := Box.below x_e11 hN
  clear hB11 hs11 x_d11 x_e11
  clear hN hW11_0
  go_wp2_with (refine wpList_load_box9 rfl _ _ rfl x_d12 rfl Try.underlying24 rfl (size_od _ _ _ _) ?_)
  refine (LC _ _ (Id.out.below K_w7_12)).mono ?_
  rintro e w13 ⟨ul, rfl, hI, hF, hb⟩
  have K_w7_13 : Below w7.heap.size w7 w13 := below_thru K_w7_12 hb
  have K_w9_13 : Below w9.heap.size w9 w13 := below_thru K_w9_12 hb
  have K_w11_13 : Below w11.heap.size w11 w13 := below_thru K_w11_12 hb
  clear K_w7_12 K_w9_12 K_w11_12
  have hB13 : Below w.heap.size w w13 := below_thru hB12 hb
  have hs13 := hB13.size
  have x_d13 : Box w13 (w7.heap.size) ([.slice pd A3.pv.length cd, .slice qd A3.nx.length dd, .int .i64 A3.hd, .int .i64 A3.tl]) := Box.below x_d12 hb
  have x_e13 : Box w13 (w9.heap.size) ([.slice pe A4.pv.length ce, .slice qe A4.nx.length de, .int .i64 A4.hd, .int .i64 A4.tl]) := Box.below x_e12 hb
  have x_f13 : Box w13 (w11.heap.size) ([.slice pf A2.pv.length cf, .slice qf A2.nx.length df, .int .i64 A2.hd, .int .i64 A2.tl]) := Box.below x_f12 hb
  clear hB12 hs12 x_d12 x_e12 x_f12
  clear hb hF
  have K_w13_13 : Below w13.heap.size w13 w13 := Below.refl _ _
  have Jl : Hid (IsR LI w13 ul (nums [3, 0, 2])) := Lib.hid hI; clear hI
  clear K_w7_13
  clear x_d13
  go_wp2_with (refine wpList_load_box9 rfl _ _ rfl x_e13 rfl Try.underlying24 rfl (size_od _ _ _ _) ?_)
  refine (LD _ _ (Ie.out.below K_w9_13)).mono ?_
  rintro e w14 ⟨um, rfl, hI, hF, hb⟩
  have K_w9_14 : Below w9.heap.size w9 w14 := below_thru K_w9_13 hb
  have K_w11_14 : Below w11.heap.size w11 w14 := below_thru K_w11_13 hb
  have K_w13_14 : Below w13.heap.size w13 w14 := below_thru K_w13_13 hb
  clear K_w9_13 K_w11_13 K_w13_13
  have hB14 : Below w.heap.size w w14 := below_thru hB13 hb
  have hs14 := hB14.size
  have x_e14 : Box w14 (w9.heap.size) ([.slice pe A4.pv.length ce, .slice qe A4.nx.length de, .int .i64 A4.hd, .int .i64 A4.tl]) := Box.below x_e13 hb
  have x_f14 : Box w14 (w11.heap.size) ([.slice pf A2.pv.length cf, .slice qf A2.nx.length df, .int .i64 A2.hd, .int .i64 A2.tl]) := Box.below x_f13 hb
  clear hB13 hs13 x_e13 x_f13
  clear hb hF
  have K_w14_14 : Below w14.heap.size w14 w14 := Below.refl _ _
  have Jm : Hid (IsR LI w14 um (nums [0, 3, 2])) := Lib.hid hI; clear hI
  clear K_w9_14
  clear x_e14
  go_wp2_with (refine wpList_load_box9 rfl _ _ rfl x_f14 rfl Try.underlying24 rfl (size_od _ _ _ _) ?_)
  refine (LXX _ _ (If.out.below K_w11_14)).mono ?_
  rintro e w15 ⟨up, rfl, hI, hF, hb⟩
  have K_w11_15 : Below w11.heap.size w11 w15 := below_thru K_w11_14 hb
  have K_w13_15 : Below w13.heap.size w13 w15 := below_thru K_w13_14 hb
  have K_w14_15 : Below w14.heap.size w14 w15 := below_thru K_w14_14 hb
  clear K_w11_14 K_w13_14 K_w14_14
  have hB15 : Below w.heap.size w w15 := below_thru hB14 hb
  have hs15 := hB15.size
  have x_f15 : Box w15 (w11.heap.size) ([.slice pf A2.pv.length cf, .slice qf A2.nx.length df, .int .i64 A2.hd, .int .i64 A2.tl]) := Box.below x_f14 hb
  clear hB14 hs14 x_f14
  clear hb hF
  have K_w15_15 : Below w15.heap.size w15 w15 := Below.refl _ _
  have Jp : Hid (IsR LI w15 up (nums [0, 2])) := Lib.hid hI; clear hI
  go_wp2_with (refine wpList_load_box9 rfl _ _ rfl x_f15 rfl Try.underlying24 rfl (size_od _ _ _ _) ?_)
  refine (LA _ _ (If.out.below K_w11_15)).mono ?_
  rintro e w16 ⟨rfl, hb⟩
  have K_w11_16 : Below w11.heap.size w11 w16 := below_thru K_w11_15 hb
  have K_w13_16 : Below w13.heap.size w13 w16 := below_thru K_w13_15 hb
  have K_w14_16 : Below w14.heap.size w14 w16 := below_thru K_w14_15 hb
  have K_w15_16 : Below w15.heap.size w15 w16 := below_thru K_w15_15 hb
  clear K_w11_15 K_w13_15 K_w14_15 K_w15_15
  have hB16 : Below w.heap.size w w16 := below_thru hB15 hb
  have hs16 := hB16.size
  have x_f16 : Box w16 (w11.heap.size) ([.slice pf A2.pv.length cf, .slice qf A2.nx.length df, .int .i64 A2.hd, .int .i64 A2.tl]) := Box.below x_f15 hb
  clear hB15 hs15 x_f15
  clear hb
  clear K_w11_16
  clear x_f16
  have LX : IsR LI (w16.alloc (.cells #[.int .i64 3, .int .i64 0, .int .i64 2] 3)) (.slice (some ⟨w16.heap.size, 0, none⟩) 3 3) [3, 0, 2] := IsR.built [3, 0, 2] rfl rfl rfl rfl (by decide)
  have hA : Below w16.heap.size w16 (w16.alloc (.cells #[.int .i64 3, .int .i64 0, .int .i64 2] 3)) := (Below.refl _ _).alloc (Nat.le_refl _) _
  go_wp2_with fail
  refine (S302 _ _ _ (Jl.out.below (below_thru K_w13_16 hA)) LX).mono ?_
  rintro e w17 ⟨rfl, hb⟩
  have hN : Below w16.heap.size w16 w17 := below_thru hA hb; clear hb LX hA
  have K_w13_17 : Below w13.heap.size w13 w17 := below_thru K_w13_16 hN
  have K_w14_17 : Below w14.heap.size w14 w17 := below_thru K_w14_16 hN
  have K_w15_17 : Below w15.heap.size w15 w17 := below_thru K_w15_16 hN
  clear K_w13_16 K_w14_16 K_w15_16
  have hB17 : Below w.heap.size w w17 := below_thru hB16 hN
  have hs17 := hB17.size
  clear hB16 hs16
  clear hN
  have LX : IsR LI (w17.alloc (.cells #[.int .i64 0, .int .i64 3, .int .i64 2] 3)) (.slice (some ⟨w17.heap.size, 0, none⟩) 3 3) [0, 3, 2] := IsR.built [0, 3, 2] rfl rfl rfl rfl (by decide)
  have hA : Below w17.heap.size w17 (w17.alloc (.cells #[.int .i64 0, .int .i64 3, .int .i64 2] 3)) := (Below.refl _ _).alloc (Nat.le_refl _) _
  go_wp2_with fail
  refine (S032 _ _ _ (Jm.out.below (below_thru K_w14_17 hA)) LX).mono ?_
  rintro e w18 ⟨rfl, hb⟩
  have hN : Below w17.heap.size w17 w18 := below_thru hA hb; clear hb LX hA
  have K_w13_18 : Below w13.heap.size w13 w18 := below_thru K_w13_17 hN
  have K_w14_18 : Below w14.heap.size w14 w18 := below_thru K_w14_17 hN
  have K_w15_18 : Below w15.heap.size w15 w18 := below_thru K_w15_17 hN
  clear K_w13_17 K_w14_17 K_w15_17
  have hB18 : Below w.heap.size w w18 := below_thru hB17 hN
  have hs18 := hB18.size
  clear hB17 hs17
  clear hN
  have LX : IsR LI (w18.alloc (.cells #[.int .i64 0, .int .i64 2] 3)) (.slice (some ⟨w18.heap.size, 0, none⟩) 2 2) [0, 2] := IsR.built [0, 2] rfl rfl rfl rfl (by decide)
  have hA : Below w18.heap.size w18 (w18.alloc (.cells #[.int .i64 0, .int .i64 2] 3)) := (Below.refl _ _).alloc (Nat.le_refl _) _
  go_wp2_with fail
  refine (S02 _ _ _ (Jp.out.below (below_thru K_w15_18 hA)) LX).mono ?_
  rintro e w19 ⟨rfl, hb⟩
  have hN : Below w18.heap.size w18 w19 := below_thru hA hb; clear hb LX hA
  have K_w13_19 : Below w13.heap.size w13 w19 := below_thru K_w13_18 hN
  have K_w14_19 : Below w14.heap.size w14 w19 := below_thru K_w14_18 hN
  have K_w15_19 : Below w15.heap.size w15 w19 := below_thru K_w15_18 hN
  clear K_w13_18 K_w14_18 K_w15_18
  have hB19 : Below w.heap.size w w19 := below_thru hB18 hN
  have hs19 := hB19.size
  clear hB18 hs18
  clear hN
  clear K_w13_19 K_w14_19 K_w15_19
  go_wp2_with fail
  go_returns
  exact ⟨rfl, hB19⟩

set_option maxRecDepth 100000 in
set_option maxHeartbeats 6400000 in
theorem does15_a {v : Value} {O : Od} {n p : Int} (hg : GrO O) (w : World) (h1 : IsO w v O) : Calls Try.prog 3 #[.int .i64 n, v, .int .i64 p] w fun e w' => e = .returned (.bool true) ∧ Below w.heap.size w w' := by
  have GR := fun (W : World) (u : Value) (hu9 : IsO W u O) => rlgreat_is (b := true) W hu9 ⟨fun _ => hg, fun _ => rfl⟩
  clear hg
  have HO := Lib.hid h1
  obtain ⟨v1, v2, rfl, g1, g2⟩ := id h1
  obtain ⟨a1, c1, rfl, hr1⟩ := id g1; obtain ⟨a2, c2, rfl, hr2⟩ := id g2
  have m1 := hr1.most; have r1 := hr1.room; have m2 := hr2.most; have r2 := hr2.room; have H1 := Lib.hid g1; have H2 := Lib.hid g2
  clear hr1 hr2 g1 g2 h1
  have SA := Lib.hid (size_od (.slice a1 O.pv.length c1) (.slice a2 O.nx.length c2) (.int .i64 O.hd) (.int .i64 O.tl))
  go_enter Try.func3, Try.ntmps3
  go_upto_region 1 with fail
  refine F_gen (F := fun W => Code.wp _ _ _ _ W) (J := fun W => Box W (w.heap.size) ([.slice a1 O.pv.length c1, .slice a2 O.nx.length c2, .int .i64 O.hd, .int .i64 O.tl]) ∧ Below w.heap.size w W) (And.intro (Box.newc rfl rfl) (by go_grown)) ?_
  intro w0 ⟨e_a, hB0⟩
  have hs0 := hB0.size
  have x_a0 := e_a; clear e_a
  go_wp2_with (refine wpList_load_box9 rfl _ _ rfl x_a0 rfl Try.underlying24 rfl SA.out ?_)
  refine (GR _ _ (HO.out.below hB0)).mono ?_
  rintro e w1 ⟨rfl, hb⟩
  have hB1 : Below w.heap.size w w1 := below_thru hB0 hb
  have hs1 := hB1.size
  have x_a1 : Box w1 (w.heap.size) ([.slice a1 O.pv.length c1, .slice a2 O.nx.length c2, .int .i64 O.hd, .int .i64 O.tl]) := Box.below x_a0 hb
  clear hB0 hs0 x_a0
  clear hb
  go_wp2_with fail
  go_returns
  exact ⟨rfl, hB1⟩

set_option maxRecDepth 100000 in
set_option maxHeartbeats 6400000 in
theorem does15_b {v : Value} {O : Od} {n p : Int} (hg : ¬ GrO O) (w : World) (h1 : IsO w v O) : Calls Try.prog 3 #[.int .i64 n, v, .int .i64 p] w fun e w' => e = .returned (.bool true) ∧ Below w.heap.size w w' := by
  have GR := fun (W : World) (u : Value) (hu9 : IsO W u O) => rlgreat_is (b := false) W hu9 ⟨fun h => (Bool.false_ne_true h).elim, fun h => absurd h hg⟩
  have hl : O.pv.length ≤ 200 ∧ O.nx.length ≤ 200 := by unfold GrO at hg; omega
  obtain ⟨B, e1, hB⟩ := NwO.ex n; obtain ⟨C, e2, hC⟩ := TcO.ex O p; obtain ⟨D, e3, hD⟩ := RmO.ex O p; obtain ⟨la, e4, hA⟩ := LaO.ex O; obtain ⟨m, e5, hM⟩ := LiO.ex O; obtain ⟨y, hy⟩ := ChkO.ex O
  have TW := fun (W : World) (u : Value) (hu9 : IsO W u O) => rltwin_res W hu9 hl
  have N1 := fun W => plnew_is hB W; have N2 := fun W => rlnew_is hB W
  have T1 := fun (W : World) (u : Value) (hu9 : IsO W u O) => pltouch_is hC W hu9
  have T2 := fun (W : World) (u : Value) (hu9 : IsO W u O) => rltouch_is hC W hu9
  have R1 := fun (W : World) (u : Value) (hu9 : IsO W u O) => plremove_is hD W hu9
  have R2 := fun (W : World) (u : Value) (hu9 : IsO W u O) => rlremove_is hD W hu9
  have A1 := fun (W : World) (u : Value) (hu9 : IsO W u O) => pllast_is hA W hu9
  have A2 := fun (W : World) (u : Value) (hu9 : IsO W u O) => rllast_is hA W hu9
  have L1 := fun (W : World) (u : Value) (hu9 : IsO W u O) => pllist_is hM W hu9
  have L2 := fun (W : World) (u : Value) (hu9 : IsO W u O) => rllist_is hM W hu9
  have K1 := fun (W : World) (u : Value) (hu9 : IsO W u O) => plchk_is W hu9 hy
  have K2 := fun (W : World) (u : Value) (hu9 : IsO W u O) => rlchk_is W hu9 hy
  have SM := fun (X : Od) (W : World) (u v : Value) (h : IsO W u X) (g : IsO W v X) => rlsame_is (same_o X) W h g; have SI := fun (W : World) (u v : Value) (h : IsR LI W u (nums m)) (g : IsR LI W v (nums m)) => rlsi_is (b := true) W h g ⟨fun _ => rfl, fun _ => rfl⟩; clear hg hl hB hC hD hA hM hy
  have HO := Lib.hid h1
  obtain ⟨v1, v2, rfl, g1, g2⟩ := id h1
  obtain ⟨a1, c1, rfl, hr1⟩ := id g1; obtain ⟨a2, c2, rfl, hr2⟩ := id g2
  have m1 := hr1.most; have r1 := hr1.room; have m2 := hr2.most; have r2 := hr2.room; have H1 := Lib.hid g1; have H2 := Lib.hid g2
  clear hr1 hr2 g1 g2 h1
  have SA := Lib.hid (size_od (.slice a1 O.pv.length c1) (.slice a2 O.nx.length c2) (.int .i64 O.hd) (.int .i64 O.tl))
  go_enter Try.func3, Try.ntmps3
  go_upto_region 1 with fail
  refine F_gen (F := fun W => Code.wp _ _ _ _ W) (J := fun W => Box W (w.heap.size) ([.slice a1 O.pv.length c1, .slice a2 O.nx.length c2, .int .i64 O.hd, .int .i64 O.tl]) ∧ Below w.heap.size w W) (And.intro (Box.newc rfl rfl) (by go_grown)) ?_
  intro w0 ⟨e_a, hB0⟩
  have hs0 := hB0.size
  have x_a0 := e_a; clear e_a
  go_wp2_with (refine wpList_load_box9 rfl _ _ rfl x_a0 rfl Try.underlying24 rfl SA.out ?_)
  refine (GR _ _ (HO.out.below hB0)).mono ?_
  rintro e w1 ⟨rfl, hb⟩
  have hB1 : Below w.heap.size w w1 := below_thru hB0 hb
  have hs1 := hB1.size
  have x_a1 : Box w1 (w.heap.size) ([.slice a1 O.pv.length c1, .slice a2 O.nx.length c2, .int .i64 O.hd, .int .i64 O.tl]) := Box.below x_a0 hb
  clear hB0 hs0 x_a0
  clear hb
  go_wp2_with (refine wpList_load_box9 rfl _ _ rfl x_a1 rfl Try.underlying24 rfl SA.out ?_)
  refine (TW _ _ (HO.out.below hB1)).mono ?_
  rintro e w2 ⟨vz, rfl, hI, hF, hb⟩
  obtain ⟨xz, yz, rfl, rx, ry⟩ := id hI; obtain ⟨pz, cz, rfl, hrx⟩ := id rx; obtain ⟨qz, dz, rfl, hry⟩ := id ry; clear hrx hry rx ry hF
  have hB2 : Below w.heap.size w w2 := below_thru hB1 hb
  have hs2 := hB2.size
  have x_a2 : Box w2 (w.heap.size) ([.slice a1 O.pv.length c1, .slice a2 O.nx.length c2, .int .i64 O.hd, .int .i64 O.tl]) := Box.below x_a1 hb
  clear hB1 hs1 x_a1
  clear hb
  have K_w2_2 : Below w2.heap.size w2 w2 := Below.refl _ _
  have Iz : Hid (IsO w2 (.agg [.slice pz O.pv.length cz, .slice qz O.nx.length dz, .int .i64 O.hd, .int .i64 O.tl].toArray) O) := Lib.hid hI; clear hI
  have d_z_a := (x_a2).lt
  have d_z_0 := hs2
  go_upto_region 4 with (refine wpList_store_box (cs := [.slice pz O.pv.length cz, .slice qz O.nx.length dz, .int .i64 O.hd, .int .i64 O.tl]) rfl _ _ _ rfl (Box.newc (l := od0) rfl rfl) rfl rfl (size_od _ _ _ _) rfl (one_od _ _ _ _ _ _ _ _) ?_; intro W2_0 hW2_0)
  have hN : Below w2.heap.size w2 W2_0 := (hW2_0.below _ _ (by omega) ((Below.refl _ w2).alloc (Nat.le_refl _) _))
  have x_z3 : Box W2_0 (w2.heap.size) ([.slice pz O.pv.length cz, .slice qz O.nx.length dz, .int .i64 O.hd, .int .i64 O.tl]) := hW2_0.box
  have K_w2_3 : Below w2.heap.size w2 W2_0 := below_thru K_w2_2 hN
  clear K_w2_2
  have hB3 : Below w.heap.size w W2_0 := below_thru hB2 hN
  have hs3 := hB3.size
  have x_a3 : Box W2_0 (w.heap.size) ([.slice a1 O.pv.length c1, .slice a2 O.nx.length c2, .int .i64 O.hd, .int .i64 O.tl]) := Box.below x_a2 hN
  clear hB2 hs2 x_a2
  clear hN hW2_0
  go_wp2_with fail
  refine (N1 _).mono ?_
  rintro e w4 ⟨vx, rfl, hI, hF, hb⟩
  obtain ⟨xx, yx, rfl, rx, ry⟩ := id hI; obtain ⟨px, cx, rfl, hrx⟩ := id rx; obtain ⟨qx, dx, rfl, hry⟩ := id ry; clear hrx hry rx ry hF
  have K_w2_4 : Below w2.heap.size w2 w4 := below_thru K_w2_3 hb
  clear K_w2_3
  have hB4 : Below w.heap.size w w4 := below_thru hB3 hb
  have hs4 := hB4.size
  have x_a4 : Box w4 (w.heap.size) ([.slice a1 O.pv.length c1, .slice a2 O.nx.length c2, .int .i64 O.hd, .int .i64 O.tl]) := Box.below x_a3 hb
  have x_z4 : Box w4 (w2.heap.size) ([.slice pz O.pv.length cz, .slice qz O.nx.length dz, .int .i64 O.hd, .int .i64 O.tl]) := Box.below x_z3 hb
  clear hB3 hs3 x_a3 x_z3
  clear hb
  have K_w4_4 : Below w4.heap.size w4 w4 := Below.refl _ _
  have Ix : Hid (IsO w4 (.agg [.slice px B.pv.length cx, .slice qx B.nx.length dx, .int .i64 B.hd, .int .i64 B.tl].toArray) B) := Lib.hid hI; clear hI
  have d_x_a := (x_a4).lt
  have d_x_z := (x_z4).lt
  have d_x_0 := hs4
  go_upto_region 5 with (refine wpList_store_box (cs := [.slice px B.pv.length cx, .slice qx B.nx.length dx, .int .i64 B.hd, .int .i64 B.tl]) rfl _ _ _ rfl (Box.newc (l := od0) rfl rfl) rfl rfl (size_od _ _ _ _) rfl (one_od _ _ _ _ _ _ _ _) ?_; intro W4_0 hW4_0)
  have hN : Below w4.heap.size w4 W4_0 := (hW4_0.below _ _ (by omega) ((Below.refl _ w4).alloc (Nat.le_refl _) _))
  have x_x5 : Box W4_0 (w4.heap.size) ([.slice px B.pv.length cx, .slice qx B.nx.length dx, .int .i64 B.hd, .int .i64 B.tl]) := hW4_0.box
  have K_w2_5 : Below w2.heap.size w2 W4_0 := below_thru K_w2_4 hN
  have K_w4_5 : Below w4.heap.size w4 W4_0 := below_thru K_w4_4 hN
  clear K_w2_4 K_w4_4
  have hB5 : Below w.heap.size w W4_0 := below_thru hB4 hN
  have hs5 := hB5.size
  have x_a5 : Box W4_0 (w.heap.size) ([.slice a1 O.pv.length c1, .slice a2 O.nx.length c2, .int .i64 O.hd, .int .i64 O.tl]) := Box.below x_a4 hN
  have x_z5 : Box W4_0 (w2.heap.size) ([.slice pz O.pv.length cz, .slice qz O.nx.length dz, .int .i64 O.hd, .int .i64 O.tl]) := Box.below x_z4 hN
  clear hB4 hs4 x_a4 x_z4
  clear hN hW4_0
  go_wp2_with fail
  refine (N2 _).mono ?_
  rintro e w6 ⟨vy, rfl, hI, hF, hb⟩
  obtain ⟨xy, yy, rfl, rx, ry⟩ := id hI; obtain ⟨py, cy, rfl, hrx⟩ := id rx; obtain ⟨qy, dy, rfl, hry⟩ := id ry; clear hrx hry rx ry hF
  have K_w2_6 : Below w2.heap.size w2 w6 := below_thru K_w2_5 hb
  have K_w4_6 : Below w4.heap.size w4 w6 := below_thru K_w4_5 hb
  clear K_w2_5 K_w4_5
  have hB6 : Below w.heap.size w w6 := below_thru hB5 hb
  have hs6 := hB6.size
  have x_a6 : Box w6 (w.heap.size) ([.slice a1 O.pv.length c1, .slice a2 O.nx.length c2, .int .i64 O.hd, .int .i64 O.tl]) := Box.below x_a5 hb
  have x_z6 : Box w6 (w2.heap.size) ([.slice pz O.pv.length cz, .slice qz O.nx.length dz, .int .i64 O.hd, .int .i64 O.tl]) := Box.below x_z5 hb
  have x_x6 : Box w6 (w4.heap.size) ([.slice px B.pv.length cx, .slice qx B.nx.length dx, .int .i64 B.hd, .int .i64 B.tl]) := Box.below x_x5 hb
  clear hB5 hs5 x_a5 x_z5 x_x5
  clear hb
  have K_w6_6 : Below w6.heap.size w6 w6 := Below.refl _ _
  have Iy : Hid (IsO w6 (.agg [.slice py B.pv.length cy, .slice qy B.nx.length dy, .int .i64 B.hd, .int .i64 B.tl].toArray) B) := Lib.hid hI; clear hI
  have d_y_a := (x_a6).lt
  have d_y_z := (x_z6).lt
  have d_y_x := (x_x6).lt
  have d_y_0 := hs6
  go_upto_region 6 with (refine wpList_store_box (cs := [.slice py B.pv.length cy, .slice qy B.nx.length dy, .int .i64 B.hd, .int .i64 B.tl]) rfl _ _ _ rfl (Box.newc (l := od0) rfl rfl) rfl rfl (size_od _ _ _ _) rfl (one_od _ _ _ _ _ _ _ _) ?_; intro W6_0 hW6_0)
  have hN : Below w6.heap.size w6 W6_0 := (hW6_0.below _ _ (by omega) ((Below.refl _ w6).alloc (Nat.le_refl _) _))
  have x_y7 : Box W6_0 (w6.heap.size) ([.slice py B.pv.length cy, .slice qy B.nx.length dy, .int .i64 B.hd, .int .i64 B.tl]) := hW6_0.box
  have K_w2_7 : Below w2.heap.size w2 W6_0 := below_thru K_w2_6 hN
  have K_w4_7 : Below w4.heap.size w4 W6_0 := below_thru K_w4_6 hN
  have K_w6_7 : Below w6.heap.size w6 W6_0 := below_thru K_w6_6 hN
  clear K_w2_6 K_w4_6 K_w6_6
  have hB7 : Below w.heap.size w W6_0 := below_thru hB6 hN
  have hs7 := hB7.size
  have x_a7 : Box W6_0 (w.heap.size) ([.slice a1 O.pv.length c1, .slice a2 O.nx.length c2, .int .i64 O.hd, .int .i64 O.tl]) := Box.below x_a6 hN
  have x_z7 : Box W6_0 (w2.heap.size) ([.slice pz O.pv.length cz, .slice qz O.nx.length dz, .int .i64 O.hd, .int .i64 O.tl]) := Box.below x_z6 hN
  have x_x7 : Box W6_0 (w4.heap.size) ([.slice px B.pv.length cx, .slice qx B.nx.length dx, .int .i64 B.hd, .int .i64 B.tl]) := Box.below x_x6 hN
  clear hB6 hs6 x_a6 x_z6 x_x6
  clear hN hW6_0
  go_wp2_with (refine wpList_load_box9 rfl _ _ rfl x_z7 rfl Try.underlying24 rfl (size_od _ _ _ _) ?_)
  refine (T1 _ _ (Iz.out.below K_w2_7)).mono ?_
  rintro e w8 ⟨vp, rfl, hI, hF, hb⟩
  obtain ⟨xp, yp, rfl, rx, ry⟩ := id hI; obtain ⟨pp, cp, rfl, hrx⟩ := id rx; obtain ⟨qp, dp, rfl, hry⟩ := id ry; clear hrx hry rx ry hF
  have K_w2_8 : Below w2.heap.size w2 w8 := below_thru K_w2_7 hb
  have K_w4_8 : Below w4.heap.size w4 w8 := below_thru K_w4_7 hb
  have K_w6_8 : Below w6.heap.size w6 w8 := below_thru K_w6_7 hb
  clear K_w2_7 K_w4_7 K_w6_7
  have hB8 : Below w.heap.size w w8 := below_thru hB7 hb
  have hs8 := hB8.size
  have x_a8 : Box w8 (w.heap.size) ([.slice a1 O.pv.length c1, .slice a2 O.nx.length c2, .int .i64 O.hd, .int .i64 O.tl]) := Box.below x_a7 hb
  have x_z8 : Box w8 (w2.heap.size) ([.slice pz O.pv.length cz, .slice qz O.nx.length dz, .int .i64 O.hd, .int .i64 O.tl]) := Box.below x_z7 hb
  have x_x8 : Box w8 (w4.heap.size) ([.slice px B.pv.length cx, .slice qx B.nx.length dx, .int .i64 B.hd, .int .i64 B.tl]) := Box.below x_x7 hb
  have x_y8 : Box w8 (w6.heap.size) ([.slice py B.pv.length cy, .slice qy B.nx.length dy, .int .i64 B.hd, .int .i64 B.tl]) := Box.below x_y7 hb
  clear hB7 hs7 x_a7 x_z7 x_x7 x_y7
  clear hb
  have K_w8_8 : Below w8.heap.size w8 w8 := Below.refl _ _
  have Ip : Hid (IsO w8 (.agg [.slice pp C.pv.length cp, .slice qp C.nx.length dp, .int .i64 C.hd, .int .i64 C.tl].toArray) C) := Lib.hid hI; clear hI
  have d_p_a := (x_a8).lt
  have d_p_z := (x_z8).lt
  have d_p_x := (x_x8).lt
  have d_p_y := (x_y8).lt
  have d_p_0 := hs8
  go_upto_region 7 with (refine wpList_store_box (cs := [.slice pp C.pv.length cp, .slice qp C.nx.length dp, .int .i64 C.hd, .int .i64 C.tl]) rfl _ _ _ rfl (Box.newc (l := od0) rfl rfl) rfl rfl (size_od _ _ _ _) rfl (one_od _ _ _ _ _ _ _ _) ?_; intro W8_0 hW8_0)
  have hN : Below w8.heap.size w8 W8_0 := (hW8_0.below _ _ (by omega) ((Below.refl _ w8).alloc (Nat.le_refl _) _))
  have x_p9 : Box W8_0 (w8.heap.size) ([.slice pp C.pv.length cp, .slice qp C.nx.length dp, .int .i64 C.hd, .int .i64 C.tl]) := hW8_0.box
  have K_w2_9 : Below w2.heap.size w2 W8_0 := below_thru K_w2_8 hN
  have K_w4_9 : Below w4.heap.size w4 W8_0 := below_thru K_w4_8 hN
  have K_w6_9 : Below w6.heap.size w6 W8_0 := below_thru K_w6_8 hN
  have K_w8_9 : Below w8.heap.size w8 W8_0 := below_thru K_w8_8 hN
  clear K_w2_8 K_w4_8 K_w6_8 K_w8_8
  have hB9 : Below w.heap.size w W8_0 := below_thru hB8 hN
  have hs9 := hB9.size
  have x_a9 : Box W8_0 (w.heap.size) ([.slice a1 O.pv.length c1, .slice a2 O.nx.length c2, .int .i64 O.hd, .int .i64 O.tl]) := Box.below x_a8 hN
  have x_z9 : Box W8_0 (w2.heap.size) ([.slice pz O.pv.length cz, .slice qz O.nx.length dz, .int .i64 O.hd, .int .i64 O.tl]) := Box.below x_z8 hN
  have x_x9 : Box W8_0 (w4.heap.size) ([.slice px B.pv.length cx, .slice qx B.nx.length dx, .int .i64 B.hd, .int .i64 B.tl]) := Box.below x_x8 hN
  have x_y9 : Box W8_0 (w6.heap.size) ([.slice py B.pv.length cy, .slice qy B.nx.length dy, .int .i64 B.hd, .int .i64 B.tl]) := Box.below x_y8 hN
  clear hB8 hs8 x_a8 x_z8 x_x8 x_y8
  clear hN hW8_0
  go_wp2_with (refine wpList_load_box9 rfl _ _ rfl x_a9 rfl Try.underlying24 rfl SA.out ?_)
  refine (T2 _ _ (HO.out.below hB9)).mono ?_
  rintro e w10 ⟨vq, rfl, hI, hF, hb⟩
  obtain ⟨xq, yq, rfl, rx, ry⟩ := id hI; obtain ⟨pq, cq, rfl, hrx⟩ := id rx; obtain ⟨qq, dq, rfl, hry⟩ := id ry; clear hrx hry rx ry hF
  have K_w2_10 : Below w2.heap.size w2 w10 := below_thru K_w2_9 hb
  have K_w4_10 : Below w4.heap.size w4 w10 := below_thru K_w4_9 hb
  have K_w6_10 : Below w6.heap.size w6 w10 := below_thru K_w6_9 hb
  have K_w8_10 : Below w8.heap.size w8 w10 := below_thru K_w8_9 hb
  clear K_w2_9 K_w4_9 K_w6_9 K_w8_9
  have hB10 : Below w.heap.size w w10 := below_thru hB9 hb
  have hs10 := hB10.size
  have x_a10 : Box w10 (w.heap.size) ([.slice a1 O.pv.length c1, .slice a2 O.nx.length c2, .int .i64 O.hd, .int .i64 O.tl]) := Box.below x_a9 hb
  have x_z10 : Box w10 (w2.heap.size) ([.slice pz O.pv.length cz, .slice qz O.nx.length dz, .int .i64 O.hd, .int .i64 O.tl]) := Box.below x_z9 hb
  have x_x10 : Box w10 (w4.heap.size) ([.slice px B.pv.length cx, .slice qx B.nx.length dx, .int .i64 B.hd, .int .i64 B.tl]) := Box.below x_x9 hb
  have x_y10 : Box w10 (w6.heap.size) ([.slice py B.pv.length cy, .slice qy B.nx.length dy, .int .i64 B.hd, .int .i64 B.tl]) := Box.below x_y9 hb
  have x_p10 : Box w10 (w8.heap.size) ([.slice pp C.pv.length cp, .slice qp C.nx.length dp, .int .i64 C.hd, .int .i64 C.tl]) := Box.below x_p9 hb
  clear hB9 hs9 x_a9 x_z9 x_x9 x_y9 x_p9
  clear hb
  have K_w10_10 : Below w10.heap.size w10 w10 := Below.refl _ _
  have Iq : Hid (IsO w10 (.agg [.slice pq C.pv.length cq, .slice qq C.nx.length dq, .int .i64 C.hd, .int .i64 C.tl].toArray) C) := Lib.hid hI; clear hI
  have d_q_a := (x_a10).lt
  have d_q_z := (x_z10).lt
  have d_q_x := (x_x10).lt
  have d_q_y := (x_y10).lt
  have d_q_p := (x_p10).lt
  have d_q_0 := hs10
  go_upto_region 8 with (refine wpList_store_box (cs := [.slice pq C.pv.length cq, .slice qq C.nx.length dq, .int .i64 C.hd, .int .i64 C.tl]) rfl _ _ _ rfl (Box.newc (l := od0) rfl rfl) rfl rfl (size_od _ _ _ _) rfl (one_od _ _ _ _ _ _ _ _) ?_; intro W10_0 hW10_0)
  have hN : Below w10.heap.size w10 W10_0 := (hW10_0.below _ _ (by omega) ((Below.refl _ w10).alloc (Nat.le_refl _) _))
  have x_q11 : Box W10_0 (w10.heap.size) ([.slice pq C.pv.length cq, .slice qq C.nx.length dq, .int .i64 C.hd, .int .i64 C.tl]) := hW10_0.box
  have K_w2_11 : Below w2.heap.size w2 W10_0 := below_thru K_w2_10 hN
  have K_w4_11 : Below w4.heap.size w4 W10_0 := below_thru K_w4_10 hN
  have K_w6_11 : Below w6.heap.size w6 W10_0 := below_thru K_w6_10 hN
  have K_w8_11 : Below w8.heap.size w8 W10_0 := below_thru K_w8_10 hN
  have K_w10_11 : Below w10.heap.size w10 W10_0 := below_thru K_w10_10 hN
  clear K_w2_10 K_w4_10 K_w6_10 K_w8_10 K_w10_10
  have hB11 : Below w.heap.size w W10_0 := below_thru hB10 hN
  have hs11 := hB11.size
  have x_a11 : Box W10_0 (w.heap.size) ([.slice a1 O.pv.length c1, .slice a2 O.nx.length c2, .int .i64 O.hd, .int .i64 O.tl]) := Box.below x_a10 hN
  have x_z11 : Box W10_0 (w2.heap.size) ([.slice pz O.pv.length cz, .slice qz O.nx.length dz, .int .i64 O.hd, .int .i64 O.tl]) := Box.below x_z10 hN
  have x_x11 : Box W10_0 (w4.heap.size) ([.slice px B.pv.length cx, .slice qx B.nx.length dx, .int .i64 B.hd, .int .i64 B.tl]) := Box.below x_x10 hN
  have x_y11 : Box W10_0 (w6.heap.size) ([.slice py B.pv.length cy, .slice qy B.nx.length dy, .int .i64 B.hd, .int .i64 B.tl]) := Box.below x_y10 hN
  have x_p11 : Box W10_0 (w8.heap.size) ([.slice pp C.pv.length cp, .slice qp C.nx.length dp, .int .i64 C.hd, .int .i64 C.tl]) := Box.below x_p10 hN
  clear hB10 hs10 x_a10 x_z10 x_x10 x_y10 x_p10
  clear hN hW10_0
  go_wp2_with (refine wpList_load_box9 rfl _ _ rfl x_z11 rfl Try.underlying24 rfl (size_od _ _ _ _) ?_)
  refine (R1 _ _ (Iz.out.below K_w2_11)).mono ?_
  rintro e w12 ⟨vu, rfl, hI, hF, hb⟩
  obtain ⟨xu, yu, rfl, rx, ry⟩ := id hI; obtain ⟨pu, cu, rfl, hrx⟩ := id rx; obtain ⟨qu, du, rfl, hry⟩ := id ry; clear hrx hry rx ry hF
  have K_w2_12 : Below w2.heap.size w2 w12 := below_thru K_w2_11 hb
  have K_w4_12 : Below w4.heap.size w4 w12 := below_thru K_w4_11 hb
  have K_w6_12 : Below w6.heap.size w6 w12 := below_thru K_w6_11 hb
  have K_w8_12 : Below w8.heap.size w8 w12 := below_thru K_w8_11 hb
  have K_w10_12 : Below w10.heap.size w10 w12 := below_thru K_w10_11 hb
  clear K_w2_11 K_w4_11 K_w6_11 K_w8_11 K_w10_11
  have hB12 : Below w.heap.size w w12 := below_thru hB11 hb
  have hs12 := hB12.size
  have x_a12 : Box w12 (w.heap.size) ([.slice a1 O.pv.length c1, .slice a2 O.nx.length c2, .int .i64 O.hd, .int .i64 O.tl]) := Box.below x_a11 hb
  have x_z12 : Box w12 (w2.heap.size) ([.slice pz O.pv.length cz, .slice qz O.nx.length dz, .int .i64 O.hd, .int .i64 O.tl]) := Box.below x_z11 hb
  have x_x12 : Box w12 (w4.heap.size) ([.slice px B.pv.length cx, .slice qx B.nx.length dx, .int .i64 B.hd, .int .i64 B.tl]) := Box.below x_x11 hb
  have x_y12 : Box w12 (w6.heap.size) ([.slice py B.pv.length cy, .slice qy B.nx.length dy, .int .i64 B.hd, .int .i64 B.tl]) := Box.below x_y11 hb
  have x_p12 : Box w12 (w8.heap.size) ([.slice pp C.pv.length cp, .slice qp C.nx.length dp, .int .i64 C.hd, .int .i64 C.tl]) := Box.below x_p11 hb
  have x_q12 : Box w12 (w10.heap.size) ([.slice pq C.pv.length cq, .slice qq C.nx.length dq, .int .i64 C.hd, .int .i64 C.tl]) := Box.below x_q11 hb
  clear hB11 hs11 x_a11 x_z11 x_x11 x_y11 x_p11 x_q11
  clear hb
  have K_w12_12 : Below w12.heap.size w12 w12 := Below.refl _ _
  have Iu : Hid (IsO w12 (.agg [.slice pu D.pv.length cu, .slice qu D.nx.length du, .int .i64 D.hd, .int .i64 D.tl].toArray) D) := Lib.hid hI; clear hI
  have d_u_a := (x_a12).lt
  have d_u_z := (x_z12).lt
  have d_u_x := (x_x12).lt
  have d_u_y := (x_y12).lt
  have d_u_p := (x_p12).lt
  have d_u_q := (x_q12).lt
  have d_u_0 := hs12
  go_upto_region 9 with (refine wpList_store_box (cs := [.slice pu D.pv.length cu, .slice qu D.nx.length du, .int .i64 D.hd, .int .i64 D.tl]) rfl _ _ _ rfl (Box.newc (l := od0) rfl rfl) rfl rfl (size_od _ _ _ _) rfl (one_od _ _ _ _ _ _ _ _) ?_; intro W12_0 hW12_0)
  have hN : Below w12.heap.size w12 W12_0 := (hW12_0.below _ _ (by omega) ((Below.refl _ w12).alloc (Nat.le_refl _) _))
  have x_u13 : Box W12_0 (w12.heap.size) ([.slice pu D.pv.length cu, .slice qu D.nx.length du, .int .i64 D.hd, .int .i64 D.tl]) := hW12_0.box
  have K_w2_13 : Below w2.heap.size w2 W12_0 := below_thru K_w2_12 hN
  have K_w4_13 : Below w4.heap.size w4 W12_0 := below_thru K_w4_12 hN
  have K_w6_13 : Below w6.heap.size w6 W12_0 := below_thru K_w6_12 hN
  have K_w8_13 : Below w8.heap.size w8 W12_0 := below_thru K_w8_12 hN
  have K_w10_13 : Below w10.heap.size w10 W12_0 := below_thru K_w10_12 hN
  have K_w12_13 : Below w12.heap.size w12 W12_0 := below_thru K_w12_12 hN
  clear K_w2_12 K_w4_12 K_w6_12 K_w8_12 K_w10_12 K_w12_12
  have hB13 : Below w.heap.size w W12_0 := below_thru hB12 hN
  have hs13 := hB13.size
  have x_a13 : Box W12_0 (w.heap.size) ([.slice a1 O.pv.length c1, .slice a2 O.nx.length c2, .int .i64 O.hd, .int .i64 O.tl]) := Box.below x_a12 hN
  have x_z13 : Box W12_0 (w2.heap.size) ([.slice pz O.pv.length cz, .slice qz O.nx.length dz, .int .i64 O.hd, .int .i64 O.tl]) := Box.below x_z12 hN
  have x_x13 : Box W12_0 (w4.heap.size) ([.slice px B.pv.length cx, .slice qx B.nx.length dx, .int .i64 B.hd, .int .i64 B.tl]) := Box.below x_x12 hN
  have x_y13 : Box W12_0 (w6.heap.size) ([.slice py B.pv.length cy, .slice qy B.nx.length dy, .int .i64 B.hd, .int .i64 B.tl]) := Box.below x_y12 hN
  have x_p13 : Box W12_0 (w8.heap.size) ([.slice pp C.pv.length cp, .slice qp C.nx.length dp, .int .i64 C.hd, .int .i64 C.tl]) := Box.below x_p12 hN
  have x_q13 : Box W12_0 (w10.heap.size) ([.slice pq C.pv.length cq, .slice qq C.nx.length dq, .int .i64 C.hd, .int .i64 C.tl]) := Box.below x_q12 hN
  clear hB12 hs12 x_a12 x_z12 x_x12 x_y12 x_p12 x_q12
  clear hN hW12_0
  go_wp2_with (refine wpList_load_box9 rfl _ _ rfl x_a13 rfl Try.underlying24 rfl SA.out ?_)
  refine (R2 _ _ (HO.out.below hB13)).mono ?_
  rintro e w14 ⟨vv, rfl, hI, hF, hb⟩
  obtain ⟨xv, yv, rfl, rx, ry⟩ := id hI; obtain ⟨pv, cv, rfl, hrx⟩ := id rx; obtain ⟨qv, dv, rfl, hry⟩ := id ry; clear hrx hry rx ry hF
  have K_w2_14 : Below w2.heap.size w2 w14 := below_thru K_w2_13 hb
  have K_w4_14 : Below w4.heap.size w4 w14 := below_thru K_w4_13 hb
  have K_w6_14 : Below w6.heap.size w6 w14 := below_thru K_w6_13 hb
  have K_w8_14 : Below w8.heap.size w8 w14 := below_thru K_w8_13 hb
  have K_w10_14 : Below w10.heap.size w10 w14 := below_thru K_w10_13 hb
  have K_w12_14 : Below w12.heap.size w12 w14 := below_thru K_w12_13 hb
  clear K_w2_13 K_w4_13 K_w6_13 K_w8_13 K_w10_13 K_w12_13
  have hB14 : Below w.heap.size w w14 := below_thru hB13 hb
  have hs14 := hB14.size
  have x_a14 : Box w14 (w.heap.size) ([.slice a1 O.pv.length c1, .slice a2 O.nx.length c2, .int .i64 O.hd, .int .i64 O.tl]) := Box.below x_a13 hb
  have x_z14 : Box w14 (w2.heap.size) ([.slice pz O.pv.length cz, .slice qz O.nx.length dz, .int .i64 O.hd, .int .i64 O.tl]) := Box.below x_z13 hb
  have x_x14 : Box w14 (w4.heap.size) ([.slice px B.pv.length cx, .slice qx B.nx.length dx, .int .i64 B.hd, .int .i64 B.tl]) := Box.below x_x13 hb
  have x_y14 : Box w14 (w6.heap.size) ([.slice py B.pv.length cy, .slice qy B.nx.length dy, .int .i64 B.hd, .int .i64 B.tl]) := Box.below x_y13 hb
  have x_p14 : Box w14 (w8.heap.size) ([.slice pp C.pv.length cp, .slice qp C.nx.length dp, .int .i64 C.hd, .int .i64 C.tl]) := Box.below x_p13 hb
  have x_q14 : Box w14 (w10.heap.size) ([.slice pq C.pv.length cq, .slice qq C.nx.length dq, .int .i64 C.hd, .int .i64 C.tl]) := Box.below x_q13 hb
  have x_u14 : Box w14 (w12.heap.size) ([.slice pu D.pv.length cu, .slice qu D.nx.length du, .int .i64 D.hd, .int .i64 D.tl]) := Box.below x_u13 hb
  clear hB13 hs13 x_a13 x_z13 x_x13 x_y13 x_p13 x_q13 x_u13
  clear hb
  have K_w14_14 : Below w14.heap.size w14 w14 := Below.refl _ _
  have Iv : Hid (IsO w14 (.agg [.slice pv D.pv.length cv, .slice qv D.nx.length dv, .int .i64 D.hd, .int .i64 D.tl].toArray) D) := Lib.hid hI; clear hI
  have d_v_a := (x_a14).lt
  have d_v_z := (x_z14).lt
  have d_v_x := (x_x14).lt
  have d_v_y := (x_y14).lt
  have d_v_p := (x_p14).lt
  have d_v_q := (x_q14).lt
  have d_v_u := (x_u14).lt
  have d_v_0 := hs14
  go_upto_region 10 with (refine wpList_store_box (cs := [.slice pv D.pv.length cv, .slice qv D.nx.length dv, .int .i64 D.hd, .int .i64 D.tl]) rfl _ _ _ rfl (Box.newc (l := od0) rfl rfl) rfl rfl (size_od _ _ _ _) rfl (one_od _ _ _ _ _ _ _ _) ?_; intro W14_0 hW14_0)
  have hN : Below w14.heap.size w14 W14_0 := (hW14_0.below _ _ (by omega) ((Below.refl _ w14).alloc (Nat.le_refl _) _))
  have x_v15 : Box W14_0 (w14.heap.size) ([.slice pv D.pv.length cv, .slice qv D.nx.length dv, .int .i64 D.hd, .int .i64 D.tl]) := hW14_0.box
  have K_w2_15 : Below w2.heap.size w2 W14_0 := below_thru K_w2_14 hN
  have K_w4_15 : Below w4.heap.size w4 W14_0 := below_thru K_w4_14 hN
  have K_w6_15 : Below w6.heap.size w6 W14_0 := below_thru K_w6_14 hN
  have K_w8_15 : Below w8.heap.size w8 W14_0 := below_thru K_w8_14 hN
  have K_w10_15 : Below w10.heap.size w10 W14_0 := below_thru K_w10_14 hN
  have K_w12_15 : Below w12.heap.size w12 W14_0 := below_thru K_w12_14 hN
  have K_w14_15 : Below w14.heap.size w14 W14_0 := below_thru K_w14_14 hN
  clear K_w2_14 K_w4_14 K_w6_14 K_w8_14 K_w10_14 K_w12_14 K_w14_14
  have hB15 : Below w.heap.size w W14_0 := below_thru hB14 hN
  have hs15 := hB15.size
  have x_a15 : Box W14_0 (w.heap.size) ([.slice a1 O.pv.length c1, .slice a2 O.nx.length c2, .int .i64 O.hd, .int .i64 O.tl]) := Box.below x_a14 hN
  have x_z15 : Box W14_0 (w2.heap.size) ([.slice pz O.pv.length cz, .slice qz O.nx.length dz, .int .i64 O.hd, .int .i64 O.tl]) := Box.below x_z14 hN
  have x_x15 : Box W14_0 (w4.heap.size) ([.slice px B.pv.length cx, .slice qx B.nx.length dx, .int .i64 B.hd, .int .i64 B.tl]) := Box.below x_x14 hN
  have x_y15 : Box W14_0 (w6.heap.size) ([.slice py B.pv.length cy, .slice qy B.nx.length dy, .int .i64 B.hd, .int .i64 B.tl]) := Box.below x_y14 hN
  have x_p15 : Box W14_0 (w8.heap.size) ([.slice pp C.pv.length cp, .slice qp C.nx.length dp, .int .i64 C.hd, .int .i64 C.tl]) := Box.below x_p14 hN
  have x_q15 : Box W14_0 (w10.heap.size) ([.slice pq C.pv.length cq, .slice qq C.nx.length dq, .int .i64 C.hd, .int .i64 C.tl]) := Box.below x_q14 hN
  have x_u15 : Box W14_0 (w12.heap.size) ([.slice pu D.pv.length cu, .slice qu D.nx.length du, .int .i64 D.hd, .int .i64 D.tl]) := Box.below x_u14 hN
  clear hB14 hs14 x_a14 x_z14 x_x14 x_y14 x_p14 x_q14 x_u14
  clear hN hW14_0
  go_wp2_with (first
    | (refine wpList_load_box9 rfl _ _ rfl x_x15 rfl Try.underlying24 rfl (size_od _ _ _ _) ?_)
    | (refine wpList_load_box9 rfl _ _ rfl x_y15 rfl Try.underlying24 rfl (size_od _ _ _ _) ?_))
  refine (SM B _ _ _ (Ix.out.below K_w4_15) (Iy.out.below K_w6_15)).mono ?_
  rintro e w16 ⟨rfl, hb⟩
  have K_w2_16 : Below w2.heap.size w2 w16 := below_thru K_w2_15 hb
  have K_w4_16 : Below w4.heap.size w4 w16 := below_thru K_w4_15 hb
  have K_w6_16 : Below w6.heap.size w6 w16 := below_thru K_w6_15 hb
  have K_w8_16 : Below w8.heap.size w8 w16 := below_thru K_w8_15 hb
  have K_w10_16 : Below w10.heap.size w10 w16 := below_thru K_w10_15 hb
  have K_w12_16 : Below w12.heap.size w12 w16 := below_thru K_w12_15 hb
  have K_w14_16 : Below w14.heap.size w14 w16 := below_thru K_w14_15 hb
  clear K_w2_15 K_w4_15 K_w6_15 K_w8_15 K_w10_15 K_w12_15 K_w14_15
  have hB16 : Below w.heap.size w w16 := below_thru hB15 hb
  have hs16 := hB16.size
  have x_a16 : Box w16 (w.heap.size) ([.slice a1 O.pv.length c1, .slice a2 O.nx.length c2, .int .i64 O.hd, .int .i64 O.tl]) := Box.below x_a15 hb
  have x_z16 : Box w16 (w2.heap.size) ([.slice pz O.pv.length cz, .slice qz O.nx.length dz, .int .i64 O.hd, .int .i64 O.tl]) := Box.below x_z15 hb
  have x_x16 : Box w16 (w4.heap.size) ([.slice px B.pv.length cx, .slice qx B.nx.length dx, .int .i64 B.hd, .int .i64 B.tl]) := Box.below x_x15 hb
  have x_y16 : Box w16 (w6.heap.size) ([.slice py B.pv.length cy, .slice qy B.nx.length dy, .int .i64 B.hd, .int .i64 B.tl]) := Box.below x_y15 hb
  have x_p16 : Box w16 (w8.heap.size) ([.slice pp C.pv.length cp, .slice qp C.nx.length dp, .int .i64 C.hd, .int .i64 C.tl]) := Box.below x_p15 hb
  have x_q16 : Box w16 (w10.heap.size) ([.slice pq C.pv.length cq, .slice qq C.nx.length dq, .int .i64 C.hd, .int .i64 C.tl]) := Box.below x_q15 hb
  have x_u16 : Box w16 (w12.heap.size) ([.slice pu D.pv.length cu, .slice qu D.nx.length du, .int .i64 D.hd, .int .i64 D.tl]) := Box.below x_u15 hb
  have x_v16 : Box w16 (w14.heap.size) ([.slice pv D.pv.length cv, .slice qv D.nx.length dv, .int .i64 D.hd, .int .i64 D.tl]) := Box.below x_v15 hb
  clear hB15 hs15 x_a15 x_z15 x_x15 x_y15 x_p15 x_q15 x_u15 x_v15
  clear hb
  clear K_w4_16
  clear K_w6_16
  clear x_x16
  clear x_y16
  go_wp2_with (first
    | (refine wpList_load_box9 rfl _ _ rfl x_p16 rfl Try.underlying24 rfl (size_od _ _ _ _) ?_)
    | (refine wpList_load_box9 rfl _ _ rfl x_q16 rfl Try.underlying24 rfl (size_od _ _ _ _) ?_))
  refine (SM C _ _ _ (Ip.out.below K_w8_16) (Iq.out.below K_w10_16)).mono ?_
  rintro e w17 ⟨rfl, hb⟩
  have K_w2_17 : Below w2.heap.size w2 w17 := below_thru K_w2_16 hb
  have K_w8_17 : Below w8.heap.size w8 w17 := below_thru K_w8_16 hb
  have K_w10_17 : Below w10.heap.size w10 w17 := below_thru K_w10_16 hb
  have K_w12_17 : Below w12.heap.size w12 w17 := below_thru K_w12_16 hb
  have K_w14_17 : Below w14.heap.size w14 w17 := below_thru K_w14_16 hb
  clear K_w2_16 K_w8_16 K_w10_16 K_w12_16 K_w14_16
  have hB17 : Below w.heap.size w w17 := below_thru hB16 hb
  have hs17 := hB17.size
  have x_a17 : Box w17 (w.heap.size) ([.slice a1 O.pv.length c1, .slice a2 O.nx.length c2, .int .i64 O.hd, .int .i64 O.tl]) := Box.below x_a16 hb
  have x_z17 : Box w17 (w2.heap.size) ([.slice pz O.pv.length cz, .slice qz O.nx.length dz, .int .i64 O.hd, .int .i64 O.tl]) := Box.below x_z16 hb
  have x_p17 : Box w17 (w8.heap.size) ([.slice pp C.pv.length cp, .slice qp C.nx.length dp, .int .i64 C.hd, .int .i64 C.tl]) := Box.below x_p16 hb
  have x_q17 : Box w17 (w10.heap.size) ([.slice pq C.pv.length cq, .slice qq C.nx.length dq, .int .i64 C.hd, .int .i64 C.tl]) := Box.below x_q16 hb
  have x_u17 : Box w17 (w12.heap.size) ([.slice pu D.pv.length cu, .slice qu D.nx.length du, .int .i64 D.hd, .int .i64 D.tl]) := Box.below x_u16 hb
  have x_v17 : Box w17 (w14.heap.size) ([.slice pv D.pv.length cv, .slice qv D.nx.length dv, .int .i64 D.hd, .int .i64 D.tl]) := Box.below x_v16 hb
  clear hB16 hs16 x_a16 x_z16 x_p16 x_q16 x_u16 x_v16
  clear hb
  clear K_w8_17
  clear K_w10_17
  clear x_p17
  clear x_q17
  go_wp2_with (first
    | (refine wpList_load_box9 rfl _ _ rfl x_u17 rfl Try.underlying24 rfl (size_od _ _ _ _) ?_)
    | (refine wpList_load_box9 rfl _ _ rfl x_v17 rfl Try.underlying24 rfl (size_od _ _ _ _) ?_))
  refine (SM D _ _ _ (Iu.out.below K_w12_17) (Iv.out.below K_w14_17)).mono ?_
  rintro e w18 ⟨rfl, hb⟩
  have K_w2_18 : Below w2.heap.size w2 w18 := below_thru K_w2_17 hb
  have K_w12_18 : Below w12.heap.size w12 w18 := below_thru K_w12_17 hb
  have K_w14_18 : Below w14.heap.size w14 w18 := below_thru K_w14_17 hb
  clear K_w2_17 K_w12_17 K_w14_17
  have hB18 : Below w.heap.size w w18 := below_thru hB17 hb
  have hs18 := hB18.size
  have x_a18 : Box w18 (w.heap.size) ([.slice a1 O.pv.length c1, .slice a2 O.nx.length c2, .int .i64 O.hd, .int .i64 O.tl]) := Box.below x_a17 hb
  have x_z18 : Box w18 (w2.heap.size) ([.slice pz O.pv.length cz, .slice qz O.nx.length dz, .int .i64 O.hd, .int .i64 O.tl]) := Box.below x_z17 hb
  have x_u18 : Box w18 (w12.heap.size) ([.slice pu D.pv.length cu, .slice qu D.nx.length du, .int .i64 D.hd, .int .i64 D.tl]) := Box.below x_u17 hb
  have x_v18 : Box w18 (w14.heap.size) ([.slice pv D.pv.length cv, .slice qv D.nx.length dv, .int .i64 D.hd, .int .i64 D.tl]) := Box.below x_v17 hb
  clear hB17 hs17 x_a17 x_z17 x_u17 x_v17
  clear hb
  clear K_w12_18
  clear K_w14_18
  clear x_u18
  clear x_v18
  go_wp2_with (refine wpList_load_box9 rfl _ _ rfl x_z18 rfl Try.underlying24 rfl (size_od _ _ _ _) ?_)
  refine (A1 _ _ (Iz.out.below K_w2_18)).mono ?_
  rintro e w19 ⟨rfl, hb⟩
  have K_w2_19 : Below w2.heap.size w2 w19 := below_thru K_w2_18 hb
  clear K_w2_18
  have hB19 : Below w.heap.size w w19 := below_thru hB18 hb
  have hs19 := hB19.size
  have x_a19 : Box w19 (w.heap.size) ([.slice a1 O.pv.length c1, .slice a2 O.nx.length c2, .int .i64 O.hd, .int .i64 O.tl]) := Box.below x_a18 hb
  have x_z19 : Box w19 (w2.heap.size) ([.slice pz O.pv.length cz, .slice qz O.nx.length dz, .int .i64 O.hd, .int .i64 O.tl]) := Box.below x_z18 hb
  clear hB18 hs18 x_a18 x_z18
  clear hb
  go_wp2_with (refine wpList_load_box9 rfl _ _ rfl x_a19 rfl Try.underlying24 rfl SA.out ?_)
  refine (A2 _ _ (HO.out.below hB19)).mono ?_
  rintro e w20 ⟨rfl, hb⟩
  have K_w2_20 : Below w2.heap.size w2 w20 := below_thru K_w2_19 hb
  clear K_w2_19
  have hB20 : Below w.heap.size w w20 := below_thru hB19 hb
  have hs20 := hB20.size
  have x_a20 : Box w20 (w.heap.size) ([.slice a1 O.pv.length c1, .slice a2 O.nx.length c2, .int .i64 O.hd, .int .i64 O.tl]) := Box.below x_a19 hb
  have x_z20 : Box w20 (w2.heap.size) ([.slice pz O.pv.length cz, .slice qz O.nx.length dz, .int .i64 O.hd, .int .i64 O.tl]) := Box.below x_z19 hb
  clear hB19 hs19 x_a19 x_z19
  clear hb
  go_wp2_with (refine wpList_load_box9 rfl _ _ rfl x_z20 rfl Try.underlying24 rfl (size_od _ _ _ _) ?_)
  refine (L1 _ _ (Iz.out.below K_w2_20)).mono ?_
  rintro e w21 ⟨ul, rfl, hI, hF, hb⟩
  have K_w2_21 : Below w2.heap.size w2 w21 := below_thru K_w2_20 hb
  clear K_w2_20
  have hB21 : Below w.heap.size w w21 := below_thru hB20 hb
  have hs21 := hB21.size
  have x_a21 : Box w21 (w.heap.size) ([.slice a1 O.pv.length c1, .slice a2 O.nx.length c2, .int .i64 O.hd, .int .i64 O.tl]) := Box.below x_a20 hb
  have x_z21 : Box w21 (w2.heap.size) ([.slice pz O.pv.length cz, .slice qz O.nx.length dz, .int .i64 O.hd, .int .i64 O.tl]) := Box.below x_z20 hb
  clear hB20 hs20 x_a20 x_z20
  clear hb hF
  have K_w21_21 : Below w21.heap.size w21 w21 := Below.refl _ _
  have Jl : Hid (IsR LI w21 ul (nums m)) := Lib.hid hI; clear hI
  go_wp2_with (refine wpList_load_box9 rfl _ _ rfl x_a21 rfl Try.underlying24 rfl SA.out ?_)
  refine (L2 _ _ (HO.out.below hB21)).mono ?_
  rintro e w22 ⟨ur, rfl, hI, hF, hb⟩
  have K_w2_22 : Below w2.heap.size w2 w22 := below_thru K_w2_21 hb
  have K_w21_22 : Below w21.heap.size w21 w22 := below_thru K_w21_21 hb
  clear K_w2_21 K_w21_21
  have hB22 : Below w.heap.size w w22 := below_thru hB21 hb
  have hs22 := hB22.size
  have x_a22 : Box w22 (w.heap.size) ([.slice a1 O.pv.length c1, .slice a2 O.nx.length c2, .int .i64 O.hd, .int .i64 O.tl]) := Box.below x_a21 hb
  have x_z22 : Box w22 (w2.heap.size) ([.slice pz O.pv.length cz, .slice qz O.nx.length dz, .int .i64 O.hd, .int .i64 O.tl]) := Box.below x_z21 hb
  clear hB21 hs21 x_a21 x_z21
  clear hb hF
  have K_w22_22 : Below w22.heap.size w22 w22 := Below.refl _ _
  have Jr : Hid (IsR LI w22 ur (nums m)) := Lib.hid hI; clear hI
  go_upto_region 16 with fail
  refine wp_region_held_drew (S := fun W => Box W (w.heap.size) ([.slice a1 O.pv.length c1, .slice a2 O.nx.length c2, .int .i64 O.hd, .int .i64 O.tl]) ∧ Box W (w2.heap.size) ([.slice pz O.pv.length cz, .slice qz O.nx.length dz, .int .i64 O.hd, .int .i64 O.tl])) (by kernel_rfl) (And.intro (x_a22).drew (x_z22).drew) (fun _ => ?_)
  refine F_drew (F := fun W => wpAnyH _ _ _ _ _ _ _ _ W) ?_
  intro Ws0 hbs0
  clear hs22
  have x_a_s0 : Box Ws0 (w.heap.size) ([.slice a1 O.pv.length c1, .slice a2 O.nx.length c2, .int .i64 O.hd, .int .i64 O.tl]) := Box.below x_a22 hbs0
  have x_z_s0 : Box Ws0 (w2.heap.size) ([.slice pz O.pv.length cz, .slice qz O.nx.length dz, .int .i64 O.hd, .int .i64 O.tl]) := Box.below x_z22 hbs0
  have Bs0 := below_thru hB22 hbs0
  have K_w2_s0 := below_thru K_w2_22 hbs0
  have K_w21_s0 := below_thru K_w21_22 hbs0
  have K_w22_s0 := below_thru K_w22_22 hbs0
  clear x_a22 x_z22 hB22 K_w2_22 K_w21_22 K_w22_22 hbs0
  refine takeH 0 117 (v := .agg ([.slice pz O.pv.length cz, .slice qz O.nx.length dz, .int .i64 O.hd, .int .i64 O.tl]).toArray) rfl (by rfl) (by kernel_rfl) (by kernel_rfl) (by kernel_rfl) (fun _ _ _ h => h) (yieldsIf_load_mid (by rfl) _ _ rfl _ _ rfl ([.slice pz O.pv.length cz, .slice qz O.nx.length dz, .int .i64 O.hd, .int .i64 O.tl]) _ (fun wq hq => Box.range (hq.2)) Try.underlying24 rfl (size_od _ _ _ _)) ((And.intro x_a_s0 x_z_s0)) ?_
  try simp only [Act.put, List.setIfInBounds_toArray, List.set_cons_zero, List.set_cons_succ]
  refine takeH 2 119 (v := .agg ([.slice a1 O.pv.length c1, .slice a2 O.nx.length c2, .int .i64 O.hd, .int .i64 O.tl]).toArray) rfl (by rfl) (by kernel_rfl) (by kernel_rfl) (by kernel_rfl) (fun _ _ _ h => h) (yieldsIf_load_mid (by rfl) _ _ rfl _ _ rfl ([.slice a1 O.pv.length c1, .slice a2 O.nx.length c2, .int .i64 O.hd, .int .i64 O.tl]) _ (fun wq hq => Box.range (hq.1)) Try.underlying24 rfl SA.out) ((And.intro x_a_s0 x_z_s0)) ?_
  try simp only [Act.put, List.setIfInBounds_toArray, List.set_cons_zero, List.set_cons_succ]
  refine wpAnyH_ready (rs := [1]) (by kernel_rfl) (by simp) (AllReadyH.cons rfl (fun K hK => ?_) AllReadyH.nil)
  go_simp
  refine (K1 _ _ (Iz.out.below K_w2_s0)).mono ?_
  rintro e Ws1 ⟨rfl, hbs1⟩
  have x_a_s1 : Box Ws1 (w.heap.size) ([.slice a1 O.pv.length c1, .slice a2 O.nx.length c2, .int .i64 O.hd, .int .i64 O.tl]) := Box.below x_a_s0 hbs1
  have x_z_s1 : Box Ws1 (w2.heap.size) ([.slice pz O.pv.length cz, .slice qz O.nx.length dz, .int .i64 O.hd, .int .i64 O.tl]) := Box.below x_z_s0 hbs1
  have Bs1 := below_thru Bs0 hbs1
  have K_w2_s1 := below_thru K_w2_s0 hbs1
  have K_w21_s1 := below_thru K_w21_s0 hbs1
  have K_w22_s1 := below_thru K_w22_s0 hbs1
  clear x_a_s0 x_z_s0 Bs0 K_w2_s0 K_w21_s0 K_w22_s0 hbs1
  refine hK.out _ _ (And.intro x_a_s1 x_z_s1) (fun _ => ?_); clear hK K
  refine wpAnyH_ready (rs := [3]) (by kernel_rfl) (by simp) (AllReadyH.cons rfl (fun K hK => ?_) AllReadyH.nil)
  go_simp
  refine (K2 _ _ (HO.out.below Bs1)).mono ?_
  rintro e Ws2 ⟨rfl, hbs2⟩
  have x_a_s2 : Box Ws2 (w.heap.size) ([.slice a1 O.pv.length c1, .slice a2 O.nx.length c2, .int .i64 O.hd, .int .i64 O.tl]) := Box.below x_a_s1 hbs2
  have x_z_s2 : Box Ws2 (w2.heap.size) ([.slice pz O.pv.length cz, .slice qz O.nx.length dz, .int .i64 O.hd, .int .i64 O.tl]) := Box.below x_z_s1 hbs2
  have Bs2 := below_thru Bs1 hbs2
  have K_w2_s2 := below_thru K_w2_s1 hbs2
  have K_w21_s2 := below_thru K_w21_s1 hbs2
  have K_w22_s2 := below_thru K_w22_s1 hbs2
  clear x_a_s1 x_z_s1 Bs1 K_w2_s1 K_w21_s1 K_w22_s1 hbs2
  refine hK.out _ _ (And.intro x_a_s2 x_z_s2) (fun _ => ?_); clear hK K
  refine takeH 4 121 (v := ?vs4_3) rfl (by rfl) (by kernel_rfl) (by kernel_rfl) (by kernel_rfl) (fun _ _ _ h => h) (Or.inl ⟨by rfl, ?_⟩) ((And.intro x_a_s2 x_z_s2)) ?_
  rotate_left
  · intro wq hSq
    go_simp
    exact rfl
  try simp only [Act.put, List.setIfInBounds_toArray, List.set_cons_zero, List.set_cons_succ]
  refine takeH 5 122 (v := ?vs5_4) rfl (by rfl) (by kernel_rfl) (by kernel_rfl) (by kernel_rfl) (fun _ _ _ h => h) (Or.inl ⟨by rfl, ?_⟩) ((And.intro x_a_s2 x_z_s2)) ?_
  rotate_left
  · intro wq hSq
    go_simp
    exact rfl
  try simp only [Act.put, List.setIfInBounds_toArray, List.set_cons_zero, List.set_cons_succ]
  refine takeH 6 123 (v := ?vs6_5) rfl (by rfl) (by kernel_rfl) (by kernel_rfl) (by kernel_rfl) (fun _ _ _ h => h) (Or.inl ⟨by rfl, ?_⟩) ((And.intro x_a_s2 x_z_s2)) ?_
  rotate_left
  · intro wq hSq
    go_simp
    exact rfl
  try simp only [Act.put, List.setIfInBounds_toArray, List.set_cons_zero, List.set_cons_succ]
  refine takeH 7 124 (v := ?vs7_6) rfl (by rfl) (by kernel_rfl) (by kernel_rfl) (by kernel_rfl) (fun _ _ _ h => h) (Or.inl ⟨by rfl, ?_⟩) ((And.intro x_a_s2 x_z_s2)) ?_
  rotate_left
  · intro wq hSq
    go_simp
    exact rfl
  try simp only [Act.put, List.setIfInBounds_toArray, List.set_cons_zero, List.set_cons_succ]
  refine takeH 8 125 (v := ?vs8_7) rfl (by rfl) (by kernel_rfl) (by kernel_rfl) (by kernel_rfl) (fun _ _ _ h => h) (Or.inl ⟨by rfl, ?_⟩) ((And.intro x_a_s2 x_z_s2)) ?_
  rotate_left
  · intro wq hSq
    go_simp
    exact rfl
  try simp only [Act.put, List.setIfInBounds_toArray, List.set_cons_zero, List.set_cons_succ]
  refine takeH 9 126 (v := ?vs9_8) rfl (by rfl) (by kernel_rfl) (by kernel_rfl) (by kernel_rfl) (fun _ _ _ h => h) (Or.inl ⟨by rfl, ?_⟩) ((And.intro x_a_s2 x_z_s2)) ?_
  rotate_left
  · intro wq hSq
    go_simp
    exact rfl
  try simp only [Act.put, List.setIfInBounds_toArray, List.set_cons_zero, List.set_cons_succ]
  refine takeH 10 127 (v := ?vs10_9) rfl (by rfl) (by kernel_rfl) (by kernel_rfl) (by kernel_rfl) (fun _ _ _ h => h) (Or.inl ⟨by rfl, ?_⟩) ((And.intro x_a_s2 x_z_s2)) ?_
  rotate_left
  · intro wq hSq
    go_simp
    exact rfl
  try simp only [Act.put, List.setIfInBounds_toArray, List.set_cons_zero, List.set_cons_succ]
  refine takeH 11 128 (v := ?vs11_10) rfl (by rfl) (by kernel_rfl) (by kernel_rfl) (by kernel_rfl) (fun _ _ _ h => h) (Or.inl ⟨by rfl, ?_⟩) ((And.intro x_a_s2 x_z_s2)) ?_
  rotate_left
  · intro wq hSq
    go_simp
    exact rfl
  try simp only [Act.put, List.setIfInBounds_toArray, List.set_cons_zero, List.set_cons_succ]
  refine takeH 12 129 (v := ?vs12_11) rfl (by rfl) (by kernel_rfl) (by kernel_rfl) (by kernel_rfl) (fun _ _ _ h => h) (Or.inl ⟨by rfl, ?_⟩) ((And.intro x_a_s2 x_z_s2)) ?_
  rotate_left
  · intro wq hSq
    go_simp
    exact rfl
  try simp only [Act.put, List.setIfInBounds_toArray, List.set_cons_zero, List.set_cons_succ]
  refine takeH 13 130 (v := ?vs13_12) rfl (by rfl) (by kernel_rfl) (by kernel_rfl) (by kernel_rfl) (fun _ _ _ h => h) (Or.inl ⟨by rfl, ?_⟩) ((And.intro x_a_s2 x_z_s2)) ?_
  rotate_left
  · intro wq hSq
    go_simp
    exact rfl
  try simp only [Act.put, List.setIfInBounds_toArray, List.set_cons_zero, List.set_cons_succ]
  refine takeH 14 131 (v := ?vs14_13) rfl (by rfl) (by kernel_rfl) (by kernel_rfl) (by kernel_rfl) (fun _ _ _ h => h) (Or.inl ⟨by rfl, ?_⟩) ((And.intro x_a_s2 x_z_s2)) ?_
  rotate_left
  · intro wq hSq
    go_simp
    exact rfl
  try simp only [Act.put, List.setIfInBounds_toArray, List.set_cons_zero, List.set_cons_succ]
  refine takeH 15 132 (v := ?vs15_14) rfl (by rfl) (by kernel_rfl) (by kernel_rfl) (by kernel_rfl) (fun _ _ _ h => h) (Or.inl ⟨by rfl, ?_⟩) ((And.intro x_a_s2 x_z_s2)) ?_
  rotate_left
  · intro wq hSq
    go_simp
    exact rfl
  try simp only [Act.put, List.setIfInBounds_toArray, List.set_cons_zero, List.set_cons_succ]
  refine takeH 16 133 (v := ?vs16_15) rfl (by rfl) (by kernel_rfl) (by kernel_rfl) (by kernel_rfl) (fun _ _ _ h => h) (Or.inl ⟨by rfl, ?_⟩) ((And.intro x_a_s2 x_z_s2)) ?_
  rotate_left
  · intro wq hSq
    go_simp
    exact rfl
  try simp only [Act.put, List.setIfInBounds_toArray, List.set_cons_zero, List.set_cons_succ]
  refine takeH 17 134 (v := ?vs17_16) rfl (by rfl) (by kernel_rfl) (by kernel_rfl) (by kernel_rfl) (fun _ _ _ h => h) (Or.inl ⟨by rfl, ?_⟩) ((And.intro x_a_s2 x_z_s2)) ?_
  rotate_left
  · intro wq hSq
    go_simp
    exact rfl
  try simp only [Act.put, List.setIfInBounds_toArray, List.set_cons_zero, List.set_cons_succ]
  refine wpAnyH_ready (rs := [18]) (by kernel_rfl) (by simp) (AllReadyH.cons rfl (fun K hK => ?_) AllReadyH.nil)
  go_simp
  refine (SI _ _ _ (Jl.out.below K_w21_s2) (Jr.out.below K_w22_s2)).mono ?_
  rintro e Ws17 ⟨rfl, hbs17⟩
  have x_a_s17 : Box Ws17 (w.heap.size) ([.slice a1 O.pv.length c1, .slice a2 O.nx.length c2, .int .i64 O.hd, .int .i64 O.tl]) := Box.below x_a_s2 hbs17
  have x_z_s17 : Box Ws17 (w2.heap.size) ([.slice pz O.pv.length cz, .slice qz O.nx.length dz, .int .i64 O.hd, .int .i64 O.tl]) := Box.below x_z_s2 hbs17
  have Bs17 := below_thru Bs2 hbs17
  have K_w2_s17 := below_thru K_w2_s2 hbs17
  have K_w21_s17 := below_thru K_w21_s2 hbs17
  have K_w22_s17 := below_thru K_w22_s2 hbs17
  clear x_a_s2 x_z_s2 Bs2 K_w2_s2 K_w21_s2 K_w22_s2 hbs17
  refine hK.out _ _ (And.intro x_a_s17 x_z_s17) (fun _ => ?_); clear hK K
  refine takeH 19 136 (v := ?vs19_18) rfl (by rfl) (by kernel_rfl) (by kernel_rfl) (by kernel_rfl) (fun _ _ _ h => h) (Or.inl ⟨by rfl, ?_⟩) ((And.intro x_a_s17 x_z_s17)) ?_
  rotate_left
  · intro wq hSq
    go_simp
    exact rfl
  try simp only [Act.put, List.setIfInBounds_toArray, List.set_cons_zero, List.set_cons_succ]
  refine takeH 20 137 (v := ?vs20_19) rfl (by rfl) (by kernel_rfl) (by kernel_rfl) (by kernel_rfl) (fun _ _ _ h => h) (Or.inl ⟨by rfl, ?_⟩) ((And.intro x_a_s17 x_z_s17)) ?_
  rotate_left
  · intro wq hSq
    go_simp
    exact rfl
  try simp only [Act.put, List.setIfInBounds_toArray, List.set_cons_zero, List.set_cons_succ]
  refine takeH 21 138 (v := ?vs21_20) rfl (by rfl) (by kernel_rfl) (by kernel_rfl) (by kernel_rfl) (fun _ _ _ h => h) (Or.inl ⟨by rfl, ?_⟩) ((And.intro x_a_s17 x_z_s17)) ?_
  rotate_left
  · intro wq hSq
    go_simp
    exact rfl
  try simp only [Act.put, List.setIfInBounds_toArray, List.set_cons_zero, List.set_cons_succ]
  refine takeH 22 139 (v := ?vs22_21) rfl (by rfl) (by kernel_rfl) (by kernel_rfl) (by kernel_rfl) (fun _ _ _ h => h) (Or.inl ⟨by rfl, ?_⟩) ((And.intro x_a_s17 x_z_s17)) ?_
  rotate_left
  · intro wq hSq
    go_simp
    exact rfl
  try simp only [Act.put, List.setIfInBounds_toArray, List.set_cons_zero, List.set_cons_succ]
  refine takeH 23 140 (v := ?vs23_22) rfl (by rfl) (by kernel_rfl) (by kernel_rfl) (by kernel_rfl) (fun _ _ _ h => h) (Or.inl ⟨by rfl, ?_⟩) ((And.intro x_a_s17 x_z_s17)) ?_
  rotate_left
  · intro wq hSq
    go_simp
    exact rfl
  try simp only [Act.put, List.setIfInBounds_toArray, List.set_cons_zero, List.set_cons_succ]
  refine takeH 24 141 (v := ?vs24_23) rfl (by rfl) (by kernel_rfl) (by kernel_rfl) (by kernel_rfl) (fun _ _ _ h => h) (Or.inl ⟨by rfl, ?_⟩) ((And.intro x_a_s17 x_z_s17)) ?_
  rotate_left
  · intro wq hSq
    go_simp
    exact rfl
  try simp only [Act.put, List.setIfInBounds_toArray, List.set_cons_zero, List.set_cons_succ]
  refine takeH 25 142 (v := ?vs25_24) rfl (by rfl) (by kernel_rfl) (by kernel_rfl) (by kernel_rfl) (fun _ _ _ h => h) (Or.inl ⟨by rfl, ?_⟩) ((And.intro x_a_s17 x_z_s17)) ?_
  rotate_left
  · intro wq hSq
    go_simp
    exact rfl
  try simp only [Act.put, List.setIfInBounds_toArray, List.set_cons_zero, List.set_cons_succ]
  refine takeH 26 143 (v := .agg ([.slice pz O.pv.length cz, .slice qz O.nx.length dz, .int .i64 O.hd, .int .i64 O.tl]).toArray) rfl (by rfl) (by kernel_rfl) (by kernel_rfl) (by kernel_rfl) (fun _ _ _ h => h) (yieldsIf_load_mid (by rfl) _ _ rfl _ _ rfl ([.slice pz O.pv.length cz, .slice qz O.nx.length dz, .int .i64 O.hd, .int .i64 O.tl]) _ (fun wq hq => Box.range (hq.2)) Try.underlying24 rfl (size_od _ _ _ _)) ((And.intro x_a_s17 x_z_s17)) ?_
  try simp only [Act.put, List.setIfInBounds_toArray, List.set_cons_zero, List.set_cons_succ]
  refine takeH 27 144 (v := .agg ([.slice a1 O.pv.length c1, .slice a2 O.nx.length c2, .int .i64 O.hd, .int .i64 O.tl]).toArray) rfl (by rfl) (by kernel_rfl) (by kernel_rfl) (by kernel_rfl) (fun _ _ _ h => h) (yieldsIf_load_mid (by rfl) _ _ rfl _ _ rfl ([.slice a1 O.pv.length c1, .slice a2 O.nx.length c2, .int .i64 O.hd, .int .i64 O.tl]) _ (fun wq hq => Box.range (hq.1)) Try.underlying24 rfl SA.out) ((And.intro x_a_s17 x_z_s17)) ?_
  try simp only [Act.put, List.setIfInBounds_toArray, List.set_cons_zero, List.set_cons_succ]
  refine wpAnyH_ready (rs := [28]) (by kernel_rfl) (by simp) (AllReadyH.cons rfl (fun K hK => ?_) AllReadyH.nil)
  go_simp
  refine (SM O _ _ _ (Iz.out.below K_w2_s17) (HO.out.below Bs17)).mono ?_
  rintro e Ws25 ⟨rfl, hbs25⟩
  have x_a_s25 : Box Ws25 (w.heap.size) ([.slice a1 O.pv.length c1, .slice a2 O.nx.length c2, .int .i64 O.hd, .int .i64 O.tl]) := Box.below x_a_s17 hbs25
  have x_z_s25 : Box Ws25 (w2.heap.size) ([.slice pz O.pv.length cz, .slice qz O.nx.length dz, .int .i64 O.hd, .int .i64 O.tl]) := Box.below x_z_s17 hbs25
  have Bs25 := below_thru Bs17 hbs25
  have K_w2_s25 := below_thru K_w2_s17 hbs25
  have K_w21_s25 := below_thru K_w21_s17 hbs25
  have K_w22_s25 := below_thru K_w22_s17 hbs25
  clear x_a_s17 x_z_s17 Bs17 K_w2_s17 K_w21_s17 K_w22_s17 hbs25
  refine hK.out _ _ (And.intro x_a_s25 x_z_s25) (fun _ => ?_); clear hK K
  refine takeH 29 146 (v := ?vs29_26) rfl (by rfl) (by kernel_rfl) (by kernel_rfl) (by kernel_rfl) (fun _ _ _ h => h) (Or.inl ⟨by rfl, ?_⟩) ((And.intro x_a_s25 x_z_s25)) ?_
  rotate_left
  · intro wq hSq
    go_simp
    exact rfl
  try simp only [Act.put, List.setIfInBounds_toArray, List.set_cons_zero, List.set_cons_succ]
  refine takeH 30 6 (v := ?vs30_27) rfl (by rfl) (by kernel_rfl) (by kernel_rfl) (by kernel_rfl) (fun _ _ _ h => h) (Or.inl ⟨by rfl, ?_⟩) ((And.intro x_a_s25 x_z_s25)) ?_
  rotate_left
  · intro wq hSq
    go_simp
    exact rfl
  try simp only [Act.put, List.setIfInBounds_toArray, List.set_cons_zero, List.set_cons_succ]
  refine wpAnyH_done (by kernel_rfl) ?_ _
  go_wp2_with fail
  go_returns
  exact ⟨rfl, Bs25⟩

theorem does15_is {v : Value} {O : Od} {n p : Int} (w : World) (h1 : IsO w v O) : Calls Try.prog 3 #[.int .i64 n, v, .int .i64 p] w fun e w' => e = .returned (.bool true) ∧ Below w.heap.size w w' := by
  by_cases hg : GrO O
  · exact does15_a hg w h1
  · exact does15_b hg w h1


end Go.Proofs.Ytjhlpkkefdohjaa
