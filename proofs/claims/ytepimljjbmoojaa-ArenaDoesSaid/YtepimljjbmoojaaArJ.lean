/-
  ArenaDoes, walked.
-/
import Derived.Test.YtepimljjbmoojaaArI
namespace Go.Proofs.Ytepimljjbmoojaa
open Go.RowKit

set_option maxRecDepth 100000 in
set_option maxHeartbeats 6400000 in
theorem does13_a {v : Value} {A : Ar} {n p : Int} (hg : GrA A) (w : World) (h1 : IsA w v A) : Calls Try.prog 3 #[.int .i64 n, v, .int .i64 p] w fun e w' => e = .returned (.bool true) ∧ Below w.heap.size w w' := by
  have HA := Lib.hid h1
  obtain ⟨v1, v2, rfl, g1, g2⟩ := id h1
  obtain ⟨a1, c1, rfl, hr1⟩ := id g1; obtain ⟨a2, c2, rfl, hr2⟩ := id g2
  have m1 := hr1.most; have r1 := hr1.room; have m2 := hr2.most; have r2 := hr2.room; have H1 := Lib.hid g1; have H2 := Lib.hid g2
  clear hr1 hr2 g1 g2 h1
  have SA := Lib.hid (size_ar (.slice a1 A.nx.length c1) (.slice a2 A.us.length c2) (.int .i64 A.fr))
  have GR := fun (W : World) (u : Value) (h : IsA W u A) => rgreat_is (b := true) W h ⟨fun _ => hg, fun _ => rfl⟩
  clear hg
  go_enter Try.func3, Try.ntmps3
  go_upto_region 1 with fail
  refine F_gen (F := fun W => Code.wp _ _ _ _ W) (J := fun W => Box W (w.heap.size) ([.slice a1 A.nx.length c1, .slice a2 A.us.length c2, .int .i64 A.fr]) ∧ Below w.heap.size w W) (And.intro (Box.newc rfl rfl) (by go_grown)) ?_
  intro w0 ⟨e_a, hB0⟩
  have hs0 := hB0.size
  have x_a0 := e_a; clear e_a
  go_wp2_with (refine wpList_load_box9 rfl _ _ rfl x_a0 rfl Try.underlying25 rfl SA.out ?_)
  refine (GR _ _ (HA.out.below hB0)).mono ?_
  rintro e w1 ⟨rfl, hb⟩
  have hB1 : Below w.heap.size w w1 := below_thru hB0 hb
  have hs1 := hB1.size
  have x_a1 : Box w1 (w.heap.size) ([.slice a1 A.nx.length c1, .slice a2 A.us.length c2, .int .i64 A.fr]) := Box.below x_a0 hb
  clear hB0 hs0 x_a0
  clear hb
  go_wp2_with fail
  go_returns
  exact ⟨rfl, hB1⟩

set_option maxRecDepth 100000 in
set_option maxHeartbeats 6400000 in
theorem does13_b {v : Value} {A : Ar} {n p : Int} (hg : ¬ GrA A) (w : World) (h1 : IsA w v A) : Calls Try.prog 3 #[.int .i64 n, v, .int .i64 p] w fun e w' => e = .returned (.bool true) ∧ Below w.heap.size w w' := by
  have HA := Lib.hid h1
  obtain ⟨v1, v2, rfl, g1, g2⟩ := id h1
  obtain ⟨a1, c1, rfl, hr1⟩ := id g1; obtain ⟨a2, c2, rfl, hr2⟩ := id g2
  have m1 := hr1.most; have r1 := hr1.room; have m2 := hr2.most; have r2 := hr2.room; have H1 := Lib.hid g1; have H2 := Lib.hid g2
  clear hr1 hr2 g1 g2 h1
  have SA := Lib.hid (size_ar (.slice a1 A.nx.length c1) (.slice a2 A.us.length c2) (.int .i64 A.fr))
  have GR := fun (W : World) (u : Value) (h : IsA W u A) => rgreat_is (b := false) W h ⟨fun h => (Bool.false_ne_true h).elim, fun h => absurd h hg⟩
  have hl : A.nx.length ≤ 200 ∧ A.us.length ≤ 200 := by unfold GrA at hg; omega
  obtain ⟨B, q, hB⟩ := NwA.ex n; obtain ⟨C, i, g, hC⟩ := TkA.ex A; obtain ⟨D, k, hD⟩ := GvA.ex A p; obtain ⟨m, s, r, hM⟩ := CtA.ex A; obtain ⟨y, hy⟩ := ChkA.ex A
  have TW := fun (W : World) (u : Value) (h : IsA W u A) => rtwin_res W h hl
  have N1 := fun W => pnew_is hB W; have N2 := fun W => rnew_is hB W
  have T1 := fun (W : World) (u : Value) (h : IsA W u A) => ptake_is hC W h
  have T2 := fun (W : World) (u : Value) (h : IsA W u A) => rtake_is hC W h
  have G1 := fun (W : World) (u : Value) (h : IsA W u A) => pgive_is hD W h
  have G2 := fun (W : World) (u : Value) (h : IsA W u A) => rgive_is hD W h
  have C1 := fun (W : World) (u : Value) (h : IsA W u A) => pcount_is hM W h
  have C2 := fun (W : World) (u : Value) (h : IsA W u A) => rcount_is hM W h
  have K1 := fun (W : World) (u : Value) (h : IsA W u A) => pchk_is W h hy
  have K2 := fun (W : World) (u : Value) (h : IsA W u A) => rchk_is W h hy
  have SM := fun (X : Ar) (W : World) (u v : Value) (h : IsA W u X) (g : IsA W v X) => rsame_is (same_t X) W h g
  clear hg hl hB hC hD hM hy
  go_enter Try.func3, Try.ntmps3
  go_upto_region 1 with fail
  refine F_gen (F := fun W => Code.wp _ _ _ _ W) (J := fun W => Box W (w.heap.size) ([.slice a1 A.nx.length c1, .slice a2 A.us.length c2, .int .i64 A.fr]) ∧ Below w.heap.size w W) (And.intro (Box.newc rfl rfl) (by go_grown)) ?_
  intro w0 ⟨e_a, hB0⟩
  have hs0 := hB0.size
  have x_a0 := e_a; clear e_a
  go_wp2_with (refine wpList_load_box9 rfl _ _ rfl x_a0 rfl Try.underlying25 rfl SA.out ?_)
  refine (GR _ _ (HA.out.below hB0)).mono ?_
  rintro e w1 ⟨rfl, hb⟩
  have hB1 : Below w.heap.size w w1 := below_thru hB0 hb
  have hs1 := hB1.size
  have x_a1 : Box w1 (w.heap.size) ([.slice a1 A.nx.length c1, .slice a2 A.us.length c2, .int .i64 A.fr]) := Box.below x_a0 hb
  clear hB0 hs0 x_a0
  clear hb
  go_wp2_with (refine wpList_load_box9 rfl _ _ rfl x_a1 rfl Try.underlying25 rfl SA.out ?_)
  refine (TW _ _ (HA.out.below hB1)).mono ?_
  rintro e w2 ⟨vz, rfl, hI, hF, hb⟩
  obtain ⟨xz, yz, rfl, rx, ry⟩ := id hI; obtain ⟨pz, cz, rfl, hrx⟩ := id rx; obtain ⟨qz, dz, rfl, hry⟩ := id ry; clear hrx hry rx ry hF
  have hB2 : Below w.heap.size w w2 := below_thru hB1 hb
  have hs2 := hB2.size
  have x_a2 : Box w2 (w.heap.size) ([.slice a1 A.nx.length c1, .slice a2 A.us.length c2, .int .i64 A.fr]) := Box.below x_a1 hb
  clear hB1 hs1 x_a1
  clear hb
  have K_w2_2 : Below w2.heap.size w2 w2 := Below.refl _ _
  have Iz : Hid (IsA w2 (.agg [.slice pz A.nx.length cz, .slice qz A.us.length dz, .int .i64 A.fr].toArray) A) := Lib.hid hI; clear hI
  have d_z_a := (x_a2).lt
  have d_z_0 := hs2
  go_upto_region 4 with (refine wpList_store_box (cs := [.slice pz A.nx.length cz, .slice qz A.us.length dz, .int .i64 A.fr]) rfl _ _ _ rfl (Box.newc (l := ar0) rfl rfl) rfl rfl (size_ar _ _ _) rfl (one_ar _ _ _ _ _ _ _) ?_; intro W2_0 hW2_0)
  have hN : Below w2.heap.size w2 W2_0 := (hW2_0.below _ _ (by omega) ((Below.refl _ w2).alloc (Nat.le_refl _) _))
  have x_z3 : Box W2_0 (w2.heap.size) ([.slice pz A.nx.length cz, .slice qz A.us.length dz, .int .i64 A.fr]) := hW2_0.box
  have K_w2_3 : Below w2.heap.size w2 W2_0 := below_thru K_w2_2 hN
  clear K_w2_2
  have hB3 : Below w.heap.size w W2_0 := below_thru hB2 hN
  have hs3 := hB3.size
  have x_a3 : Box W2_0 (w.heap.size) ([.slice a1 A.nx.length c1, .slice a2 A.us.length c2, .int .i64 A.fr]) := Box.below x_a2 hN
  clear hB2 hs2 x_a2
  clear hN hW2_0
  go_wp2_with fail
  refine (N1 _).mono ?_
  rintro e w4 ⟨vx, rfl, hI, hF, hb⟩
  obtain ⟨xx, yx, rfl, rx, ry⟩ := id hI; obtain ⟨px, cx, rfl, hrx⟩ := id rx; obtain ⟨qx, dx, rfl, hry⟩ := id ry; clear hrx hry rx ry hF
  have K_w2_4 : Below w2.heap.size w2 w4 := below_thru K_w2_3 hb
  clear K_w2_3
  have hB4 : Below w.heap.size w w4 := below_thru hB3 hb
  have hs4 := hB4.size
  have x_a4 : Box w4 (w.heap.size) ([.slice a1 A.nx.length c1, .slice a2 A.us.length c2, .int .i64 A.fr]) := Box.below x_a3 hb
  have x_z4 : Box w4 (w2.heap.size) ([.slice pz A.nx.length cz, .slice qz A.us.length dz, .int .i64 A.fr]) := Box.below x_z3 hb
  clear hB3 hs3 x_a3 x_z3
  clear hb
  have K_w4_4 : Below w4.heap.size w4 w4 := Below.refl _ _
  have Ix : Hid (IsA w4 (.agg [.slice px B.nx.length cx, .slice qx B.us.length dx, .int .i64 B.fr].toArray) B) := Lib.hid hI; clear hI
  have d_x_a := (x_a4).lt
  have d_x_z := (x_z4).lt
  have d_x_0 := hs4
  go_upto_region 5 with (refine wpList_store_box (cs := [.slice px B.nx.length cx, .slice qx B.us.length dx, .int .i64 B.fr]) rfl _ _ _ rfl (Box.newc (l := ar0) rfl rfl) rfl rfl (size_ar _ _ _) rfl (one_ar _ _ _ _ _ _ _) ?_; intro W4_0 hW4_0)
  have hN : Below w4.heap.size w4 W4_0 := (hW4_0.below _ _ (by omega) ((Below.refl _ w4).alloc (Nat.le_refl _) _))
  have x_x5 : Box W4_0 (w4.heap.size) ([.slice px B.nx.length cx, .slice qx B.us.length dx, .int .i64 B.fr]) := hW4_0.box
  have K_w2_5 : Below w2.heap.size w2 W4_0 := below_thru K_w2_4 hN
  have K_w4_5 : Below w4.heap.size w4 W4_0 := below_thru K_w4_4 hN
  clear K_w2_4 K_w4_4
  have hB5 : Below w.heap.size w W4_0 := below_thru hB4 hN
  have hs5 := hB5.size
  have x_a5 : Box W4_0 (w.heap.size) ([.slice a1 A.nx.length c1, .slice a2 A.us.length c2, .int .i64 A.fr]) := Box.below x_a4 hN
  have x_z5 : Box W4_0 (w2.heap.size) ([.slice pz A.nx.length cz, .slice qz A.us.length dz, .int .i64 A.fr]) := Box.below x_z4 hN
  clear hB4 hs4 x_a4 x_z4
  clear hN hW4_0
  go_wp2_with fail
  refine (N2 _).mono ?_
  rintro e w6 ⟨vy, rfl, hI, hF, hb⟩
  obtain ⟨xy, yy, rfl, rx, ry⟩ := id hI; obtain ⟨py, cy, rfl, hrx⟩ := id rx; obtain ⟨qy, dy, rfl, hry⟩ := id ry; clear hrx hry rx ry hF
  have K_w2_6 : Below w2.heap.size w2 w6 := below_thru K_w2_5 hb
  have K_w4_6 : Below w4.heap.size w4 w6 := below_thru K_w4_5 hb
  clear K_w2_5 K_w4_5
  have hB6 : Below w.heap.size w w6 := below_thru hB5 hb
  have hs6 := hB6.size
  have x_a6 : Box w6 (w.heap.size) ([.slice a1 A.nx.length c1, .slice a2 A.us.length c2, .int .i64 A.fr]) := Box.below x_a5 hb
  have x_z6 : Box w6 (w2.heap.size) ([.slice pz A.nx.length cz, .slice qz A.us.length dz, .int .i64 A.fr]) := Box.below x_z5 hb
  have x_x6 : Box w6 (w4.heap.size) ([.slice px B.nx.length cx, .slice qx B.us.length dx, .int .i64 B.fr]) := Box.below x_x5 hb
  clear hB5 hs5 x_a5 x_z5 x_x5
  clear hb
  have K_w6_6 : Below w6.heap.size w6 w6 := Below.refl _ _
  have Iy : Hid (IsA w6 (.agg [.slice py B.nx.length cy, .slice qy B.us.length dy, .int .i64 B.fr].toArray) B) := Lib.hid hI; clear hI
  have d_y_a := (x_a6).lt
  have d_y_z := (x_z6).lt
  have d_y_x := (x_x6).lt
  have d_y_0 := hs6
  go_upto_region 6 with (refine wpList_store_box (cs := [.slice py B.nx.length cy, .slice qy B.us.length dy, .int .i64 B.fr]) rfl _ _ _ rfl (Box.newc (l := ar0) rfl rfl) rfl rfl (size_ar _ _ _) rfl (one_ar _ _ _ _ _ _ _) ?_; intro W6_0 hW6_0)
  have hN : Below w6.heap.size w6 W6_0 := (hW6_0.below _ _ (by omega) ((Below.refl _ w6).alloc (Nat.le_refl _) _))
  have x_y7 : Box W6_0 (w6.heap.size) ([.slice py B.nx.length cy, .slice qy B.us.length dy, .int .i64 B.fr]) := hW6_0.box
  have K_w2_7 : Below w2.heap.size w2 W6_0 := below_thru K_w2_6 hN
  have K_w4_7 : Below w4.heap.size w4 W6_0 := below_thru K_w4_6 hN
  have K_w6_7 : Below w6.heap.size w6 W6_0 := below_thru K_w6_6 hN
  clear K_w2_6 K_w4_6 K_w6_6
  have hB7 : Below w.heap.size w W6_0 := below_thru hB6 hN
  have hs7 := hB7.size
  have x_a7 : Box W6_0 (w.heap.size) ([.slice a1 A.nx.length c1, .slice a2 A.us.length c2, .int .i64 A.fr]) := Box.below x_a6 hN
  have x_z7 : Box W6_0 (w2.heap.size) ([.slice pz A.nx.length cz, .slice qz A.us.length dz, .int .i64 A.fr]) := Box.below x_z6 hN
  have x_x7 : Box W6_0 (w4.heap.size) ([.slice px B.nx.length cx, .slice qx B.us.length dx, .int .i64 B.fr]) := Box.below x_x6 hN
  clear hB6 hs6 x_a6 x_z6 x_x6
  clear hN hW6_0
  go_wp2_with (refine wpList_load_box9 rfl _ _ rfl x_z7 rfl Try.underlying25 rfl (size_ar _ _ _) ?_)
  refine (T1 _ _ (Iz.out.below K_w2_7)).mono ?_
  rintro e w8 ⟨vp, rfl, hI, hF, hb⟩
  obtain ⟨xp, yp, rfl, rx, ry⟩ := id hI; obtain ⟨pp, cp, rfl, hrx⟩ := id rx; obtain ⟨qp, dp, rfl, hry⟩ := id ry; clear hrx hry rx ry hF
  have K_w2_8 : Below w2.heap.size w2 w8 := below_thru K_w2_7 hb
  have K_w4_8 : Below w4.heap.size w4 w8 := below_thru K_w4_7 hb
  have K_w6_8 : Below w6.heap.size w6 w8 := below_thru K_w6_7 hb
  clear K_w2_7 K_w4_7 K_w6_7
  have hB8 : Below w.heap.size w w8 := below_thru hB7 hb
  have hs8 := hB8.size
  have x_a8 : Box w8 (w.heap.size) ([.slice a1 A.nx.length c1, .slice a2 A.us.length c2, .int .i64 A.fr]) := Box.below x_a7 hb
  have x_z8 : Box w8 (w2.heap.size) ([.slice pz A.nx.length cz, .slice qz A.us.length dz, .int .i64 A.fr]) := Box.below x_z7 hb
  have x_x8 : Box w8 (w4.heap.size) ([.slice px B.nx.length cx, .slice qx B.us.length dx, .int .i64 B.fr]) := Box.below x_x7 hb
  have x_y8 : Box w8 (w6.heap.size) ([.slice py B.nx.length cy, .slice qy B.us.length dy, .int .i64 B.fr]) := Box.below x_y7 hb
  clear hB7 hs7 x_a7 x_z7 x_x7 x_y7
  clear hb
  have K_w8_8 : Below w8.heap.size w8 w8 := Below.refl _ _
  have Ip : Hid (IsA w8 (.agg [.slice pp C.nx.length cp, .slice qp C.us.length dp, .int .i64 C.fr].toArray) C) := Lib.hid hI; clear hI
  have d_p_a := (x_a8).lt
  have d_p_z := (x_z8).lt
  have d_p_x := (x_x8).lt
  have d_p_y := (x_y8).lt
  have d_p_0 := hs8
  go_upto_region 7 with (refine wpList_store_box (cs := [.slice pp C.nx.length cp, .slice qp C.us.length dp, .int .i64 C.fr]) rfl _ _ _ rfl (Box.newc (l := ar0) rfl rfl) rfl rfl (size_ar _ _ _) rfl (one_ar _ _ _ _ _ _ _) ?_; intro W8_0 hW8_0)
  have hN : Below w8.heap.size w8 W8_0 := (hW8_0.below _ _ (by omega) ((Below.refl _ w8).alloc (Nat.le_refl _) _))
  have x_p9 : Box W8_0 (w8.heap.size) ([.slice pp C.nx.length cp, .slice qp C.us.length dp, .int .i64 C.fr]) := hW8_0.box
  have K_w2_9 : Below w2.heap.size w2 W8_0 := below_thru K_w2_8 hN
  have K_w4_9 : Below w4.heap.size w4 W8_0 := below_thru K_w4_8 hN
  have K_w6_9 : Below w6.heap.size w6 W8_0 := below_thru K_w6_8 hN
  have K_w8_9 : Below w8.heap.size w8 W8_0 := below_thru K_w8_8 hN
  clear K_w2_8 K_w4_8 K_w6_8 K_w8_8
  have hB9 : Below w.heap.size w W8_0 := below_thru hB8 hN
  have hs9 := hB9.size
  have x_a9 : Box W8_0 (w.heap.size) ([.slice a1 A.nx.length c1, .slice a2 A.us.length c2, .int .i64 A.fr]) := Box.below x_a8 hN
  have x_z9 : Box W8_0 (w2.heap.size) ([.slice pz A.nx.length cz, .slice qz A.us.length dz, .int .i64 A.fr]) := Box.below x_z8 hN
  have x_x9 : Box W8_0 (w4.heap.size) ([.slice px B.nx.length cx, .slice qx B.us.length dx, .int .i64 B.fr]) := Box.below x_x8 hN
  have x_y9 : Box W8_0 (w6.heap.size) ([.slice py B.nx.length cy, .slice qy B.us.length dy, .int .i64 B.fr]) := Box.below x_y8 hN
  clear hB8 hs8 x_a8 x_z8 x_x8 x_y8
  clear hN hW8_0
  go_wp2_with (refine wpList_load_box9 rfl _ _ rfl x_a9 rfl Try.underlying25 rfl SA.out ?_)
  refine (T2 _ _ (HA.out.below hB9)).mono ?_
  rintro e w10 ⟨vq, rfl, hI, hF, hb⟩
  obtain ⟨xq, yq, rfl, rx, ry⟩ := id hI; obtain ⟨pq, cq, rfl, hrx⟩ := id rx; obtain ⟨qq, dq, rfl, hry⟩ := id ry; clear hrx hry rx ry hF
  have K_w2_10 : Below w2.heap.size w2 w10 := below_thru K_w2_9 hb
  have K_w4_10 : Below w4.heap.size w4 w10 := below_thru K_w4_9 hb
  have K_w6_10 : Below w6.heap.size w6 w10 := below_thru K_w6_9 hb
  have K_w8_10 : Below w8.heap.size w8 w10 := below_thru K_w8_9 hb
  clear K_w2_9 K_w4_9 K_w6_9 K_w8_9
  have hB10 : Below w.heap.size w w10 := below_thru hB9 hb
  have hs10 := hB10.size
  have x_a10 : Box w10 (w.heap.size) ([.slice a1 A.nx.length c1, .slice a2 A.us.length c2, .int .i64 A.fr]) := Box.below x_a9 hb
  have x_z10 : Box w10 (w2.heap.size) ([.slice pz A.nx.length cz, .slice qz A.us.length dz, .int .i64 A.fr]) := Box.below x_z9 hb
  have x_x10 : Box w10 (w4.heap.size) ([.slice px B.nx.length cx, .slice qx B.us.length dx, .int .i64 B.fr]) := Box.below x_x9 hb
  have x_y10 : Box w10 (w6.heap.size) ([.slice py B.nx.length cy, .slice qy B.us.length dy, .int .i64 B.fr]) := Box.below x_y9 hb
  have x_p10 : Box w10 (w8.heap.size) ([.slice pp C.nx.length cp, .slice qp C.us.length dp, .int .i64 C.fr]) := Box.below x_p9 hb
  clear hB9 hs9 x_a9 x_z9 x_x9 x_y9 x_p9
  clear hb
  have K_w10_10 : Below w10.heap.size w10 w10 := Below.refl _ _
  have Iq : Hid (IsA w10 (.agg [.slice pq C.nx.length cq, .slice qq C.us.length dq, .int .i64 C.fr].toArray) C) := Lib.hid hI; clear hI
  have d_q_a := (x_a10).lt
  have d_q_z := (x_z10).lt
  have d_q_x := (x_x10).lt
  have d_q_y := (x_y10).lt
  have d_q_p := (x_p10).lt
  have d_q_0 := hs10
  go_upto_region 8 with (refine wpList_store_box (cs := [.slice pq C.nx.length cq, .slice qq C.us.length dq, .int .i64 C.fr]) rfl _ _ _ rfl (Box.newc (l := ar0) rfl rfl) rfl rfl (size_ar _ _ _) rfl (one_ar _ _ _ _ _ _ _) ?_; intro W10_0 hW10_0)
  have hN : Below w10.heap.size w10 W10_0 := (hW10_0.below _ _ (by omega) ((Below.refl _ w10).alloc (Nat.le_refl _) _))
  have x_q11 : Box W10_0 (w10.heap.size) ([.slice pq C.nx.length cq, .slice qq C.us.length dq, .int .i64 C.fr]) := hW10_0.box
  have K_w2_11 : Below w2.heap.size w2 W10_0 := below_thru K_w2_10 hN
  have K_w4_11 : Below w4.heap.size w4 W10_0 := below_thru K_w4_10 hN
  have K_w6_11 : Below w6.heap.size w6 W10_0 := below_thru K_w6_10 hN
  have K_w8_11 : Below w8.heap.size w8 W10_0 := below_thru K_w8_10 hN
  have K_w10_11 : Below w10.heap.size w10 W10_0 := below_thru K_w10_10 hN
  clear K_w2_10 K_w4_10 K_w6_10 K_w8_10 K_w10_10
  have hB11 : Below w.heap.size w W10_0 := below_thru hB10 hN
  have hs11 := hB11.size
  have x_a11 : Box W10_0 (w.heap.size) ([.slice a1 A.nx.length c1, .slice a2 A.us.length c2, .int .i64 A.fr]) := Box.below x_a10 hN
  have x_z11 : Box W10_0 (w2.heap.size) ([.slice pz A.nx.length cz, .slice qz A.us.length dz, .int .i64 A.fr]) := Box.below x_z10 hN
  have x_x11 : Box W10_0 (w4.heap.size) ([.slice px B.nx.length cx, .slice qx B.us.length dx, .int .i64 B.fr]) := Box.below x_x10 hN
  have x_y11 : Box W10_0 (w6.heap.size) ([.slice py B.nx.length cy, .slice qy B.us.length dy, .int .i64 B.fr]) := Box.below x_y10 hN
  have x_p11 : Box W10_0 (w8.heap.size) ([.slice pp C.nx.length cp, .slice qp C.us.length dp, .int .i64 C.fr]) := Box.below x_p10 hN
  clear hB10 hs10 x_a10 x_z10 x_x10 x_y10 x_p10
  clear hN hW10_0
  go_wp2_with (refine wpList_load_box9 rfl _ _ rfl x_z11 rfl Try.underlying25 rfl (size_ar _ _ _) ?_)
  refine (G1 _ _ (Iz.out.below K_w2_11)).mono ?_
  rintro e w12 ⟨vu, rfl, hI, hF, hb⟩
  obtain ⟨xu, yu, rfl, rx, ry⟩ := id hI; obtain ⟨pu, cu, rfl, hrx⟩ := id rx; obtain ⟨qu, du, rfl, hry⟩ := id ry; clear hrx hry rx ry hF
  have K_w2_12 : Below w2.heap.size w2 w12 := below_thru K_w2_11 hb
  have K_w4_12 : Below w4.heap.size w4 w12 := below_thru K_w4_11 hb
  have K_w6_12 : Below w6.heap.size w6 w12 := below_thru K_w6_11 hb
  have K_w8_12 : Below w8.heap.size w8 w12 := below_thru K_w8_11 hb
  have K_w10_12 : Below w10.heap.size w10 w12 := below_thru K_w10_11 hb
  clear K_w2_11 K_w4_11 K_w6_11 K_w8_11 K_w10_11
  have hB12 : Below w.heap.size w w12 := below_thru hB11 hb
  have hs12 := hB12.size
  have x_a12 : Box w12 (w.heap.size) ([.slice a1 A.nx.length c1, .slice a2 A.us.length c2, .int .i64 A.fr]) := Box.below x_a11 hb
  have x_z12 : Box w12 (w2.heap.size) ([.slice pz A.nx.length cz, .slice qz A.us.length dz, .int .i64 A.fr]) := Box.below x_z11 hb
  have x_x12 : Box w12 (w4.heap.size) ([.slice px B.nx.length cx, .slice qx B.us.length dx, .int .i64 B.fr]) := Box.below x_x11 hb
  have x_y12 : Box w12 (w6.heap.size) ([.slice py B.nx.length cy, .slice qy B.us.length dy, .int .i64 B.fr]) := Box.below x_y11 hb
  have x_p12 : Box w12 (w8.heap.size) ([.slice pp C.nx.length cp, .slice qp C.us.length dp, .int .i64 C.fr]) := Box.below x_p11 hb
  have x_q12 : Box w12 (w10.heap.size) ([.slice pq C.nx.length cq, .slice qq C.us.length dq, .int .i64 C.fr]) := Box.below x_q11 hb
  clear hB11 hs11 x_a11 x_z11 x_x11 x_y11 x_p11 x_q11
  clear hb
  have K_w12_12 : Below w12.heap.size w12 w12 := Below.refl _ _
  have Iu : Hid (IsA w12 (.agg [.slice pu D.nx.length cu, .slice qu D.us.length du, .int .i64 D.fr].toArray) D) := Lib.hid hI; clear hI
  have d_u_a := (x_a12).lt
  have d_u_z := (x_z12).lt
  have d_u_x := (x_x12).lt
  have d_u_y := (x_y12).lt
  have d_u_p := (x_p12).lt
  have d_u_q := (x_q12).lt
  have d_u_0 := hs12
  go_upto_region 9 with (refine wpList_store_box (cs := [.slice pu D.nx.length cu, .slice qu D.us.length du, .int .i64 D.fr]) rfl _ _ _ rfl (Box.newc (l := ar0) rfl rfl) rfl rfl (size_ar _ _ _) rfl (one_ar _ _ _ _ _ _ _) ?_; intro W12_0 hW12_0)
  have hN : Below w12.heap.size w12 W12_0 := (hW12_0.below _ _ (by omega) ((Below.refl _ w12).alloc (Nat.le_refl _) _))
  have x_u13 : Box W12_0 (w12.heap.size) ([.slice pu D.nx.length cu, .slice qu D.us.length du, .int .i64 D.fr]) := hW12_0.box
  have K_w2_13 : Below w2.heap.size w2 W12_0 := below_thru K_w2_12 hN
  have K_w4_13 : Below w4.heap.size w4 W12_0 := below_thru K_w4_12 hN
  have K_w6_13 : Below w6.heap.size w6 W12_0 := below_thru K_w6_12 hN
  have K_w8_13 : Below w8.heap.size w8 W12_0 := below_thru K_w8_12 hN
  have K_w10_13 : Below w10.heap.size w10 W12_0 := below_thru K_w10_12 hN
  have K_w12_13 : Below w12.heap.size w12 W12_0 := below_thru K_w12_12 hN
  clear K_w2_12 K_w4_12 K_w6_12 K_w8_12 K_w10_12 K_w12_12
  have hB13 : Below w.heap.size w W12_0 := below_thru hB12 hN
  have hs13 := hB13.size
  have x_a13 : Box W12_0 (w.heap.size) ([.slice a1 A.nx.length c1, .slice a2 A.us.length c2, .int .i64 A.fr]) := Box.below x_a12 hN
  have x_z13 : Box W12_0 (w2.heap.size) ([.slice pz A.nx.length cz, .slice qz A.us.length dz, .int .i64 A.fr]) := Box.below x_z12 hN
  have x_x13 : Box W12_0 (w4.heap.size) ([.slice px B.nx.length cx, .slice qx B.us.length dx, .int .i64 B.fr]) := Box.below x_x12 hN
  have x_y13 : Box W12_0 (w6.heap.size) ([.slice py B.nx.length cy, .slice qy B.us.length dy, .int .i64 B.fr]) := Box.below x_y12 hN
  have x_p13 : Box W12_0 (w8.heap.size) ([.slice pp C.nx.length cp, .slice qp C.us.length dp, .int .i64 C.fr]) := Box.below x_p12 hN
  have x_q13 : Box W12_0 (w10.heap.size) ([.slice pq C.nx.length cq, .slice qq C.us.length dq, .int .i64 C.fr]) := Box.below x_q12 hN
  clear hB12 hs12 x_a12 x_z12 x_x12 x_y12 x_p12 x_q12
  clear hN hW12_0
  go_wp2_with (refine wpList_load_box9 rfl _ _ rfl x_a13 rfl Try.underlying25 rfl SA.out ?_)
  refine (G2 _ _ (HA.out.below hB13)).mono ?_
  rintro e w14 ⟨vv, rfl, hI, hF, hb⟩
  obtain ⟨xv, yv, rfl, rx, ry⟩ := id hI; obtain ⟨pv, cv, rfl, hrx⟩ := id rx; obtain ⟨qv, dv, rfl, hry⟩ := id ry; clear hrx hry rx ry hF
  have K_w2_14 : Below w2.heap.size w2 w14 := below_thru K_w2_13 hb
  have K_w4_14 : Below w4.heap.size w4 w14 := below_thru K_w4_13 hb
  have K_w6_14 : Below w6.heap.size w6 w14 := below_thru K_w6_13 hb
  have K_w8_14 : Below w8.heap.size w8 w14 := below_thru K_w8_13 hb
  have K_w10_14 : Below w10.heap.size w10 w14 := below_thru K_w10_13 hb
  have K_w12_14 : Below w12.heap.size w12 w14 := below_thru K_w12_13 hb
  clear K_w2_13 K_w4_13 K_w6_13 K_w8_13 K_w10_13 K_w12_13
  have hB14 : Below w.heap.size w w14 := below_thru hB13 hb
  have hs14 := hB14.size
  have x_a14 : Box w14 (w.heap.size) ([.slice a1 A.nx.length c1, .slice a2 A.us.length c2, .int .i64 A.fr]) := Box.below x_a13 hb
  have x_z14 : Box w14 (w2.heap.size) ([.slice pz A.nx.length cz, .slice qz A.us.length dz, .int .i64 A.fr]) := Box.below x_z13 hb
  have x_x14 : Box w14 (w4.heap.size) ([.slice px B.nx.length cx, .slice qx B.us.length dx, .int .i64 B.fr]) := Box.below x_x13 hb
  have x_y14 : Box w14 (w6.heap.size) ([.slice py B.nx.length cy, .slice qy B.us.length dy, .int .i64 B.fr]) := Box.below x_y13 hb
  have x_p14 : Box w14 (w8.heap.size) ([.slice pp C.nx.length cp, .slice qp C.us.length dp, .int .i64 C.fr]) := Box.below x_p13 hb
  have x_q14 : Box w14 (w10.heap.size) ([.slice pq C.nx.length cq, .slice qq C.us.length dq, .int .i64 C.fr]) := Box.below x_q13 hb
  have x_u14 : Box w14 (w12.heap.size) ([.slice pu D.nx.length cu, .slice qu D.us.length du, .int .i64 D.fr]) := Box.below x_u13 hb
  clear hB13 hs13 x_a13 x_z13 x_x13 x_y13 x_p13 x_q13 x_u13
  clear hb
  have K_w14_14 : Below w14.heap.size w14 w14 := Below.refl _ _
  have Iv : Hid (IsA w14 (.agg [.slice pv D.nx.length cv, .slice qv D.us.length dv, .int .i64 D.fr].toArray) D) := Lib.hid hI; clear hI
  have d_v_a := (x_a14).lt
  have d_v_z := (x_z14).lt
  have d_v_x := (x_x14).lt
  have d_v_y := (x_y14).lt
  have d_v_p := (x_p14).lt
  have d_v_q := (x_q14).lt
  have d_v_u := (x_u14).lt
  have d_v_0 := hs14
  go_upto_region 10 with (refine wpList_store_box (cs := [.slice pv D.nx.length cv, .slice qv D.us.length dv, .int .i64 D.fr]) rfl _ _ _ rfl (Box.newc (l := ar0) rfl rfl) rfl rfl (size_ar _ _ _) rfl (one_ar _ _ _ _ _ _ _) ?_; intro W14_0 hW14_0)
  have hN : Below w14.heap.size w14 W14_0 := (hW14_0.below _ _ (by omega) ((Below.refl _ w14).alloc (Nat.le_refl _) _))
  have x_v15 : Box W14_0 (w14.heap.size) ([.slice pv D.nx.length cv, .slice qv D.us.length dv, .int .i64 D.fr]) := hW14_0.box
  have K_w2_15 : Below w2.heap.size w2 W14_0 := below_thru K_w2_14 hN
  have K_w4_15 : Below w4.heap.size w4 W14_0 := below_thru K_w4_14 hN
  have K_w6_15 : Below w6.heap.size w6 W14_0 := below_thru K_w6_14 hN
  have K_w8_15 : Below w8.heap.size w8 W14_0 := below_thru K_w8_14 hN
  have K_w10_15 : Below w10.heap.size w10 W14_0 := below_thru K_w10_14 hN
  have K_w12_15 : Below w12.heap.size w12 W14_0 := below_thru K_w12_14 hN
  have K_w14_15 : Below w14.heap.size w14 W14_0 := below_thru K_w14_14 hN
  clear K_w2_14 K_w4_14 K_w6_14 K_w8_14 K_w10_14 K_w12_14 K_w14_14
  have hB15 : Below w.heap.size w W14_0 := below_thru hB14 hN
  have hs15 := hB15.size
  have x_a15 : Box W14_0 (w.heap.size) ([.slice a1 A.nx.length c1, .slice a2 A.us.length c2, .int .i64 A.fr]) := Box.below x_a14 hN
  have x_z15 : Box W14_0 (w2.heap.size) ([.slice pz A.nx.length cz, .slice qz A.us.length dz, .int .i64 A.fr]) := Box.below x_z14 hN
  have x_x15 : Box W14_0 (w4.heap.size) ([.slice px B.nx.length cx, .slice qx B.us.length dx, .int .i64 B.fr]) := Box.below x_x14 hN
  have x_y15 : Box W14_0 (w6.heap.size) ([.slice py B.nx.length cy, .slice qy B.us.length dy, .int .i64 B.fr]) := Box.below x_y14 hN
  have x_p15 : Box W14_0 (w8.heap.size) ([.slice pp C.nx.length cp, .slice qp C.us.length dp, .int .i64 C.fr]) := Box.below x_p14 hN
  have x_q15 : Box W14_0 (w10.heap.size) ([.slice pq C.nx.length cq, .slice qq C.us.length dq, .int .i64 C.fr]) := Box.below x_q14 hN
  have x_u15 : Box W14_0 (w12.heap.size) ([.slice pu D.nx.length cu, .slice qu D.us.length du, .int .i64 D.fr]) := Box.below x_u14 hN
  clear hB14 hs14 x_a14 x_z14 x_x14 x_y14 x_p14 x_q14 x_u14
  clear hN hW14_0
  go_wp2_with (first
    | (refine wpList_load_box9 rfl _ _ rfl x_x15 rfl Try.underlying25 rfl (size_ar _ _ _) ?_)
    | (refine wpList_load_box9 rfl _ _ rfl x_y15 rfl Try.underlying25 rfl (size_ar _ _ _) ?_))
  refine (SM B _ _ _ (Ix.out.below K_w4_15) (Iy.out.below K_w6_15)).mono ?_
  rintro e w16 ⟨rfl, hb⟩
  have K_w2_16 : Below w2.heap.size w2 w16 := below_thru K_w2_15 hb
  have K_w4_16 : Below w4.heap.size w4 w16 := below_thru K_w4_15 hb
  have K_w6_16 : Below w6.heap.size w6 w16 := below_thru K_w6_15 hb
  have K_w8_16 : Below w8.heap.size w8 w16 := below_thru K_w8_15 hb
  have K_w10_16 : Below w10.heap.size w10 w16 := below_thru K_w10_15 hb
  have K_w12_16 : Below w12.heap.size w12 w16 := below_thru K_w12_15 hb
  have K_w14_16 : Below w14.heap.size w14 w16 := below_thru K_w14_15 hb
  clear K_w2_15 K_w4_15 K_w6_15 K_w8_15 K_w10_15 K_w12_15 K_w14_15
  have hB16 : Below w.heap.size w w16 := below_thru hB15 hb
  have hs16 := hB16.size
  have x_a16 : Box w16 (w.heap.size) ([.slice a1 A.nx.length c1, .slice a2 A.us.length c2, .int .i64 A.fr]) := Box.below x_a15 hb
  have x_z16 : Box w16 (w2.heap.size) ([.slice pz A.nx.length cz, .slice qz A.us.length dz, .int .i64 A.fr]) := Box.below x_z15 hb
  have x_x16 : Box w16 (w4.heap.size) ([.slice px B.nx.length cx, .slice qx B.us.length dx, .int .i64 B.fr]) := Box.below x_x15 hb
  have x_y16 : Box w16 (w6.heap.size) ([.slice py B.nx.length cy, .slice qy B.us.length dy, .int .i64 B.fr]) := Box.below x_y15 hb
  have x_p16 : Box w16 (w8.heap.size) ([.slice pp C.nx.length cp, .slice qp C.us.length dp, .int .i64 C.fr]) := Box.below x_p15 hb
  have x_q16 : Box w16 (w10.heap.size) ([.slice pq C.nx.length cq, .slice qq C.us.length dq, .int .i64 C.fr]) := Box.below x_q15 hb
  have x_u16 : Box w16 (w12.heap.size) ([.slice pu D.nx.length cu, .slice qu D.us.length du, .int .i64 D.fr]) := Box.below x_u15 hb
  have x_v16 : Box w16 (w14.heap.size) ([.slice pv D.nx.length cv, .slice qv D.us.length dv, .int .i64 D.fr]) := Box.below x_v15 hb
  clear hB15 hs15 x_a15 x_z15 x_x15 x_y15 x_p15 x_q15 x_u15 x_v15
  clear hb
  clear K_w4_16
  clear K_w6_16
  clear x_x16
  clear x_y16
  go_wp2_with (first
    | (refine wpList_load_box9 rfl _ _ rfl x_p16 rfl Try.underlying25 rfl (size_ar _ _ _) ?_)
    | (refine wpList_load_box9 rfl _ _ rfl x_q16 rfl Try.underlying25 rfl (size_ar _ _ _) ?_))
  refine (SM C _ _ _ (Ip.out.below K_w8_16) (Iq.out.below K_w10_16)).mono ?_
  rintro e w17 ⟨rfl, hb⟩
  have K_w2_17 : Below w2.heap.size w2 w17 := below_thru K_w2_16 hb
  have K_w8_17 : Below w8.heap.size w8 w17 := below_thru K_w8_16 hb
  have K_w10_17 : Below w10.heap.size w10 w17 := below_thru K_w10_16 hb
  have K_w12_17 : Below w12.heap.size w12 w17 := below_thru K_w12_16 hb
  have K_w14_17 : Below w14.heap.size w14 w17 := below_thru K_w14_16 hb
  clear K_w2_16 K_w8_16 K_w10_16 K_w12_16 K_w14_16
  have hB17 : Below w.heap.size w w17 := below_thru hB16 hb
  have hs17 := hB17.size
  have x_a17 : Box w17 (w.heap.size) ([.slice a1 A.nx.length c1, .slice a2 A.us.length c2, .int .i64 A.fr]) := Box.below x_a16 hb
  have x_z17 : Box w17 (w2.heap.size) ([.slice pz A.nx.length cz, .slice qz A.us.length dz, .int .i64 A.fr]) := Box.below x_z16 hb
  have x_p17 : Box w17 (w8.heap.size) ([.slice pp C.nx.length cp, .slice qp C.us.length dp, .int .i64 C.fr]) := Box.below x_p16 hb
  have x_q17 : Box w17 (w10.heap.size) ([.slice pq C.nx.length cq, .slice qq C.us.length dq, .int .i64 C.fr]) := Box.below x_q16 hb
  have x_u17 : Box w17 (w12.heap.size) ([.slice pu D.nx.length cu, .slice qu D.us.length du, .int .i64 D.fr]) := Box.below x_u16 hb
  have x_v17 : Box w17 (w14.heap.size) ([.slice pv D.nx.length cv, .slice qv D.us.length dv, .int .i64 D.fr]) := Box.below x_v16 hb
  clear hB16 hs16 x_a16 x_z16 x_p16 x_q16 x_u16 x_v16
  clear hb
  clear K_w8_17
  clear K_w10_17
  clear x_p17
  clear x_q17
  go_wp2_with (first
    | (refine wpList_load_box9 rfl _ _ rfl x_u17 rfl Try.underlying25 rfl (size_ar _ _ _) ?_)
    | (refine wpList_load_box9 rfl _ _ rfl x_v17 rfl Try.underlying25 rfl (size_ar _ _ _) ?_))
  refine (SM D _ _ _ (Iu.out.below K_w12_17) (Iv.out.below K_w14_17)).mono ?_
  rintro e w18 ⟨rfl, hb⟩
  have K_w2_18 : Below w2.heap.size w2 w18 := below_thru K_w2_17 hb
  have K_w12_18 : Below w12.heap.size w12 w18 := below_thru K_w12_17 hb
  have K_w14_18 : Below w14.heap.size w14 w18 := below_thru K_w14_17 hb
  clear K_w2_17 K_w12_17 K_w14_17
  have hB18 : Below w.heap.size w w18 := below_thru hB17 hb
  have hs18 := hB18.size
  have x_a18 : Box w18 (w.heap.size) ([.slice a1 A.nx.length c1, .slice a2 A.us.length c2, .int .i64 A.fr]) := Box.below x_a17 hb
  have x_z18 : Box w18 (w2.heap.size) ([.slice pz A.nx.length cz, .slice qz A.us.length dz, .int .i64 A.fr]) := Box.below x_z17 hb
  have x_u18 : Box w18 (w12.heap.size) ([.slice pu D.nx.length cu, .slice qu D.us.length du, .int .i64 D.fr]) := Box.below x_u17 hb
  have x_v18 : Box w18 (w14.heap.size) ([.slice pv D.nx.length cv, .slice qv D.us.length dv, .int .i64 D.fr]) := Box.below x_v17 hb
  clear hB17 hs17 x_a17 x_z17 x_u17 x_v17
  clear hb
  clear K_w12_18
  clear K_w14_18
  clear x_u18
  clear x_v18
  go_wp2_with (refine wpList_load_box9 rfl _ _ rfl x_z18 rfl Try.underlying25 rfl (size_ar _ _ _) ?_)
  refine (C1 _ _ (Iz.out.below K_w2_18)).mono ?_
  rintro e w19 ⟨rfl, hb⟩
  have K_w2_19 : Below w2.heap.size w2 w19 := below_thru K_w2_18 hb
  clear K_w2_18
  have hB19 : Below w.heap.size w w19 := below_thru hB18 hb
  have hs19 := hB19.size
  have x_a19 : Box w19 (w.heap.size) ([.slice a1 A.nx.length c1, .slice a2 A.us.length c2, .int .i64 A.fr]) := Box.below x_a18 hb
  have x_z19 : Box w19 (w2.heap.size) ([.slice pz A.nx.length cz, .slice qz A.us.length dz, .int .i64 A.fr]) := Box.below x_z18 hb
  clear hB18 hs18 x_a18 x_z18
  clear hb
  go_wp2_with (refine wpList_load_box9 rfl _ _ rfl x_a19 rfl Try.underlying25 rfl SA.out ?_)
  refine (C2 _ _ (HA.out.below hB19)).mono ?_
  rintro e w20 ⟨rfl, hb⟩
  have K_w2_20 : Below w2.heap.size w2 w20 := below_thru K_w2_19 hb
  clear K_w2_19
  have hB20 : Below w.heap.size w w20 := below_thru hB19 hb
  have hs20 := hB20.size
  have x_a20 : Box w20 (w.heap.size) ([.slice a1 A.nx.length c1, .slice a2 A.us.length c2, .int .i64 A.fr]) := Box.below x_a19 hb
  have x_z20 : Box w20 (w2.heap.size) ([.slice pz A.nx.length cz, .slice qz A.us.length dz, .int .i64 A.fr]) := Box.below x_z19 hb
  clear hB19 hs19 x_a19 x_z19
  clear hb
  go_upto_region 14 with fail
  refine wp_region_held_drew (S := fun W => Box W (w.heap.size) ([.slice a1 A.nx.length c1, .slice a2 A.us.length c2, .int .i64 A.fr]) ∧ Box W (w2.heap.size) ([.slice pz A.nx.length cz, .slice qz A.us.length dz, .int .i64 A.fr])) (by kernel_rfl) (And.intro (x_a20).drew (x_z20).drew) (fun _ => ?_)
  refine F_drew (F := fun W => wpAnyH _ _ _ _ _ _ _ _ W) ?_
  intro Ws0 hbs0
  clear hs20
  have x_a_s0 : Box Ws0 (w.heap.size) ([.slice a1 A.nx.length c1, .slice a2 A.us.length c2, .int .i64 A.fr]) := Box.below x_a20 hbs0
  have x_z_s0 : Box Ws0 (w2.heap.size) ([.slice pz A.nx.length cz, .slice qz A.us.length dz, .int .i64 A.fr]) := Box.below x_z20 hbs0
  have Bs0 := below_thru hB20 hbs0
  have K_w2_s0 := below_thru K_w2_20 hbs0
  clear x_a20 x_z20 hB20 K_w2_20 hbs0
  refine takeH 0 114 (v := .agg ([.slice pz A.nx.length cz, .slice qz A.us.length dz, .int .i64 A.fr]).toArray) rfl (by rfl) (by kernel_rfl) (by kernel_rfl) (by kernel_rfl) (fun _ _ _ h => h) (yieldsIf_load_mid (by rfl) _ _ rfl _ _ rfl ([.slice pz A.nx.length cz, .slice qz A.us.length dz, .int .i64 A.fr]) _ (fun wq hq => Box.range (hq.2)) Try.underlying25 rfl (size_ar _ _ _)) ((And.intro x_a_s0 x_z_s0)) ?_
  try simp only [Act.put, List.setIfInBounds_toArray, List.set_cons_zero, List.set_cons_succ]
  refine takeH 2 116 (v := .agg ([.slice a1 A.nx.length c1, .slice a2 A.us.length c2, .int .i64 A.fr]).toArray) rfl (by rfl) (by kernel_rfl) (by kernel_rfl) (by kernel_rfl) (fun _ _ _ h => h) (yieldsIf_load_mid (by rfl) _ _ rfl _ _ rfl ([.slice a1 A.nx.length c1, .slice a2 A.us.length c2, .int .i64 A.fr]) _ (fun wq hq => Box.range (hq.1)) Try.underlying25 rfl SA.out) ((And.intro x_a_s0 x_z_s0)) ?_
  try simp only [Act.put, List.setIfInBounds_toArray, List.set_cons_zero, List.set_cons_succ]
  refine wpAnyH_ready (rs := [1]) (by kernel_rfl) (by simp) (AllReadyH.cons rfl (fun K hK => ?_) AllReadyH.nil)
  go_simp
  refine (K1 _ _ (Iz.out.below K_w2_s0)).mono ?_
  rintro e Ws1 ⟨rfl, hbs1⟩
  have x_a_s1 : Box Ws1 (w.heap.size) ([.slice a1 A.nx.length c1, .slice a2 A.us.length c2, .int .i64 A.fr]) := Box.below x_a_s0 hbs1
  have x_z_s1 : Box Ws1 (w2.heap.size) ([.slice pz A.nx.length cz, .slice qz A.us.length dz, .int .i64 A.fr]) := Box.below x_z_s0 hbs1
  have Bs1 := below_thru Bs0 hbs1
  have K_w2_s1 := below_thru K_w2_s0 hbs1
  clear x_a_s0 x_z_s0 Bs0 K_w2_s0 hbs1
  refine hK.out _ _ (And.intro x_a_s1 x_z_s1) (fun _ => ?_); clear hK K
  refine wpAnyH_ready (rs := [3]) (by kernel_rfl) (by simp) (AllReadyH.cons rfl (fun K hK => ?_) AllReadyH.nil)
  go_simp
  refine (K2 _ _ (HA.out.below Bs1)).mono ?_
  rintro e Ws2 ⟨rfl, hbs2⟩
  have x_a_s2 : Box Ws2 (w.heap.size) ([.slice a1 A.nx.length c1, .slice a2 A.us.length c2, .int .i64 A.fr]) := Box.below x_a_s1 hbs2
  have x_z_s2 : Box Ws2 (w2.heap.size) ([.slice pz A.nx.length cz, .slice qz A.us.length dz, .int .i64 A.fr]) := Box.below x_z_s1 hbs2
  have Bs2 := below_thru Bs1 hbs2
  have K_w2_s2 := below_thru K_w2_s1 hbs2
  clear x_a_s1 x_z_s1 Bs1 K_w2_s1 hbs2
  refine hK.out _ _ (And.intro x_a_s2 x_z_s2) (fun _ => ?_); clear hK K
  refine takeH 4 118 (v := ?vs4_3) rfl (by rfl) (by kernel_rfl) (by kernel_rfl) (by kernel_rfl) (fun _ _ _ h => h) (Or.inl ⟨by rfl, ?_⟩) ((And.intro x_a_s2 x_z_s2)) ?_
  rotate_left
  · intro wq hSq
    go_simp
    exact rfl
  try simp only [Act.put, List.setIfInBounds_toArray, List.set_cons_zero, List.set_cons_succ]
  refine takeH 5 119 (v := ?vs5_4) rfl (by rfl) (by kernel_rfl) (by kernel_rfl) (by kernel_rfl) (fun _ _ _ h => h) (Or.inl ⟨by rfl, ?_⟩) ((And.intro x_a_s2 x_z_s2)) ?_
  rotate_left
  · intro wq hSq
    go_simp
    exact rfl
  try simp only [Act.put, List.setIfInBounds_toArray, List.set_cons_zero, List.set_cons_succ]
  refine takeH 6 120 (v := ?vs6_5) rfl (by rfl) (by kernel_rfl) (by kernel_rfl) (by kernel_rfl) (fun _ _ _ h => h) (Or.inl ⟨by rfl, ?_⟩) ((And.intro x_a_s2 x_z_s2)) ?_
  rotate_left
  · intro wq hSq
    go_simp
    exact rfl
  try simp only [Act.put, List.setIfInBounds_toArray, List.set_cons_zero, List.set_cons_succ]
  refine takeH 7 121 (v := ?vs7_6) rfl (by rfl) (by kernel_rfl) (by kernel_rfl) (by kernel_rfl) (fun _ _ _ h => h) (Or.inl ⟨by rfl, ?_⟩) ((And.intro x_a_s2 x_z_s2)) ?_
  rotate_left
  · intro wq hSq
    go_simp
    exact rfl
  try simp only [Act.put, List.setIfInBounds_toArray, List.set_cons_zero, List.set_cons_succ]
  refine takeH 8 122 (v := ?vs8_7) rfl (by rfl) (by kernel_rfl) (by kernel_rfl) (by kernel_rfl) (fun _ _ _ h => h) (Or.inl ⟨by rfl, ?_⟩) ((And.intro x_a_s2 x_z_s2)) ?_
  rotate_left
  · intro wq hSq
    go_simp
    exact rfl
  try simp only [Act.put, List.setIfInBounds_toArray, List.set_cons_zero, List.set_cons_succ]
  refine takeH 9 123 (v := ?vs9_8) rfl (by rfl) (by kernel_rfl) (by kernel_rfl) (by kernel_rfl) (fun _ _ _ h => h) (Or.inl ⟨by rfl, ?_⟩) ((And.intro x_a_s2 x_z_s2)) ?_
  rotate_left
  · intro wq hSq
    go_simp
    exact rfl
  try simp only [Act.put, List.setIfInBounds_toArray, List.set_cons_zero, List.set_cons_succ]
  refine takeH 10 124 (v := ?vs10_9) rfl (by rfl) (by kernel_rfl) (by kernel_rfl) (by kernel_rfl) (fun _ _ _ h => h) (Or.inl ⟨by rfl, ?_⟩) ((And.intro x_a_s2 x_z_s2)) ?_
  rotate_left
  · intro wq hSq
    go_simp
    exact rfl
  try simp only [Act.put, List.setIfInBounds_toArray, List.set_cons_zero, List.set_cons_succ]
  refine takeH 11 125 (v := ?vs11_10) rfl (by rfl) (by kernel_rfl) (by kernel_rfl) (by kernel_rfl) (fun _ _ _ h => h) (Or.inl ⟨by rfl, ?_⟩) ((And.intro x_a_s2 x_z_s2)) ?_
  rotate_left
  · intro wq hSq
    go_simp
    exact rfl
  try simp only [Act.put, List.setIfInBounds_toArray, List.set_cons_zero, List.set_cons_succ]
  refine takeH 12 126 (v := ?vs12_11) rfl (by rfl) (by kernel_rfl) (by kernel_rfl) (by kernel_rfl) (fun _ _ _ h => h) (Or.inl ⟨by rfl, ?_⟩) ((And.intro x_a_s2 x_z_s2)) ?_
  rotate_left
  · intro wq hSq
    go_simp
    exact rfl
  try simp only [Act.put, List.setIfInBounds_toArray, List.set_cons_zero, List.set_cons_succ]
  refine takeH 13 127 (v := ?vs13_12) rfl (by rfl) (by kernel_rfl) (by kernel_rfl) (by kernel_rfl) (fun _ _ _ h => h) (Or.inl ⟨by rfl, ?_⟩) ((And.intro x_a_s2 x_z_s2)) ?_
  rotate_left
  · intro wq hSq
    go_simp
    exact rfl
  try simp only [Act.put, List.setIfInBounds_toArray, List.set_cons_zero, List.set_cons_succ]
  refine takeH 14 128 (v := ?vs14_13) rfl (by rfl) (by kernel_rfl) (by kernel_rfl) (by kernel_rfl) (fun _ _ _ h => h) (Or.inl ⟨by rfl, ?_⟩) ((And.intro x_a_s2 x_z_s2)) ?_
  rotate_left
  · intro wq hSq
    go_simp
    exact rfl
  try simp only [Act.put, List.setIfInBounds_toArray, List.set_cons_zero, List.set_cons_succ]
  refine takeH 15 129 (v := ?vs15_14) rfl (by rfl) (by kernel_rfl) (by kernel_rfl) (by kernel_rfl) (fun _ _ _ h => h) (Or.inl ⟨by rfl, ?_⟩) ((And.intro x_a_s2 x_z_s2)) ?_
  rotate_left
  · intro wq hSq
    go_simp
    exact rfl
  try simp only [Act.put, List.setIfInBounds_toArray, List.set_cons_zero, List.set_cons_succ]
  refine takeH 16 130 (v := ?vs16_15) rfl (by rfl) (by kernel_rfl) (by kernel_rfl) (by kernel_rfl) (fun _ _ _ h => h) (Or.inl ⟨by rfl, ?_⟩) ((And.intro x_a_s2 x_z_s2)) ?_
  rotate_left
  · intro wq hSq
    go_simp
    exact rfl
  try simp only [Act.put, List.setIfInBounds_toArray, List.set_cons_zero, List.set_cons_succ]
  refine takeH 17 131 (v := ?vs17_16) rfl (by rfl) (by kernel_rfl) (by kernel_rfl) (by kernel_rfl) (fun _ _ _ h => h) (Or.inl ⟨by rfl, ?_⟩) ((And.intro x_a_s2 x_z_s2)) ?_
  rotate_left
  · intro wq hSq
    go_simp
    exact rfl
  try simp only [Act.put, List.setIfInBounds_toArray, List.set_cons_zero, List.set_cons_succ]
  refine takeH 18 132 (v := ?vs18_17) rfl (by rfl) (by kernel_rfl) (by kernel_rfl) (by kernel_rfl) (fun _ _ _ h => h) (Or.inl ⟨by rfl, ?_⟩) ((And.intro x_a_s2 x_z_s2)) ?_
  rotate_left
  · intro wq hSq
    go_simp
    exact rfl
  try simp only [Act.put, List.setIfInBounds_toArray, List.set_cons_zero, List.set_cons_succ]
  refine takeH 19 133 (v := ?vs19_18) rfl (by rfl) (by kernel_rfl) (by kernel_rfl) (by kernel_rfl) (fun _ _ _ h => h) (Or.inl ⟨by rfl, ?_⟩) ((And.intro x_a_s2 x_z_s2)) ?_
  rotate_left
  · intro wq hSq
    go_simp
    exact rfl
  try simp only [Act.put, List.setIfInBounds_toArray, List.set_cons_zero, List.set_cons_succ]
  refine takeH 20 134 (v := ?vs20_19) rfl (by rfl) (by kernel_rfl) (by kernel_rfl) (by kernel_rfl) (fun _ _ _ h => h) (Or.inl ⟨by rfl, ?_⟩) ((And.intro x_a_s2 x_z_s2)) ?_
  rotate_left
  · intro wq hSq
    go_simp
    exact rfl
  try simp only [Act.put, List.setIfInBounds_toArray, List.set_cons_zero, List.set_cons_succ]
  refine takeH 21 135 (v := .agg ([.slice pz A.nx.length cz, .slice qz A.us.length dz, .int .i64 A.fr]).toArray) rfl (by rfl) (by kernel_rfl) (by kernel_rfl) (by kernel_rfl) (fun _ _ _ h => h) (yieldsIf_load_mid (by rfl) _ _ rfl _ _ rfl ([.slice pz A.nx.length cz, .slice qz A.us.length dz, .int .i64 A.fr]) _ (fun wq hq => Box.range (hq.2)) Try.underlying25 rfl (size_ar _ _ _)) ((And.intro x_a_s2 x_z_s2)) ?_
  try simp only [Act.put, List.setIfInBounds_toArray, List.set_cons_zero, List.set_cons_succ]
  refine takeH 22 136 (v := .agg ([.slice a1 A.nx.length c1, .slice a2 A.us.length c2, .int .i64 A.fr]).toArray) rfl (by rfl) (by kernel_rfl) (by kernel_rfl) (by kernel_rfl) (fun _ _ _ h => h) (yieldsIf_load_mid (by rfl) _ _ rfl _ _ rfl ([.slice a1 A.nx.length c1, .slice a2 A.us.length c2, .int .i64 A.fr]) _ (fun wq hq => Box.range (hq.1)) Try.underlying25 rfl SA.out) ((And.intro x_a_s2 x_z_s2)) ?_
  try simp only [Act.put, List.setIfInBounds_toArray, List.set_cons_zero, List.set_cons_succ]
  refine wpAnyH_ready (rs := [23]) (by kernel_rfl) (by simp) (AllReadyH.cons rfl (fun K hK => ?_) AllReadyH.nil)
  go_simp
  refine (SM A _ _ _ (Iz.out.below K_w2_s2) (HA.out.below Bs2)).mono ?_
  rintro e Ws20 ⟨rfl, hbs20⟩
  have x_a_s20 : Box Ws20 (w.heap.size) ([.slice a1 A.nx.length c1, .slice a2 A.us.length c2, .int .i64 A.fr]) := Box.below x_a_s2 hbs20
  have x_z_s20 : Box Ws20 (w2.heap.size) ([.slice pz A.nx.length cz, .slice qz A.us.length dz, .int .i64 A.fr]) := Box.below x_z_s2 hbs20
  have Bs20 := below_thru Bs2 hbs20
  have K_w2_s20 := below_thru K_w2_s2 hbs20
  clear x_a_s2 x_z_s2 Bs2 K_w2_s2 hbs20
  refine hK.out _ _ (And.intro x_a_s20 x_z_s20) (fun _ => ?_); clear hK K
  refine takeH 24 138 (v := ?vs24_21) rfl (by rfl) (by kernel_rfl) (by kernel_rfl) (by kernel_rfl) (fun _ _ _ h => h) (Or.inl ⟨by rfl, ?_⟩) ((And.intro x_a_s20 x_z_s20)) ?_
  rotate_left
  · intro wq hSq
    go_simp
    exact rfl
  try simp only [Act.put, List.setIfInBounds_toArray, List.set_cons_zero, List.set_cons_succ]
  refine takeH 25 6 (v := ?vs25_22) rfl (by rfl) (by kernel_rfl) (by kernel_rfl) (by kernel_rfl) (fun _ _ _ h => h) (Or.inl ⟨by rfl, ?_⟩) ((And.intro x_a_s20 x_z_s20)) ?_
  rotate_left
  · intro wq hSq
    go_simp
    exact rfl
  try simp only [Act.put, List.setIfInBounds_toArray, List.set_cons_zero, List.set_cons_succ]
  refine wpAnyH_done (by kernel_rfl) ?_ _
  go_wp2_with fail
  go_returns
  exact ⟨rfl, Bs20⟩

theorem does13_is {v : Value} {A : Ar} {n p : Int} (w : World) (h1 : IsA w v A) : Calls Try.prog 3 #[.int .i64 n, v, .int .i64 p] w fun e w' => e = .returned (.bool true) ∧ Below w.heap.size w w' := by
  by_cases hg : GrA A
  · exact does13_a hg w h1
  · exact does13_b hg w h1


end Go.Proofs.Ytepimljjbmoojaa
