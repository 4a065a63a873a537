/-
  ArenaBack, walked.
-/
import Derived.Test.YtepimljjbmoojaaArI
namespace Go.Proofs.Ytepimljjbmoojaa
open Go.RowKit

theorem set_back {α : Type} : ∀ (l : List α) (i : Nat) (x y : α), l[i]? = some x → (l.set i y).set i x = l
  | [], _, _, _, h => by simp at h
  | a :: l, 0, x, y, h => by simp at h; subst h; rfl
  | a :: l, i + 1, x, y, h => by
    have h : l[i]? = some x := by simpa using h
    show a :: (l.set i y).set i x = a :: l
    rw [set_back l i x y h]
theorem took_gave {A : Ar} {i : Nat} {r : List Nat} {x : Int} (h : Valid A (i :: r)) (hx : A.nx[i]? = some x) : (A.took i x).gave i = A :=
  Ar.ext' (set_back _ _ _ _ hx) (set_back _ _ _ _ (h.free List.mem_cons_self)) h.head.1.symm
theorem gave_took {A : Ar} {i : Nat} {l : List Nat} (h : Valid A l) (hi : i < A.nx.length) (hu : A.us[i]? = some true) : (A.gave i).took i A.fr = A :=
  Ar.ext' (set_back _ _ _ _ (h.next i hi (h.gave hi hu).1)) (set_back _ _ _ _ hu) rfl

set_option maxRecDepth 100000 in
set_option maxHeartbeats 6400000 in
theorem back13_a {v : Value} {A : Ar} {p : Int} (hg : GrA A) (w : World) (h1 : IsA w v A) : Calls Try.prog 6 #[v, .int .i64 p] w fun e w' => e = .returned (.bool true) ∧ Below w.heap.size w w' := by
  have HA := Lib.hid h1
  obtain ⟨v1, v2, rfl, g1, g2⟩ := id h1
  obtain ⟨a1, c1, rfl, hr1⟩ := id g1; obtain ⟨a2, c2, rfl, hr2⟩ := id g2
  have m1 := hr1.most; have r1 := hr1.room; have m2 := hr2.most; have r2 := hr2.room; have H1 := Lib.hid g1; have H2 := Lib.hid g2
  clear hr1 hr2 g1 g2 h1
  have SA := Lib.hid (size_ar (.slice a1 A.nx.length c1) (.slice a2 A.us.length c2) (.int .i64 A.fr))
  have GR := fun (W : World) (u : Value) (h : IsA W u A) => rgreat_is (b := true) W h ⟨fun _ => hg, fun _ => rfl⟩
  have AL := fun W => alive13_is W
  clear hg
  go_enter Try.func6, Try.ntmps6
  go_upto_region 1 with fail
  refine F_gen (F := fun W => Code.wp _ _ _ _ W) (J := fun W => Box W (w.heap.size) ([.slice a1 A.nx.length c1, .slice a2 A.us.length c2, .int .i64 A.fr]) ∧ Below w.heap.size w W) (And.intro (Box.newc rfl rfl) (by go_grown)) ?_
  intro w0 ⟨e_a, hB0⟩
  have hs0 := hB0.size
  have x_a0 := e_a; clear e_a
  go_wp2_with fail
  refine (AL _).mono ?_
  rintro e w1 ⟨rfl, hb⟩
  have hB1 : Below w.heap.size w w1 := below_thru hB0 hb
  have hs1 := hB1.size
  have x_a1 : Box w1 (w.heap.size) ([.slice a1 A.nx.length c1, .slice a2 A.us.length c2, .int .i64 A.fr]) := Box.below x_a0 hb
  clear hB0 hs0 x_a0
  clear hb
  go_wp2_with (refine wpList_load_box9 rfl _ _ rfl x_a1 rfl Try.underlying25 rfl SA.out ?_)
  refine (GR _ _ (HA.out.below hB1)).mono ?_
  rintro e w2 ⟨rfl, hb⟩
  have hB2 : Below w.heap.size w w2 := below_thru hB1 hb
  have hs2 := hB2.size
  have x_a2 : Box w2 (w.heap.size) ([.slice a1 A.nx.length c1, .slice a2 A.us.length c2, .int .i64 A.fr]) := Box.below x_a1 hb
  clear hB1 hs1 x_a1
  clear hb
  go_wp2_with fail
  go_returns
  exact ⟨rfl, hB2⟩

set_option maxRecDepth 100000 in
set_option maxHeartbeats 6400000 in
theorem back13_b {v : Value} {A : Ar} {p : Int} (hg : ¬ GrA A) (hc : ∀ l, ¬ Valid A l) (w : World) (h1 : IsA w v A) : Calls Try.prog 6 #[v, .int .i64 p] w fun e w' => e = .returned (.bool true) ∧ Below w.heap.size w w' := by
  have HA := Lib.hid h1
  obtain ⟨v1, v2, rfl, g1, g2⟩ := id h1
  obtain ⟨a1, c1, rfl, hr1⟩ := id g1; obtain ⟨a2, c2, rfl, hr2⟩ := id g2
  have m1 := hr1.most; have r1 := hr1.room; have m2 := hr2.most; have r2 := hr2.room; have H1 := Lib.hid g1; have H2 := Lib.hid g2
  clear hr1 hr2 g1 g2 h1
  have SA := Lib.hid (size_ar (.slice a1 A.nx.length c1) (.slice a2 A.us.length c2) (.int .i64 A.fr))
  have GR := fun (W : World) (u : Value) (h : IsA W u A) => rgreat_is (b := false) W h ⟨fun h => (Bool.false_ne_true h).elim, fun h => absurd h hg⟩
  have AL := fun W => alive13_is W
  have CK := fun (W : World) (u : Value) (h : IsA W u A) => rchk_is W h (ChkA.bad hc)
  clear hg hc
  go_enter Try.func6, Try.ntmps6
  go_upto_region 1 with fail
  refine F_gen (F := fun W => Code.wp _ _ _ _ W) (J := fun W => Box W (w.heap.size) ([.slice a1 A.nx.length c1, .slice a2 A.us.length c2, .int .i64 A.fr]) ∧ Below w.heap.size w W) (And.intro (Box.newc rfl rfl) (by go_grown)) ?_
  intro w0 ⟨e_a, hB0⟩
  have hs0 := hB0.size
  have x_a0 := e_a; clear e_a
  go_wp2_with fail
  refine (AL _).mono ?_
  rintro e w1 ⟨rfl, hb⟩
  have hB1 : Below w.heap.size w w1 := below_thru hB0 hb
  have hs1 := hB1.size
  have x_a1 : Box w1 (w.heap.size) ([.slice a1 A.nx.length c1, .slice a2 A.us.length c2, .int .i64 A.fr]) := Box.below x_a0 hb
  clear hB0 hs0 x_a0
  clear hb
  go_wp2_with (refine wpList_load_box9 rfl _ _ rfl x_a1 rfl Try.underlying25 rfl SA.out ?_)
  refine (GR _ _ (HA.out.below hB1)).mono ?_
  rintro e w2 ⟨rfl, hb⟩
  have hB2 : Below w.heap.size w w2 := below_thru hB1 hb
  have hs2 := hB2.size
  have x_a2 : Box w2 (w.heap.size) ([.slice a1 A.nx.length c1, .slice a2 A.us.length c2, .int .i64 A.fr]) := Box.below x_a1 hb
  clear hB1 hs1 x_a1
  clear hb
  go_wp2_with (refine wpList_load_box9 rfl _ _ rfl x_a2 rfl Try.underlying25 rfl SA.out ?_)
  refine (CK _ _ (HA.out.below hB2)).mono ?_
  rintro e w3 ⟨rfl, hb⟩
  have hB3 : Below w.heap.size w w3 := below_thru hB2 hb
  have hs3 := hB3.size
  have x_a3 : Box w3 (w.heap.size) ([.slice a1 A.nx.length c1, .slice a2 A.us.length c2, .int .i64 A.fr]) := Box.below x_a2 hb
  clear hB2 hs2 x_a2
  clear hb
  go_wp2_with fail
  go_returns
  exact ⟨rfl, hB3⟩

set_option maxRecDepth 100000 in
set_option maxHeartbeats 6400000 in
theorem back13_t2 {v : Value} {A : Ar} {p : Int} {l : List Nat} (hg : ¬ GrA A) (hV : Valid A l) {i : Nat} {r : List Nat} {x : Int} (hl : l = i :: r) (hx : A.nx[i]? = some x) (hp : p < 0 ∨ (A.nx.length : Int) ≤ p) (w : World) (h1 : IsA w v A) : Calls Try.prog 6 #[v, .int .i64 p] w fun e w' => e = .returned (.bool true) ∧ Below w.heap.size w w' := by
  have HA := Lib.hid h1
  obtain ⟨v1, v2, rfl, g1, g2⟩ := id h1
  obtain ⟨a1, c1, rfl, hr1⟩ := id g1; obtain ⟨a2, c2, rfl, hr2⟩ := id g2
  have m1 := hr1.most; have r1 := hr1.room; have m2 := hr2.most; have r2 := hr2.room; have H1 := Lib.hid g1; have H2 := Lib.hid g2
  clear hr1 hr2 g1 g2 h1
  have SA := Lib.hid (size_ar (.slice a1 A.nx.length c1) (.slice a2 A.us.length c2) (.int .i64 A.fr))
  have GR := fun (W : World) (u : Value) (h : IsA W u A) => rgreat_is (b := false) W h ⟨fun h => (Bool.false_ne_true h).elim, fun h => absurd h hg⟩
  have AL := fun W => alive13_is W
  have CK := fun (W : World) (u : Value) (h : IsA W u A) => rchk_is W h (ChkA.good hV)
  have SM := fun (X : Ar) (W : World) (u v : Value) (h : IsA W u X) (g : IsA W v X) => rsame_is (same_t X) W h g
  have GV := fun (W : World) (u : Value) (h : IsA W u A) => pgive_is (p := p) (Or.inr ⟨l, hV, Or.inl ⟨rfl, hp, rfl⟩⟩) W h
  subst hl
  have TK := fun (W : World) (u : Value) (h : IsA W u A) => ptake_is (Or.inr (Or.inr ⟨rfl, i, r, x, hV, hx, rfl, rfl⟩)) W h
  have hvt := hV.took hx; have htg := took_gave hV hx; have hti := hV.head.2
  have GT := fun (W : World) (u : Value) (h : IsA W u (A.took i x)) => pgive_is (p := (i : Int)) (B := A) (q := 0) (Or.inr ⟨r, hvt, Or.inr ⟨i, rfl, by simp [Ar.took]; exact hti.1, Or.inr ⟨rfl, by simp [Ar.took, hti.2], htg.symm⟩⟩⟩) W h
  have CT := fun (W : World) (u : Value) (h : IsA W u (A.took i x)) => rchk_is W h (ChkA.good hvt)
  obtain ⟨Bt, hBt⟩ : ∃ X, A.took i x = X := ⟨_, rfl⟩; rw [hBt] at TK GT CT; clear hBt hvt htg hti hx
  clear hV hg hp
  go_enter Try.func6, Try.ntmps6
  go_upto_region 1 with fail
  refine F_gen (F := fun W => Code.wp _ _ _ _ W) (J := fun W => Box W (w.heap.size) ([.slice a1 A.nx.length c1, .slice a2 A.us.length c2, .int .i64 A.fr]) ∧ Below w.heap.size w W) (And.intro (Box.newc rfl rfl) (by go_grown)) ?_
  intro w0 ⟨e_a, hB0⟩
  have hs0 := hB0.size
  have x_a0 := e_a; clear e_a
  go_wp2_with fail
  refine (AL _).mono ?_
  rintro e w1 ⟨rfl, hb⟩
  have hB1 : Below w.heap.size w w1 := below_thru hB0 hb
  have hs1 := hB1.size
  have x_a1 : Box w1 (w.heap.size) ([.slice a1 A.nx.length c1, .slice a2 A.us.length c2, .int .i64 A.fr]) := Box.below x_a0 hb
  clear hB0 hs0 x_a0
  clear hb
  go_wp2_with (refine wpList_load_box9 rfl _ _ rfl x_a1 rfl Try.underlying25 rfl SA.out ?_)
  refine (GR _ _ (HA.out.below hB1)).mono ?_
  rintro e w2 ⟨rfl, hb⟩
  have hB2 : Below w.heap.size w w2 := below_thru hB1 hb
  have hs2 := hB2.size
  have x_a2 : Box w2 (w.heap.size) ([.slice a1 A.nx.length c1, .slice a2 A.us.length c2, .int .i64 A.fr]) := Box.below x_a1 hb
  clear hB1 hs1 x_a1
  clear hb
  go_wp2_with (refine wpList_load_box9 rfl _ _ rfl x_a2 rfl Try.underlying25 rfl SA.out ?_)
  refine (CK _ _ (HA.out.below hB2)).mono ?_
  rintro e w3 ⟨rfl, hb⟩
  have hB3 : Below w.heap.size w w3 := below_thru hB2 hb
  have hs3 := hB3.size
  have x_a3 : Box w3 (w.heap.size) ([.slice a1 A.nx.length c1, .slice a2 A.us.length c2, .int .i64 A.fr]) := Box.below x_a2 hb
  clear hB2 hs2 x_a2
  clear hb
  go_wp2_with (refine wpList_load_box9 rfl _ _ rfl x_a3 rfl Try.underlying25 rfl SA.out ?_)
  refine (TK _ _ (HA.out.below hB3)).mono ?_
  rintro e w4 ⟨vb, rfl, hI, hF, hb⟩
  obtain ⟨xb, yb, rfl, rx, ry⟩ := id hI; obtain ⟨pb, cb, rfl, hrx⟩ := id rx; obtain ⟨qb, db, rfl, hry⟩ := id ry; clear hrx hry rx ry hF
  have hB4 : Below w.heap.size w w4 := below_thru hB3 hb
  have hs4 := hB4.size
  have x_a4 : Box w4 (w.heap.size) ([.slice a1 A.nx.length c1, .slice a2 A.us.length c2, .int .i64 A.fr]) := Box.below x_a3 hb
  clear hB3 hs3 x_a3
  clear hb
  have K_w4_4 : Below w4.heap.size w4 w4 := Below.refl _ _
  have Ib : Hid (IsA w4 (.agg [.slice pb Bt.nx.length cb, .slice qb Bt.us.length db, .int .i64 Bt.fr].toArray) Bt) := Lib.hid hI; clear hI
  have d_b_a := (x_a4).lt
  have d_b_0 := hs4
  go_upto_region 5 with (refine wpList_store_box (cs := [.slice pb Bt.nx.length cb, .slice qb Bt.us.length db, .int .i64 Bt.fr]) rfl _ _ _ rfl (Box.newc (l := ar0) rfl rfl) rfl rfl (size_ar _ _ _) rfl (one_ar _ _ _ _ _ _ _) ?_; intro W4_0 hW4_0)
  have hN : Below w4.heap.size w4 W4_0 := (hW4_0.below _ _ (by omega) ((Below.refl _ w4).alloc (Nat.le_refl _) _))
  have x_b5 : Box W4_0 (w4.heap.size) ([.slice pb Bt.nx.length cb, .slice qb Bt.us.length db, .int .i64 Bt.fr]) := hW4_0.box
  have K_w4_5 : Below w4.heap.size w4 W4_0 := below_thru K_w4_4 hN
  clear K_w4_4
  have hB5 : Below w.heap.size w W4_0 := below_thru hB4 hN
  have hs5 := hB5.size
  have x_a5 : Box W4_0 (w.heap.size) ([.slice a1 A.nx.length c1, .slice a2 A.us.length c2, .int .i64 A.fr]) := Box.below x_a4 hN
  clear hB4 hs4 x_a4
  clear hN hW4_0
  go_wp2_with (refine wpList_load_box9 rfl _ _ rfl x_b5 rfl Try.underlying25 rfl (size_ar _ _ _) ?_)
  refine (GT _ _ (Ib.out.below K_w4_5)).mono ?_
  rintro e w6 ⟨vc, rfl, hI, hF, hb⟩
  obtain ⟨xc, yc, rfl, rx, ry⟩ := id hI; obtain ⟨pc, cc, rfl, hrx⟩ := id rx; obtain ⟨qc, dc, rfl, hry⟩ := id ry; clear hrx hry rx ry hF
  have K_w4_6 : Below w4.heap.size w4 w6 := below_thru K_w4_5 hb
  clear K_w4_5
  have hB6 : Below w.heap.size w w6 := below_thru hB5 hb
  have hs6 := hB6.size
  have x_a6 : Box w6 (w.heap.size) ([.slice a1 A.nx.length c1, .slice a2 A.us.length c2, .int .i64 A.fr]) := Box.below x_a5 hb
  have x_b6 : Box w6 (w4.heap.size) ([.slice pb Bt.nx.length cb, .slice qb Bt.us.length db, .int .i64 Bt.fr]) := Box.below x_b5 hb
  clear hB5 hs5 x_a5 x_b5
  clear hb
  have K_w6_6 : Below w6.heap.size w6 w6 := Below.refl _ _
  have Ic : Hid (IsA w6 (.agg [.slice pc A.nx.length cc, .slice qc A.us.length dc, .int .i64 A.fr].toArray) A) := Lib.hid hI; clear hI
  have d_c_a := (x_a6).lt
  have d_c_b := (x_b6).lt
  have d_c_0 := hs6
  go_upto_region 7 with (refine wpList_store_box (cs := [.slice pc A.nx.length cc, .slice qc A.us.length dc, .int .i64 A.fr]) rfl _ _ _ rfl (Box.newc (l := ar0) rfl rfl) rfl rfl (size_ar _ _ _) rfl (one_ar _ _ _ _ _ _ _) ?_; intro W6_0 hW6_0)
  have hN : Below w6.heap.size w6 W6_0 := (hW6_0.below _ _ (by omega) ((Below.refl _ w6).alloc (Nat.le_refl _) _))
  have x_c7 : Box W6_0 (w6.heap.size) ([.slice pc A.nx.length cc, .slice qc A.us.length dc, .int .i64 A.fr]) := hW6_0.box
  have K_w4_7 : Below w4.heap.size w4 W6_0 := below_thru K_w4_6 hN
  have K_w6_7 : Below w6.heap.size w6 W6_0 := below_thru K_w6_6 hN
  clear K_w4_6 K_w6_6
  have hB7 : Below w.heap.size w W6_0 := below_thru hB6 hN
  have hs7 := hB7.size
  have x_a7 : Box W6_0 (w.heap.size) ([.slice a1 A.nx.length c1, .slice a2 A.us.length c2, .int .i64 A.fr]) := Box.below x_a6 hN
  have x_b7 : Box W6_0 (w4.heap.size) ([.slice pb Bt.nx.length cb, .slice qb Bt.us.length db, .int .i64 Bt.fr]) := Box.below x_b6 hN
  clear hB6 hs6 x_a6 x_b6
  clear hN hW6_0
  go_wp2_with (first
    | (refine wpList_load_box9 rfl _ _ rfl x_c7 rfl Try.underlying25 rfl (size_ar _ _ _) ?_)
    | (refine wpList_load_box9 rfl _ _ rfl x_a7 rfl Try.underlying25 rfl SA.out ?_))
  refine (SM A _ _ _ (Ic.out.below K_w6_7) (HA.out.below hB7)).mono ?_
  rintro e w8 ⟨rfl, hb⟩
  have K_w4_8 : Below w4.heap.size w4 w8 := below_thru K_w4_7 hb
  have K_w6_8 : Below w6.heap.size w6 w8 := below_thru K_w6_7 hb
  clear K_w4_7 K_w6_7
  have hB8 : Below w.heap.size w w8 := below_thru hB7 hb
  have hs8 := hB8.size
  have x_a8 : Box w8 (w.heap.size) ([.slice a1 A.nx.length c1, .slice a2 A.us.length c2, .int .i64 A.fr]) := Box.below x_a7 hb
  have x_b8 : Box w8 (w4.heap.size) ([.slice pb Bt.nx.length cb, .slice qb Bt.us.length db, .int .i64 Bt.fr]) := Box.below x_b7 hb
  have x_c8 : Box w8 (w6.heap.size) ([.slice pc A.nx.length cc, .slice qc A.us.length dc, .int .i64 A.fr]) := Box.below x_c7 hb
  clear hB7 hs7 x_a7 x_b7 x_c7
  clear hb
  clear K_w6_8
  clear x_c8
  go_wp2_with (refine wpList_load_box9 rfl _ _ rfl x_b8 rfl Try.underlying25 rfl (size_ar _ _ _) ?_)
  refine (CT _ _ (Ib.out.below K_w4_8)).mono ?_
  rintro e w9 ⟨rfl, hb⟩
  have K_w4_9 : Below w4.heap.size w4 w9 := below_thru K_w4_8 hb
  clear K_w4_8
  have hB9 : Below w.heap.size w w9 := below_thru hB8 hb
  have hs9 := hB9.size
  have x_a9 : Box w9 (w.heap.size) ([.slice a1 A.nx.length c1, .slice a2 A.us.length c2, .int .i64 A.fr]) := Box.below x_a8 hb
  have x_b9 : Box w9 (w4.heap.size) ([.slice pb Bt.nx.length cb, .slice qb Bt.us.length db, .int .i64 Bt.fr]) := Box.below x_b8 hb
  clear hB8 hs8 x_a8 x_b8
  clear hb
  clear K_w4_9
  clear x_b9
  go_wp2_with (refine wpList_load_box9 rfl _ _ rfl x_a9 rfl Try.underlying25 rfl SA.out ?_)
  refine (GV _ _ (HA.out.below hB9)).mono ?_
  rintro e w10 ⟨vz, rfl, hI, hF, hb⟩
  obtain ⟨xz, yz, rfl, rx, ry⟩ := id hI; obtain ⟨pz, cz, rfl, hrx⟩ := id rx; obtain ⟨qz, dz, rfl, hry⟩ := id ry; clear hrx hry rx ry hF
  have hB10 : Below w.heap.size w w10 := below_thru hB9 hb
  have hs10 := hB10.size
  have x_a10 : Box w10 (w.heap.size) ([.slice a1 A.nx.length c1, .slice a2 A.us.length c2, .int .i64 A.fr]) := Box.below x_a9 hb
  clear hB9 hs9 x_a9
  clear hb
  have K_w10_10 : Below w10.heap.size w10 w10 := Below.refl _ _
  have Iz : Hid (IsA w10 (.agg [.slice pz Ar.zero.nx.length cz, .slice qz Ar.zero.us.length dz, .int .i64 Ar.zero.fr].toArray) Ar.zero) := Lib.hid hI; clear hI
  have d_z_a := (x_a10).lt
  have d_z_0 := hs10
  go_upto_region 12 with (refine wpList_store_box (cs := [.slice pz Ar.zero.nx.length cz, .slice qz Ar.zero.us.length dz, .int .i64 Ar.zero.fr]) rfl _ _ _ rfl (Box.newc (l := ar0) rfl rfl) rfl rfl (size_ar _ _ _) rfl (one_ar _ _ _ _ _ _ _) ?_; intro W10_0 hW10_0)
  have hN : Below w10.heap.size w10 W10_0 := (hW10_0.below _ _ (by omega) ((Below.refl _ w10).alloc (Nat.le_refl _) _))
  have x_z11 : Box W10_0 (w10.heap.size) ([.slice pz Ar.zero.nx.length cz, .slice qz Ar.zero.us.length dz, .int .i64 Ar.zero.fr]) := hW10_0.box
  have K_w10_11 : Below w10.heap.size w10 W10_0 := below_thru K_w10_10 hN
  clear K_w10_10
  have hB11 : Below w.heap.size w W10_0 := below_thru hB10 hN
  have hs11 := hB11.size
  have x_a11 : Box W10_0 (w.heap.size) ([.slice a1 A.nx.length c1, .slice a2 A.us.length c2, .int .i64 A.fr]) := Box.below x_a10 hN
  clear hB10 hs10 x_a10
  clear hN hW10_0
  clear K_w10_11
  clear x_z11
  go_wp2_with fail
  go_returns
  exact ⟨rfl, hB11⟩

set_option maxRecDepth 100000 in
set_option maxHeartbeats 6400000 in
theorem back13_t36 {v : Value} {A : Ar} {p : Int} {l : List Nat} (hg : ¬ GrA A) (hV : Valid A l) {i : Nat} {r : List Nat} {x : Int} (hl : l = i :: r) (hx : A.nx[i]? = some x) {j : Nat} (hp : p = j) (hj : j < A.nx.length) (hu : A.us[j]? = some false) (w : World) (h1 : IsA w v A) : Calls Try.prog 6 #[v, .int .i64 p] w fun e w' => e = .returned (.bool true) ∧ Below w.heap.size w w' := by
  have HA := Lib.hid h1
  obtain ⟨v1, v2, rfl, g1, g2⟩ := id h1
  obtain ⟨a1, c1, rfl, hr1⟩ := id g1; obtain ⟨a2, c2, rfl, hr2⟩ := id g2
  have m1 := hr1.most; have r1 := hr1.room; have m2 := hr2.most; have r2 := hr2.room; have H1 := Lib.hid g1; have H2 := Lib.hid g2
  clear hr1 hr2 g1 g2 h1
  have SA := Lib.hid (size_ar (.slice a1 A.nx.length c1) (.slice a2 A.us.length c2) (.int .i64 A.fr))
  have GR := fun (W : World) (u : Value) (h : IsA W u A) => rgreat_is (b := false) W h ⟨fun h => (Bool.false_ne_true h).elim, fun h => absurd h hg⟩
  have AL := fun W => alive13_is W
  have CK := fun (W : World) (u : Value) (h : IsA W u A) => rchk_is W h (ChkA.good hV)
  have SM := fun (X : Ar) (W : World) (u v : Value) (h : IsA W u X) (g : IsA W v X) => rsame_is (same_t X) W h g
  have GV := fun (W : World) (u : Value) (h : IsA W u A) => pgive_is (p := p) (Or.inr ⟨l, hV, Or.inr ⟨j, hp, hj, Or.inl ⟨rfl, hu, rfl⟩⟩⟩) W h
  subst hl
  have TK := fun (W : World) (u : Value) (h : IsA W u A) => ptake_is (Or.inr (Or.inr ⟨rfl, i, r, x, hV, hx, rfl, rfl⟩)) W h
  have hvt := hV.took hx; have htg := took_gave hV hx; have hti := hV.head.2
  have GT := fun (W : World) (u : Value) (h : IsA W u (A.took i x)) => pgive_is (p := (i : Int)) (B := A) (q := 0) (Or.inr ⟨r, hvt, Or.inr ⟨i, rfl, by simp [Ar.took]; exact hti.1, Or.inr ⟨rfl, by simp [Ar.took, hti.2], htg.symm⟩⟩⟩) W h
  have CT := fun (W : World) (u : Value) (h : IsA W u (A.took i x)) => rchk_is W h (ChkA.good hvt)
  obtain ⟨Bt, hBt⟩ : ∃ X, A.took i x = X := ⟨_, rfl⟩; rw [hBt] at TK GT CT; clear hBt hvt htg hti hx
  clear hV hg hp hj hu
  go_enter Try.func6, Try.ntmps6
  go_upto_region 1 with fail
  refine F_gen (F := fun W => Code.wp _ _ _ _ W) (J := fun W => Box W (w.heap.size) ([.slice a1 A.nx.length c1, .slice a2 A.us.length c2, .int .i64 A.fr]) ∧ Below w.heap.size w W) (And.intro (Box.newc rfl rfl) (by go_grown)) ?_
  intro w0 ⟨e_a, hB0⟩
  have hs0 := hB0.size
  have x_a0 := e_a; clear e_a
  go_wp2_with fail
  refine (AL _).mono ?_
  rintro e w1 ⟨rfl, hb⟩
  have hB1 : Below w.heap.size w w1 := below_thru hB0 hb
  have hs1 := hB1.size
  have x_a1 : Box w1 (w.heap.size) ([.slice a1 A.nx.length c1, .slice a2 A.us.length c2, .int .i64 A.fr]) := Box.below x_a0 hb
  clear hB0 hs0 x_a0
  clear hb
  go_wp2_with (refine wpList_load_box9 rfl _ _ rfl x_a1 rfl Try.underlying25 rfl SA.out ?_)
  refine (GR _ _ (HA.out.below hB1)).mono ?_
  rintro e w2 ⟨rfl, hb⟩
  have hB2 : Below w.heap.size w w2 := below_thru hB1 hb
  have hs2 := hB2.size
  have x_a2 : Box w2 (w.heap.size) ([.slice a1 A.nx.length c1, .slice a2 A.us.length c2, .int .i64 A.fr]) := Box.below x_a1 hb
  clear hB1 hs1 x_a1
  clear hb
  go_wp2_with (refine wpList_load_box9 rfl _ _ rfl x_a2 rfl Try.underlying25 rfl SA.out ?_)
  refine (CK _ _ (HA.out.below hB2)).mono ?_
  rintro e w3 ⟨rfl, hb⟩
  have hB3 : Below w.heap.size w w3 := below_thru hB2 hb
  have hs3 := hB3.size
  have x_a3 : Box w3 (w.heap.size) ([.slice a1 A.nx.length c1, .slice a2 A.us.length c2, .int .i64 A.fr]) := Box.below x_a2 hb
  clear hB2 hs2 x_a2
  clear hb
  go_wp2_with (refine wpList_load_box9 rfl _ _ rfl x_a3 rfl Try.underlying25 rfl SA.out ?_)
  refine (TK _ _ (HA.out.below hB3)).mono ?_
  rintro e w4 ⟨vb, rfl, hI, hF, hb⟩
  obtain ⟨xb, yb, rfl, rx, ry⟩ := id hI; obtain ⟨pb, cb, rfl, hrx⟩ := id rx; obtain ⟨qb, db, rfl, hry⟩ := id ry; clear hrx hry rx ry hF
  have hB4 : Below w.heap.size w w4 := below_thru hB3 hb
  have hs4 := hB4.size
  have x_a4 : Box w4 (w.heap.size) ([.slice a1 A.nx.length c1, .slice a2 A.us.length c2, .int .i64 A.fr]) := Box.below x_a3 hb
  clear hB3 hs3 x_a3
  clear hb
  have K_w4_4 : Below w4.heap.size w4 w4 := Below.refl _ _
  have Ib : Hid (IsA w4 (.agg [.slice pb Bt.nx.length cb, .slice qb Bt.us.length db, .int .i64 Bt.fr].toArray) Bt) := Lib.hid hI; clear hI
  have d_b_a := (x_a4).lt
  have d_b_0 := hs4
  go_upto_region 5 with (refine wpList_store_box (cs := [.slice pb Bt.nx.length cb, .slice qb Bt.us.length db, .int .i64 Bt.fr]) rfl _ _ _ rfl (Box.newc (l := ar0) rfl rfl) rfl rfl (size_ar _ _ _) rfl (one_ar _ _ _ _ _ _ _) ?_; intro W4_0 hW4_0)
  have hN : Below w4.heap.size w4 W4_0 := (hW4_0.below _ _ (by omega) ((Below.refl _ w4).alloc (Nat.le_refl _) _))
  have x_b5 : Box W4_0 (w4.heap.size) ([.slice pb Bt.nx.length cb, .slice qb Bt.us.length db, .int .i64 Bt.fr]) := hW4_0.box
  have K_w4_5 : Below w4.heap.size w4 W4_0 := below_thru K_w4_4 hN
  clear K_w4_4
  have hB5 : Below w.heap.size w W4_0 := below_thru hB4 hN
  have hs5 := hB5.size
  have x_a5 : Box W4_0 (w.heap.size) ([.slice a1 A.nx.length c1, .slice a2 A.us.length c2, .int .i64 A.fr]) := Box.below x_a4 hN
  clear hB4 hs4 x_a4
  clear hN hW4_0
  go_wp2_with (refine wpList_load_box9 rfl _ _ rfl x_b5 rfl Try.underlying25 rfl (size_ar _ _ _) ?_)
  refine (GT _ _ (Ib.out.below K_w4_5)).mono ?_
  rintro e w6 ⟨vc, rfl, hI, hF, hb⟩
  obtain ⟨xc, yc, rfl, rx, ry⟩ := id hI; obtain ⟨pc, cc, rfl, hrx⟩ := id rx; obtain ⟨qc, dc, rfl, hry⟩ := id ry; clear hrx hry rx ry hF
  have K_w4_6 : Below w4.heap.size w4 w6 := below_thru K_w4_5 hb
  clear K_w4_5
  have hB6 : Below w.heap.size w w6 := below_thru hB5 hb
  have hs6 := hB6.size
  have x_a6 : Box w6 (w.heap.size) ([.slice a1 A.nx.length c1, .slice a2 A.us.length c2, .int .i64 A.fr]) := Box.below x_a5 hb
  have x_b6 : Box w6 (w4.heap.size) ([.slice pb Bt.nx.length cb, .slice qb Bt.us.length db, .int .i64 Bt.fr]) := Box.below x_b5 hb
  clear hB5 hs5 x_a5 x_b5
  clear hb
  have K_w6_6 : Below w6.heap.size w6 w6 := Below.refl _ _
  have Ic : Hid (IsA w6 (.agg [.slice pc A.nx.length cc, .slice qc A.us.length dc, .int .i64 A.fr].toArray) A) := Lib.hid hI; clear hI
  have d_c_a := (x_a6).lt
  have d_c_b := (x_b6).lt
  have d_c_0 := hs6
  go_upto_region 7 with (refine wpList_store_box (cs := [.slice pc A.nx.length cc, .slice qc A.us.length dc, .int .i64 A.fr]) rfl _ _ _ rfl (Box.newc (l := ar0) rfl rfl) rfl rfl (size_ar _ _ _) rfl (one_ar _ _ _ _ _ _ _) ?_; intro W6_0 hW6_0)
  have hN : Below w6.heap.size w6 W6_0 := (hW6_0.below _ _ (by omega) ((Below.refl _ w6).alloc (Nat.le_refl _) _))
  have x_c7 : Box W6_0 (w6.heap.size) ([.slice pc A.nx.length cc, .slice qc A.us.length dc, .int .i64 A.fr]) := hW6_0.box
  have K_w4_7 : Below w4.heap.size w4 W6_0 := below_thru K_w4_6 hN
  have K_w6_7 : Below w6.heap.size w6 W6_0 := below_thru K_w6_6 hN
  clear K_w4_6 K_w6_6
  have hB7 : Below w.heap.size w W6_0 := below_thru hB6 hN
  have hs7 := hB7.size
  have x_a7 : Box W6_0 (w.heap.size) ([.slice a1 A.nx.length c1, .slice a2 A.us.length c2, .int .i64 A.fr]) := Box.below x_a6 hN
  have x_b7 : Box W6_0 (w4.heap.size) ([.slice pb Bt.nx.length cb, .slice qb Bt.us.length db, .int .i64 Bt.fr]) := Box.below x_b6 hN
  clear hB6 hs6 x_a6 x_b6
  clear hN hW6_0
  go_wp2_with (first
    | (refine wpList_load_box9 rfl _ _ rfl x_c7 rfl Try.underlying25 rfl (size_ar _ _ _) ?_)
    | (refine wpList_load_box9 rfl _ _ rfl x_a7 rfl Try.underlying25 rfl SA.out ?_))
  refine (SM A _ _ _ (Ic.out.below K_w6_7) (HA.out.below hB7)).mono ?_
  rintro e w8 ⟨rfl, hb⟩
  have K_w4_8 : Below w4.heap.size w4 w8 := below_thru K_w4_7 hb
  have K_w6_8 : Below w6.heap.size w6 w8 := below_thru K_w6_7 hb
  clear K_w4_7 K_w6_7
  have hB8 : Below w.heap.size w w8 := below_thru hB7 hb
  have hs8 := hB8.size
  have x_a8 : Box w8 (w.heap.size) ([.slice a1 A.nx.length c1, .slice a2 A.us.length c2, .int .i64 A.fr]) := Box.below x_a7 hb
  have x_b8 : Box w8 (w4.heap.size) ([.slice pb Bt.nx.length cb, .slice qb Bt.us.length db, .int .i64 Bt.fr]) := Box.below x_b7 hb
  have x_c8 : Box w8 (w6.heap.size) ([.slice pc A.nx.length cc, .slice qc A.us.length dc, .int .i64 A.fr]) := Box.below x_c7 hb
  clear hB7 hs7 x_a7 x_b7 x_c7
  clear hb
  clear K_w6_8
  clear x_c8
  go_wp2_with (refine wpList_load_box9 rfl _ _ rfl x_b8 rfl Try.underlying25 rfl (size_ar _ _ _) ?_)
  refine (CT _ _ (Ib.out.below K_w4_8)).mono ?_
  rintro e w9 ⟨rfl, hb⟩
  have K_w4_9 : Below w4.heap.size w4 w9 := below_thru K_w4_8 hb
  clear K_w4_8
  have hB9 : Below w.heap.size w w9 := below_thru hB8 hb
  have hs9 := hB9.size
  have x_a9 : Box w9 (w.heap.size) ([.slice a1 A.nx.length c1, .slice a2 A.us.length c2, .int .i64 A.fr]) := Box.below x_a8 hb
  have x_b9 : Box w9 (w4.heap.size) ([.slice pb Bt.nx.length cb, .slice qb Bt.us.length db, .int .i64 Bt.fr]) := Box.below x_b8 hb
  clear hB8 hs8 x_a8 x_b8
  clear hb
  clear K_w4_9
  clear x_b9
  go_wp2_with (refine wpList_load_box9 rfl _ _ rfl x_a9 rfl Try.underlying25 rfl SA.out ?_)
  refine (GV _ _ (HA.out.below hB9)).mono ?_
  rintro e w10 ⟨vz, rfl, hI, hF, hb⟩
  obtain ⟨xz, yz, rfl, rx, ry⟩ := id hI; obtain ⟨pz, cz, rfl, hrx⟩ := id rx; obtain ⟨qz, dz, rfl, hry⟩ := id ry; clear hrx hry rx ry hF
  have hB10 : Below w.heap.size w w10 := below_thru hB9 hb
  have hs10 := hB10.size
  have x_a10 : Box w10 (w.heap.size) ([.slice a1 A.nx.length c1, .slice a2 A.us.length c2, .int .i64 A.fr]) := Box.below x_a9 hb
  clear hB9 hs9 x_a9
  clear hb
  have K_w10_10 : Below w10.heap.size w10 w10 := Below.refl _ _
  have Iz : Hid (IsA w10 (.agg [.slice pz Ar.zero.nx.length cz, .slice qz Ar.zero.us.length dz, .int .i64 Ar.zero.fr].toArray) Ar.zero) := Lib.hid hI; clear hI
  have d_z_a := (x_a10).lt
  have d_z_0 := hs10
  go_upto_region 12 with (refine wpList_store_box (cs := [.slice pz Ar.zero.nx.length cz, .slice qz Ar.zero.us.length dz, .int .i64 Ar.zero.fr]) rfl _ _ _ rfl (Box.newc (l := ar0) rfl rfl) rfl rfl (size_ar _ _ _) rfl (one_ar _ _ _ _ _ _ _) ?_; intro W10_0 hW10_0)
  have hN : Below w10.heap.size w10 W10_0 := (hW10_0.below _ _ (by omega) ((Below.refl _ w10).alloc (Nat.le_refl _) _))
  have x_z11 : Box W10_0 (w10.heap.size) ([.slice pz Ar.zero.nx.length cz, .slice qz Ar.zero.us.length dz, .int .i64 Ar.zero.fr]) := hW10_0.box
  have K_w10_11 : Below w10.heap.size w10 W10_0 := below_thru K_w10_10 hN
  clear K_w10_10
  have hB11 : Below w.heap.size w W10_0 := below_thru hB10 hN
  have hs11 := hB11.size
  have x_a11 : Box W10_0 (w.heap.size) ([.slice a1 A.nx.length c1, .slice a2 A.us.length c2, .int .i64 A.fr]) := Box.below x_a10 hN
  clear hB10 hs10 x_a10
  clear hN hW10_0
  clear K_w10_11
  clear x_z11
  go_wp2_with fail
  go_returns
  exact ⟨rfl, hB11⟩

set_option maxRecDepth 100000 in
set_option maxHeartbeats 6400000 in
theorem back13_t0 {v : Value} {A : Ar} {p : Int} {l : List Nat} (hg : ¬ GrA A) (hV : Valid A l) {i : Nat} {r : List Nat} {x : Int} (hl : l = i :: r) (hx : A.nx[i]? = some x) {j : Nat} (hp : p = j) (hj : j < A.nx.length) (hu : A.us[j]? = some true) (w : World) (h1 : IsA w v A) : Calls Try.prog 6 #[v, .int .i64 p] w fun e w' => e = .returned (.bool true) ∧ Below w.heap.size w w' := by
  have HA := Lib.hid h1
  obtain ⟨v1, v2, rfl, g1, g2⟩ := id h1
  obtain ⟨a1, c1, rfl, hr1⟩ := id g1; obtain ⟨a2, c2, rfl, hr2⟩ := id g2
  have m1 := hr1.most; have r1 := hr1.room; have m2 := hr2.most; have r2 := hr2.room; have H1 := Lib.hid g1; have H2 := Lib.hid g2
  clear hr1 hr2 g1 g2 h1
  have SA := Lib.hid (size_ar (.slice a1 A.nx.length c1) (.slice a2 A.us.length c2) (.int .i64 A.fr))
  have GR := fun (W : World) (u : Value) (h : IsA W u A) => rgreat_is (b := false) W h ⟨fun h => (Bool.false_ne_true h).elim, fun h => absurd h hg⟩
  have AL := fun W => alive13_is W
  have CK := fun (W : World) (u : Value) (h : IsA W u A) => rchk_is W h (ChkA.good hV)
  have SM := fun (X : Ar) (W : World) (u v : Value) (h : IsA W u X) (g : IsA W v X) => rsame_is (same_t X) W h g
  have GV := fun (W : World) (u : Value) (h : IsA W u A) => pgive_is (p := p) (Or.inr ⟨l, hV, Or.inr ⟨j, hp, hj, Or.inr ⟨rfl, hu, rfl⟩⟩⟩) W h
  have hvg := (hV.gave hj hu).2
  have hgt := gave_took hV hj hu
  have TG := fun (W : World) (u : Value) (h : IsA W u (A.gave j)) => ptake_is (B := A) (p := p) (q := 0) (Or.inr (Or.inr ⟨rfl, j, l, A.fr, hvg, by simp [Ar.gave, hj], hp, hgt.symm⟩)) W h
  subst hl
  have TK := fun (W : World) (u : Value) (h : IsA W u A) => ptake_is (Or.inr (Or.inr ⟨rfl, i, r, x, hV, hx, rfl, rfl⟩)) W h
  have hvt := hV.took hx; have htg := took_gave hV hx; have hti := hV.head.2
  have GT := fun (W : World) (u : Value) (h : IsA W u (A.took i x)) => pgive_is (p := (i : Int)) (B := A) (q := 0) (Or.inr ⟨r, hvt, Or.inr ⟨i, rfl, by simp [Ar.took]; exact hti.1, Or.inr ⟨rfl, by simp [Ar.took, hti.2], htg.symm⟩⟩⟩) W h
  have CT := fun (W : World) (u : Value) (h : IsA W u (A.took i x)) => rchk_is W h (ChkA.good hvt)
  obtain ⟨Bt, hBt⟩ : ∃ X, A.took i x = X := ⟨_, rfl⟩; rw [hBt] at TK GT CT; clear hBt hvt htg hti hx
  obtain ⟨Bg, hBg⟩ : ∃ X, A.gave j = X := ⟨_, rfl⟩; rw [hBg] at GV TG; clear hBg hvg hgt
  clear hV hg hp hj hu
  go_enter Try.func6, Try.ntmps6
  go_upto_region 1 with fail
  refine F_gen (F := fun W => Code.wp _ _ _ _ W) (J := fun W => Box W (w.heap.size) ([.slice a1 A.nx.length c1, .slice a2 A.us.length c2, .int .i64 A.fr]) ∧ Below w.heap.size w W) (And.intro (Box.newc rfl rfl) (by go_grown)) ?_
  intro w0 ⟨e_a, hB0⟩
  have hs0 := hB0.size
  have x_a0 := e_a; clear e_a
  go_wp2_with fail
  refine (AL _).mono ?_
  rintro e w1 ⟨rfl, hb⟩
  have hB1 : Below w.heap.size w w1 := below_thru hB0 hb
  have hs1 := hB1.size
  have x_a1 : Box w1 (w.heap.size) ([.slice a1 A.nx.length c1, .slice a2 A.us.length c2, .int .i64 A.fr]) := Box.below x_a0 hb
  clear hB0 hs0 x_a0
  clear hb
  go_wp2_with (refine wpList_load_box9 rfl _ _ rfl x_a1 rfl Try.underlying25 rfl SA.out ?_)
  refine (GR _ _ (HA.out.below hB1)).mono ?_
  rintro e w2 ⟨rfl, hb⟩
  have hB2 : Below w.heap.size w w2 := below_thru hB1 hb
  have hs2 := hB2.size
  have x_a2 : Box w2 (w.heap.size) ([.slice a1 A.nx.length c1, .slice a2 A.us.length c2, .int .i64 A.fr]) := Box.below x_a1 hb
  clear hB1 hs1 x_a1
  clear hb
  go_wp2_with (refine wpList_load_box9 rfl _ _ rfl x_a2 rfl Try.underlying25 rfl SA.out ?_)
  refine (CK _ _ (HA.out.below hB2)).mono ?_
  rintro e w3 ⟨rfl, hb⟩
  have hB3 : Below w.heap.size w w3 := below_thru hB2 hb
  have hs3 := hB3.size
  have x_a3 : Box w3 (w.heap.size) ([.slice a1 A.nx.length c1, .slice a2 A.us.length c2, .int .i64 A.fr]) := Box.below x_a2 hb
  clear hB2 hs2 x_a2
  clear hb
  go_wp2_with (refine wpList_load_box9 rfl _ _ rfl x_a3 rfl Try.underlying25 rfl SA.out ?_)
  refine (TK _ _ (HA.out.below hB3)).mono ?_
  rintro e w4 ⟨vb, rfl, hI, hF, hb⟩
  obtain ⟨xb, yb, rfl, rx, ry⟩ := id hI; obtain ⟨pb, cb, rfl, hrx⟩ := id rx; obtain ⟨qb, db, rfl, hry⟩ := id ry; clear hrx hry rx ry hF
  have hB4 : Below w.heap.size w w4 := below_thru hB3 hb
  have hs4 := hB4.size
  have x_a4 : Box w4 (w.heap.size) ([.slice a1 A.nx.length c1, .slice a2 A.us.length c2, .int .i64 A.fr]) := Box.below x_a3 hb
  clear hB3 hs3 x_a3
  clear hb
  have K_w4_4 : Below w4.heap.size w4 w4 := Below.refl _ _
  have Ib : Hid (IsA w4 (.agg [.slice pb Bt.nx.length cb, .slice qb Bt.us.length db, .int .i64 Bt.fr].toArray) Bt) := Lib.hid hI; clear hI
  have d_b_a := (x_a4).lt
  have d_b_0 := hs4
  go_upto_region 5 with (refine wpList_store_box (cs := [.slice pb Bt.nx.length cb, .slice qb Bt.us.length db, .int .i64 Bt.fr]) rfl _ _ _ rfl (Box.newc (l := ar0) rfl rfl) rfl rfl (size_ar _ _ _) rfl (one_ar _ _ _ _ _ _ _) ?_; intro W4_0 hW4_0)
  have hN : Below w4.heap.size w4 W4_0 := (hW4_0.below _ _ (by omega) ((Below.refl _ w4).alloc (Nat.le_refl _) _))
  have x_b5 : Box W4_0 (w4.heap.size) ([.slice pb Bt.nx.length cb, .slice qb Bt.us.length db, .int .i64 Bt.fr]) := hW4_0.box
  have K_w4_5 : Below w4.heap.size w4 W4_0 := below_thru K_w4_4 hN
  clear K_w4_4
  have hB5 : Below w.heap.size w W4_0 := below_thru hB4 hN
  have hs5 := hB5.size
  have x_a5 : Box W4_0 (w.heap.size) ([.slice a1 A.nx.length c1, .slice a2 A.us.length c2, .int .i64 A.fr]) := Box.below x_a4 hN
  clear hB4 hs4 x_a4
  clear hN hW4_0
  go_wp2_with (refine wpList_load_box9 rfl _ _ rfl x_b5 rfl Try.underlying25 rfl (size_ar _ _ _) ?_)
  refine (GT _ _ (Ib.out.below K_w4_5)).mono ?_
  rintro e w6 ⟨vc, rfl, hI, hF, hb⟩
  obtain ⟨xc, yc, rfl, rx, ry⟩ := id hI; obtain ⟨pc, cc, rfl, hrx⟩ := id rx; obtain ⟨qc, dc, rfl, hry⟩ := id ry; clear hrx hry rx ry hF
  have K_w4_6 : Below w4.heap.size w4 w6 := below_thru K_w4_5 hb
  clear K_w4_5
  have hB6 : Below w.heap.size w w6 := below_thru hB5 hb
  have hs6 := hB6.size
  have x_a6 : Box w6 (w.heap.size) ([.slice a1 A.nx.length c1, .slice a2 A.us.length c2, .int .i64 A.fr]) := Box.below x_a5 hb
  have x_b6 : Box w6 (w4.heap.size) ([.slice pb Bt.nx.length cb, .slice qb Bt.us.length db, .int .i64 Bt.fr]) := Box.below x_b5 hb
  clear hB5 hs5 x_a5 x_b5
  clear hb
  have K_w6_6 : Below w6.heap.size w6 w6 := Below.refl _ _
  have Ic : Hid (IsA w6 (.agg [.slice pc A.nx.length cc, .slice qc A.us.length dc, .int .i64 A.fr].toArray) A) := Lib.hid hI; clear hI
  have d_c_a := (x_a6).lt
  have d_c_b := (x_b6).lt
  have d_c_0 := hs6
  go_upto_region 7 with (refine wpList_store_box (cs := [.slice pc A.nx.length cc, .slice qc A.us.length dc, .int .i64 A.fr]) rfl _ _ _ rfl (Box.newc (l := ar0) rfl rfl) rfl rfl (size_ar _ _ _) rfl (one_ar _ _ _ _ _ _ _) ?_; intro W6_0 hW6_0)
  have hN : Below w6.heap.size w6 W6_0 := (hW6_0.below _ _ (by omega) ((Below.refl _ w6).alloc (Nat.le_refl _) _))
  have x_c7 : Box W6_0 (w6.heap.size) ([.slice pc A.nx.length cc, .slice qc A.us.length dc, .int .i64 A.fr]) := hW6_0.box
  have K_w4_7 : Below w4.heap.size w4 W6_0 := below_thru K_w4_6 hN
  have K_w6_7 : Below w6.heap.size w6 W6_0 := below_thru K_w6_6 hN
  clear K_w4_6 K_w6_6
  have hB7 : Below w.heap.size w W6_0 := below_thru hB6 hN
  have hs7 := hB7.size
  have x_a7 : Box W6_0 (w.heap.size) ([.slice a1 A.nx.length c1, .slice a2 A.us.length c2, .int .i64 A.fr]) := Box.below x_a6 hN
  have x_b7 : Box W6_0 (w4.heap.size) ([.slice pb Bt.nx.length cb, .slice qb Bt.us.length db, .int .i64 Bt.fr]) := Box.below x_b6 hN
  clear hB6 hs6 x_a6 x_b6
  clear hN hW6_0
  go_wp2_with (first
    | (refine wpList_load_box9 rfl _ _ rfl x_c7 rfl Try.underlying25 rfl (size_ar _ _ _) ?_)
    | (refine wpList_load_box9 rfl _ _ rfl x_a7 rfl Try.underlying25 rfl SA.out ?_))
  refine (SM A _ _ _ (Ic.out.below K_w6_7) (HA.out.below hB7)).mono ?_
  rintro e w8 ⟨rfl, hb⟩
  have K_w4_8 : Below w4.heap.size w4 w8 := below_thru K_w4_7 hb
  have K_w6_8 : Below w6.heap.size w6 w8 := below_thru K_w6_7 hb
  clear K_w4_7 K_w6_7
  have hB8 : Below w.heap.size w w8 := below_thru hB7 hb
  have hs8 := hB8.size
  have x_a8 : Box w8 (w.heap.size) ([.slice a1 A.nx.length c1, .slice a2 A.us.length c2, .int .i64 A.fr]) := Box.below x_a7 hb
  have x_b8 : Box w8 (w4.heap.size) ([.slice pb Bt.nx.length cb, .slice qb Bt.us.length db, .int .i64 Bt.fr]) := Box.below x_b7 hb
  have x_c8 : Box w8 (w6.heap.size) ([.slice pc A.nx.length cc, .slice qc A.us.length dc, .int .i64 A.fr]) := Box.below x_c7 hb
  clear hB7 hs7 x_a7 x_b7 x_c7
  clear hb
  clear K_w6_8
  clear x_c8
  go_wp2_with (refine wpList_load_box9 rfl _ _ rfl x_b8 rfl Try.underlying25 rfl (size_ar _ _ _) ?_)
  refine (CT _ _ (Ib.out.below K_w4_8)).mono ?_
  rintro e w9 ⟨rfl, hb⟩
  have K_w4_9 : Below w4.heap.size w4 w9 := below_thru K_w4_8 hb
  clear K_w4_8
  have hB9 : Below w.heap.size w w9 := below_thru hB8 hb
  have hs9 := hB9.size
  have x_a9 : Box w9 (w.heap.size) ([.slice a1 A.nx.length c1, .slice a2 A.us.length c2, .int .i64 A.fr]) := Box.below x_a8 hb
  have x_b9 : Box w9 (w4.heap.size) ([.slice pb Bt.nx.length cb, .slice qb Bt.us.length db, .int .i64 Bt.fr]) := Box.below x_b8 hb
  clear hB8 hs8 x_a8 x_b8
  clear hb
  clear K_w4_9
  clear x_b9
  go_wp2_with (refine wpList_load_box9 rfl _ _ rfl x_a9 rfl Try.underlying25 rfl SA.out ?_)
  refine (GV _ _ (HA.out.below hB9)).mono ?_
  rintro e w10 ⟨vz, rfl, hI, hF, hb⟩
  obtain ⟨xz, yz, rfl, rx, ry⟩ := id hI; obtain ⟨pz, cz, rfl, hrx⟩ := id rx; obtain ⟨qz, dz, rfl, hry⟩ := id ry; clear hrx hry rx ry hF
  have hB10 : Below w.heap.size w w10 := below_thru hB9 hb
  have hs10 := hB10.size
  have x_a10 : Box w10 (w.heap.size) ([.slice a1 A.nx.length c1, .slice a2 A.us.length c2, .int .i64 A.fr]) := Box.below x_a9 hb
  clear hB9 hs9 x_a9
  clear hb
  have K_w10_10 : Below w10.heap.size w10 w10 := Below.refl _ _
  have Iz : Hid (IsA w10 (.agg [.slice pz Bg.nx.length cz, .slice qz Bg.us.length dz, .int .i64 Bg.fr].toArray) Bg) := Lib.hid hI; clear hI
  have d_z_a := (x_a10).lt
  have d_z_0 := hs10
  go_upto_region 12 with (refine wpList_store_box (cs := [.slice pz Bg.nx.length cz, .slice qz Bg.us.length dz, .int .i64 Bg.fr]) rfl _ _ _ rfl (Box.newc (l := ar0) rfl rfl) rfl rfl (size_ar _ _ _) rfl (one_ar _ _ _ _ _ _ _) ?_; intro W10_0 hW10_0)
  have hN : Below w10.heap.size w10 W10_0 := (hW10_0.below _ _ (by omega) ((Below.refl _ w10).alloc (Nat.le_refl _) _))
  have x_z11 : Box W10_0 (w10.heap.size) ([.slice pz Bg.nx.length cz, .slice qz Bg.us.length dz, .int .i64 Bg.fr]) := hW10_0.box
  have K_w10_11 : Below w10.heap.size w10 W10_0 := below_thru K_w10_10 hN
  clear K_w10_10
  have hB11 : Below w.heap.size w W10_0 := below_thru hB10 hN
  have hs11 := hB11.size
  have x_a11 : Box W10_0 (w.heap.size) ([.slice a1 A.nx.length c1, .slice a2 A.us.length c2, .int .i64 A.fr]) := Box.below x_a10 hN
  clear hB10 hs10 x_a10
  clear hN hW10_0
  go_wp2_with (refine wpList_load_box9 rfl _ _ rfl x_z11 rfl Try.underlying25 rfl (size_ar _ _ _) ?_)
  refine (TG _ _ (Iz.out.below K_w10_11)).mono ?_
  rintro e w12 ⟨vy, rfl, hI, hF, hb⟩
  obtain ⟨xy, yy, rfl, rx, ry⟩ := id hI; obtain ⟨py, cy, rfl, hrx⟩ := id rx; obtain ⟨qy, dy, rfl, hry⟩ := id ry; clear hrx hry rx ry hF
  have K_w10_12 : Below w10.heap.size w10 w12 := below_thru K_w10_11 hb
  clear K_w10_11
  have hB12 : Below w.heap.size w w12 := below_thru hB11 hb
  have hs12 := hB12.size
  have x_a12 : Box w12 (w.heap.size) ([.slice a1 A.nx.length c1, .slice a2 A.us.length c2, .int .i64 A.fr]) := Box.below x_a11 hb
  have x_z12 : Box w12 (w10.heap.size) ([.slice pz Bg.nx.length cz, .slice qz Bg.us.length dz, .int .i64 Bg.fr]) := Box.below x_z11 hb
  clear hB11 hs11 x_a11 x_z11
  clear hb
  have K_w12_12 : Below w12.heap.size w12 w12 := Below.refl _ _
  have Iy : Hid (IsA w12 (.agg [.slice py A.nx.length cy, .slice qy A.us.length dy, .int .i64 A.fr].toArray) A) := Lib.hid hI; clear hI
  have d_y_a := (x_a12).lt
  have d_y_z := (x_z12).lt
  have d_y_0 := hs12
  go_upto_region 15 with (refine wpList_store_box (cs := [.slice py A.nx.length cy, .slice qy A.us.length dy, .int .i64 A.fr]) rfl _ _ _ rfl (Box.newc (l := ar0) rfl rfl) rfl rfl (size_ar _ _ _) rfl (one_ar _ _ _ _ _ _ _) ?_; intro W12_0 hW12_0)
  have hN : Below w12.heap.size w12 W12_0 := (hW12_0.below _ _ (by omega) ((Below.refl _ w12).alloc (Nat.le_refl _) _))
  have x_y13 : Box W12_0 (w12.heap.size) ([.slice py A.nx.length cy, .slice qy A.us.length dy, .int .i64 A.fr]) := hW12_0.box
  have K_w10_13 : Below w10.heap.size w10 W12_0 := below_thru K_w10_12 hN
  have K_w12_13 : Below w12.heap.size w12 W12_0 := below_thru K_w12_12 hN
  clear K_w10_12 K_w12_12
  have hB13 : Below w.heap.size w W12_0 := below_thru hB12 hN
  have hs13 := hB13.size
  have x_a13 : Box W12_0 (w.heap.size) ([.slice a1 A.nx.length c1, .slice a2 A.us.length c2, .int .i64 A.fr]) := Box.below x_a12 hN
  have x_z13 : Box W12_0 (w10.heap.size) ([.slice pz Bg.nx.length cz, .slice qz Bg.us.length dz, .int .i64 Bg.fr]) := Box.below x_z12 hN
  clear hB12 hs12 x_a12 x_z12
  clear hN hW12_0
  clear K_w10_13
  clear x_z13
  go_wp2_with (first
    | (refine wpList_load_box9 rfl _ _ rfl x_y13 rfl Try.underlying25 rfl (size_ar _ _ _) ?_)
    | (refine wpList_load_box9 rfl _ _ rfl x_a13 rfl Try.underlying25 rfl SA.out ?_))
  refine (SM A _ _ _ (Iy.out.below K_w12_13) (HA.out.below hB13)).mono ?_
  rintro e w14 ⟨rfl, hb⟩
  have K_w12_14 : Below w12.heap.size w12 w14 := below_thru K_w12_13 hb
  clear K_w12_13
  have hB14 : Below w.heap.size w w14 := below_thru hB13 hb
  have hs14 := hB14.size
  have x_a14 : Box w14 (w.heap.size) ([.slice a1 A.nx.length c1, .slice a2 A.us.length c2, .int .i64 A.fr]) := Box.below x_a13 hb
  have x_y14 : Box w14 (w12.heap.size) ([.slice py A.nx.length cy, .slice qy A.us.length dy, .int .i64 A.fr]) := Box.below x_y13 hb
  clear hB13 hs13 x_a13 x_y13
  clear hb
  clear K_w12_14
  clear x_y14
  go_wp2_with fail
  go_returns
  exact ⟨rfl, hB14⟩

set_option maxRecDepth 100000 in
set_option maxHeartbeats 6400000 in
theorem back13_f2 {v : Value} {A : Ar} {p : Int} {l : List Nat} (hg : ¬ GrA A) (hV : Valid A l) (hl : l = []) (hp : p < 0 ∨ (A.nx.length : Int) ≤ p) (w : World) (h1 : IsA w v A) : Calls Try.prog 6 #[v, .int .i64 p] w fun e w' => e = .returned (.bool true) ∧ Below w.heap.size w w' := by
  have HA := Lib.hid h1
  obtain ⟨v1, v2, rfl, g1, g2⟩ := id h1
  obtain ⟨a1, c1, rfl, hr1⟩ := id g1; obtain ⟨a2, c2, rfl, hr2⟩ := id g2
  have m1 := hr1.most; have r1 := hr1.room; have m2 := hr2.most; have r2 := hr2.room; have H1 := Lib.hid g1; have H2 := Lib.hid g2
  clear hr1 hr2 g1 g2 h1
  have SA := Lib.hid (size_ar (.slice a1 A.nx.length c1) (.slice a2 A.us.length c2) (.int .i64 A.fr))
  have GR := fun (W : World) (u : Value) (h : IsA W u A) => rgreat_is (b := false) W h ⟨fun h => (Bool.false_ne_true h).elim, fun h => absurd h hg⟩
  have AL := fun W => alive13_is W
  have CK := fun (W : World) (u : Value) (h : IsA W u A) => rchk_is W h (ChkA.good hV)
  have SM := fun (X : Ar) (W : World) (u v : Value) (h : IsA W u X) (g : IsA W v X) => rsame_is (same_t X) W h g
  have GV := fun (W : World) (u : Value) (h : IsA W u A) => pgive_is (p := p) (Or.inr ⟨l, hV, Or.inl ⟨rfl, hp, rfl⟩⟩) W h
  subst hl
  have TK := fun (W : World) (u : Value) (h : IsA W u A) => ptake_is (Or.inr (Or.inl ⟨rfl, hV, rfl, rfl⟩)) W h
  have HF := Lib.hid (show (A.fr != -1) = false by rw [bne_eq_false_iff_eq]; exact hV.path)
  clear hV hg hp
  go_enter Try.func6, Try.ntmps6
  go_upto_region 1 with fail
  refine F_gen (F := fun W => Code.wp _ _ _ _ W) (J := fun W => Box W (w.heap.size) ([.slice a1 A.nx.length c1, .slice a2 A.us.length c2, .int .i64 A.fr]) ∧ Below w.heap.size w W) (And.intro (Box.newc rfl rfl) (by go_grown)) ?_
  intro w0 ⟨e_a, hB0⟩
  have hs0 := hB0.size
  have x_a0 := e_a; clear e_a
  go_wp2_with fail
  refine (AL _).mono ?_
  rintro e w1 ⟨rfl, hb⟩
  have hB1 : Below w.heap.size w w1 := below_thru hB0 hb
  have hs1 := hB1.size
  have x_a1 : Box w1 (w.heap.size) ([.slice a1 A.nx.length c1, .slice a2 A.us.length c2, .int .i64 A.fr]) := Box.below x_a0 hb
  clear hB0 hs0 x_a0
  clear hb
  go_wp2_with (refine wpList_load_box9 rfl _ _ rfl x_a1 rfl Try.underlying25 rfl SA.out ?_)
  refine (GR _ _ (HA.out.below hB1)).mono ?_
  rintro e w2 ⟨rfl, hb⟩
  have hB2 : Below w.heap.size w w2 := below_thru hB1 hb
  have hs2 := hB2.size
  have x_a2 : Box w2 (w.heap.size) ([.slice a1 A.nx.length c1, .slice a2 A.us.length c2, .int .i64 A.fr]) := Box.below x_a1 hb
  clear hB1 hs1 x_a1
  clear hb
  go_wp2_with (refine wpList_load_box9 rfl _ _ rfl x_a2 rfl Try.underlying25 rfl SA.out ?_)
  refine (CK _ _ (HA.out.below hB2)).mono ?_
  rintro e w3 ⟨rfl, hb⟩
  have hB3 : Below w.heap.size w w3 := below_thru hB2 hb
  have hs3 := hB3.size
  have x_a3 : Box w3 (w.heap.size) ([.slice a1 A.nx.length c1, .slice a2 A.us.length c2, .int .i64 A.fr]) := Box.below x_a2 hb
  clear hB2 hs2 x_a2
  clear hb
  go_wp2_with (refine wpList_load_box9 rfl _ _ rfl x_a3 rfl Try.underlying25 rfl SA.out ?_)
  refine (TK _ _ (HA.out.below hB3)).mono ?_
  rintro e w4 ⟨vb, rfl, hI, hF, hb⟩
  obtain ⟨xb, yb, rfl, rx, ry⟩ := id hI; obtain ⟨pb, cb, rfl, hrx⟩ := id rx; obtain ⟨qb, db, rfl, hry⟩ := id ry; clear hrx hry rx ry hF
  have hB4 : Below w.heap.size w w4 := below_thru hB3 hb
  have hs4 := hB4.size
  have x_a4 : Box w4 (w.heap.size) ([.slice a1 A.nx.length c1, .slice a2 A.us.length c2, .int .i64 A.fr]) := Box.below x_a3 hb
  clear hB3 hs3 x_a3
  clear hb
  have K_w4_4 : Below w4.heap.size w4 w4 := Below.refl _ _
  have Ib : Hid (IsA w4 (.agg [.slice pb Ar.zero.nx.length cb, .slice qb Ar.zero.us.length db, .int .i64 Ar.zero.fr].toArray) Ar.zero) := Lib.hid hI; clear hI
  have d_b_a := (x_a4).lt
  have d_b_0 := hs4
  go_upto_region 5 with (refine wpList_store_box (cs := [.slice pb Ar.zero.nx.length cb, .slice qb Ar.zero.us.length db, .int .i64 Ar.zero.fr]) rfl _ _ _ rfl (Box.newc (l := ar0) rfl rfl) rfl rfl (size_ar _ _ _) rfl (one_ar _ _ _ _ _ _ _) ?_; intro W4_0 hW4_0)
  have hN : Below w4.heap.size w4 W4_0 := (hW4_0.below _ _ (by omega) ((Below.refl _ w4).alloc (Nat.le_refl _) _))
  have x_b5 : Box W4_0 (w4.heap.size) ([.slice pb Ar.zero.nx.length cb, .slice qb Ar.zero.us.length db, .int .i64 Ar.zero.fr]) := hW4_0.box
  have K_w4_5 : Below w4.heap.size w4 W4_0 := below_thru K_w4_4 hN
  clear K_w4_4
  have hB5 : Below w.heap.size w W4_0 := below_thru hB4 hN
  have hs5 := hB5.size
  have x_a5 : Box W4_0 (w.heap.size) ([.slice a1 A.nx.length c1, .slice a2 A.us.length c2, .int .i64 A.fr]) := Box.below x_a4 hN
  clear hB4 hs4 x_a4
  clear hN hW4_0
  clear K_w4_5
  clear x_b5
  have e9 := HF.out
  have ca := (x_a5).c 2 _ rfl
  have za := (x_a5).lt
  go_upto_region 11 with fail
  clear e9 ca za
  go_wp2_with (refine wpList_load_box9 rfl _ _ rfl x_a5 rfl Try.underlying25 rfl SA.out ?_)
  refine (GV _ _ (HA.out.below hB5)).mono ?_
  rintro e w6 ⟨vz, rfl, hI, hF, hb⟩
  obtain ⟨xz, yz, rfl, rx, ry⟩ := id hI; obtain ⟨pz, cz, rfl, hrx⟩ := id rx; obtain ⟨qz, dz, rfl, hry⟩ := id ry; clear hrx hry rx ry hF
  have hB6 : Below w.heap.size w w6 := below_thru hB5 hb
  have hs6 := hB6.size
  have x_a6 : Box w6 (w.heap.size) ([.slice a1 A.nx.length c1, .slice a2 A.us.length c2, .int .i64 A.fr]) := Box.below x_a5 hb
  clear hB5 hs5 x_a5
  clear hb
  have K_w6_6 : Below w6.heap.size w6 w6 := Below.refl _ _
  have Iz : Hid (IsA w6 (.agg [.slice pz Ar.zero.nx.length cz, .slice qz Ar.zero.us.length dz, .int .i64 Ar.zero.fr].toArray) Ar.zero) := Lib.hid hI; clear hI
  have d_z_a := (x_a6).lt
  have d_z_0 := hs6
  go_upto_region 12 with (refine wpList_store_box (cs := [.slice pz Ar.zero.nx.length cz, .slice qz Ar.zero.us.length dz, .int .i64 Ar.zero.fr]) rfl _ _ _ rfl (Box.newc (l := ar0) rfl rfl) rfl rfl (size_ar _ _ _) rfl (one_ar _ _ _ _ _ _ _) ?_; intro W6_0 hW6_0)
  have hN : Below w6.heap.size w6 W6_0 := (hW6_0.below _ _ (by omega) ((Below.refl _ w6).alloc (Nat.le_refl _) _))
  have x_z7 : Box W6_0 (w6.heap.size) ([.slice pz Ar.zero.nx.length cz, .slice qz Ar.zero.us.length dz, .int .i64 Ar.zero.fr]) := hW6_0.box
  have K_w6_7 : Below w6.heap.size w6 W6_0 := below_thru K_w6_6 hN
  clear K_w6_6
  have hB7 : Below w.heap.size w W6_0 := below_thru hB6 hN
  have hs7 := hB7.size
  have x_a7 : Box W6_0 (w.heap.size) ([.slice a1 A.nx.length c1, .slice a2 A.us.length c2, .int .i64 A.fr]) := Box.below x_a6 hN
  clear hB6 hs6 x_a6
  clear hN hW6_0
  clear K_w6_7
  clear x_z7
  go_wp2_with fail
  go_returns
  exact ⟨rfl, hB7⟩

set_option maxRecDepth 100000 in
set_option maxHeartbeats 6400000 in
theorem back13_f36 {v : Value} {A : Ar} {p : Int} {l : List Nat} (hg : ¬ GrA A) (hV : Valid A l) (hl : l = []) {j : Nat} (hp : p = j) (hj : j < A.nx.length) (hu : A.us[j]? = some false) (w : World) (h1 : IsA w v A) : Calls Try.prog 6 #[v, .int .i64 p] w fun e w' => e = .returned (.bool true) ∧ Below w.heap.size w w' := by
  have HA := Lib.hid h1
  obtain ⟨v1, v2, rfl, g1, g2⟩ := id h1
  obtain ⟨a1, c1, rfl, hr1⟩ := id g1; obtain ⟨a2, c2, rfl, hr2⟩ := id g2
  have m1 := hr1.most; have r1 := hr1.room; have m2 := hr2.most; have r2 := hr2.room; have H1 := Lib.hid g1; have H2 := Lib.hid g2
  clear hr1 hr2 g1 g2 h1
  have SA := Lib.hid (size_ar (.slice a1 A.nx.length c1) (.slice a2 A.us.length c2) (.int .i64 A.fr))
  have GR := fun (W : World) (u : Value) (h : IsA W u A) => rgreat_is (b := false) W h ⟨fun h => (Bool.false_ne_true h).elim, fun h => absurd h hg⟩
  have AL := fun W => alive13_is W
  have CK := fun (W : World) (u : Value) (h : IsA W u A) => rchk_is W h (ChkA.good hV)
  have SM := fun (X : Ar) (W : World) (u v : Value) (h : IsA W u X) (g : IsA W v X) => rsame_is (same_t X) W h g
  have GV := fun (W : World) (u : Value) (h : IsA W u A) => pgive_is (p := p) (Or.inr ⟨l, hV, Or.inr ⟨j, hp, hj, Or.inl ⟨rfl, hu, rfl⟩⟩⟩) W h
  subst hl
  have TK := fun (W : World) (u : Value) (h : IsA W u A) => ptake_is (Or.inr (Or.inl ⟨rfl, hV, rfl, rfl⟩)) W h
  have HF := Lib.hid (show (A.fr != -1) = false by rw [bne_eq_false_iff_eq]; exact hV.path)
  clear hV hg hp hj hu
  go_enter Try.func6, Try.ntmps6
  go_upto_region 1 with fail
  refine F_gen (F := fun W => Code.wp _ _ _ _ W) (J := fun W => Box W (w.heap.size) ([.slice a1 A.nx.length c1, .slice a2 A.us.length c2, .int .i64 A.fr]) ∧ Below w.heap.size w W) (And.intro (Box.newc rfl rfl) (by go_grown)) ?_
  intro w0 ⟨e_a, hB0⟩
  have hs0 := hB0.size
  have x_a0 := e_a; clear e_a
  go_wp2_with fail
  refine (AL _).mono ?_
  rintro e w1 ⟨rfl, hb⟩
  have hB1 : Below w.heap.size w w1 := below_thru hB0 hb
  have hs1 := hB1.size
  have x_a1 : Box w1 (w.heap.size) ([.slice a1 A.nx.length c1, .slice a2 A.us.length c2, .int .i64 A.fr]) := Box.below x_a0 hb
  clear hB0 hs0 x_a0
  clear hb
  go_wp2_with (refine wpList_load_box9 rfl _ _ rfl x_a1 rfl Try.underlying25 rfl SA.out ?_)
  refine (GR _ _ (HA.out.below hB1)).mono ?_
  rintro e w2 ⟨rfl, hb⟩
  have hB2 : Below w.heap.size w w2 := below_thru hB1 hb
  have hs2 := hB2.size
  have x_a2 : Box w2 (w.heap.size) ([.slice a1 A.nx.length c1, .slice a2 A.us.length c2, .int .i64 A.fr]) := Box.below x_a1 hb
  clear hB1 hs1 x_a1
  clear hb
  go_wp2_with (refine wpList_load_box9 rfl _ _ rfl x_a2 rfl Try.underlying25 rfl SA.out ?_)
  refine (CK _ _ (HA.out.below hB2)).mono ?_
  rintro e w3 ⟨rfl, hb⟩
  have hB3 : Below w.heap.size w w3 := below_thru hB2 hb
  have hs3 := hB3.size
  have x_a3 : Box w3 (w.heap.size) ([.slice a1 A.nx.length c1, .slice a2 A.us.length c2, .int .i64 A.fr]) := Box.below x_a2 hb
  clear hB2 hs2 x_a2
  clear hb
  go_wp2_with (refine wpList_load_box9 rfl _ _ rfl x_a3 rfl Try.underlying25 rfl SA.out ?_)
  refine (TK _ _ (HA.out.below hB3)).mono ?_
  rintro e w4 ⟨vb, rfl, hI, hF, hb⟩
  obtain ⟨xb, yb, rfl, rx, ry⟩ := id hI; obtain ⟨pb, cb, rfl, hrx⟩ := id rx; obtain ⟨qb, db, rfl, hry⟩ := id ry; clear hrx hry rx ry hF
  have hB4 : Below w.heap.size w w4 := below_thru hB3 hb
  have hs4 := hB4.size
  have x_a4 : Box w4 (w.heap.size) ([.slice a1 A.nx.length c1, .slice a2 A.us.length c2, .int .i64 A.fr]) := Box.below x_a3 hb
  clear hB3 hs3 x_a3
  clear hb
  have K_w4_4 : Below w4.heap.size w4 w4 := Below.refl _ _
  have Ib : Hid (IsA w4 (.agg [.slice pb Ar.zero.nx.length cb, .slice qb Ar.zero.us.length db, .int .i64 Ar.zero.fr].toArray) Ar.zero) := Lib.hid hI; clear hI
  have d_b_a := (x_a4).lt
  have d_b_0 := hs4
  go_upto_region 5 with (refine wpList_store_box (cs := [.slice pb Ar.zero.nx.length cb, .slice qb Ar.zero.us.length db, .int .i64 Ar.zero.fr]) rfl _ _ _ rfl (Box.newc (l := ar0) rfl rfl) rfl rfl (size_ar _ _ _) rfl (one_ar _ _ _ _ _ _ _) ?_; intro W4_0 hW4_0)
  have hN : Below w4.heap.size w4 W4_0 := (hW4_0.below _ _ (by omega) ((Below.refl _ w4).alloc (Nat.le_refl _) _))
  have x_b5 : Box W4_0 (w4.heap.size) ([.slice pb Ar.zero.nx.length cb, .slice qb Ar.zero.us.length db, .int .i64 Ar.zero.fr]) := hW4_0.box
  have K_w4_5 : Below w4.heap.size w4 W4_0 := below_thru K_w4_4 hN
  clear K_w4_4
  have hB5 : Below w.heap.size w W4_0 := below_thru hB4 hN
  have hs5 := hB5.size
  have x_a5 : Box W4_0 (w.heap.size) ([.slice a1 A.nx.length c1, .slice a2 A.us.length c2, .int .i64 A.fr]) := Box.below x_a4 hN
  clear hB4 hs4 x_a4
  clear hN hW4_0
  clear K_w4_5
  clear x_b5
  have e9 := HF.out
  have ca := (x_a5).c 2 _ rfl
  have za := (x_a5).lt
  go_upto_region 11 with fail
  clear e9 ca za
  go_wp2_with (refine wpList_load_box9 rfl _ _ rfl x_a5 rfl Try.underlying25 rfl SA.out ?_)
  refine (GV _ _ (HA.out.below hB5)).mono ?_
  rintro e w6 ⟨vz, rfl, hI, hF, hb⟩
  obtain ⟨xz, yz, rfl, rx, ry⟩ := id hI; obtain ⟨pz, cz, rfl, hrx⟩ := id rx; obtain ⟨qz, dz, rfl, hry⟩ := id ry; clear hrx hry rx ry hF
  have hB6 : Below w.heap.size w w6 := below_thru hB5 hb
  have hs6 := hB6.size
  have x_a6 : Box w6 (w.heap.size) ([.slice a1 A.nx.length c1, .slice a2 A.us.length c2, .int .i64 A.fr]) := Box.below x_a5 hb
  clear hB5 hs5 x_a5
  clear hb
  have K_w6_6 : Below w6.heap.size w6 w6 := Below.refl _ _
  have Iz : Hid (IsA w6 (.agg [.slice pz Ar.zero.nx.length cz, .slice qz Ar.zero.us.length dz, .int .i64 Ar.zero.fr].toArray) Ar.zero) := Lib.hid hI; clear hI
  have d_z_a := (x_a6).lt
  have d_z_0 := hs6
  go_upto_region 12 with (refine wpList_store_box (cs := [.slice pz Ar.zero.nx.length cz, .slice qz Ar.zero.us.length dz, .int .i64 Ar.zero.fr]) rfl _ _ _ rfl (Box.newc (l := ar0) rfl rfl) rfl rfl (size_ar _ _ _) rfl (one_ar _ _ _ _ _ _ _) ?_; intro W6_0 hW6_0)
  have hN : Below w6.heap.size w6 W6_0 := (hW6_0.below _ _ (by omega) ((Below.refl _ w6).alloc (Nat.le_refl _) _))
  have x_z7 : Box W6_0 (w6.heap.size) ([.slice pz Ar.zero.nx.length cz, .slice qz Ar.zero.us.length dz, .int .i64 Ar.zero.fr]) := hW6_0.box
  have K_w6_7 : Below w6.heap.size w6 W6_0 := below_thru K_w6_6 hN
  clear K_w6_6
  have hB7 : Below w.heap.size w W6_0 := below_thru hB6 hN
  have hs7 := hB7.size
  have x_a7 : Box W6_0 (w.heap.size) ([.slice a1 A.nx.length c1, .slice a2 A.us.length c2, .int .i64 A.fr]) := Box.below x_a6 hN
  clear hB6 hs6 x_a6
  clear hN hW6_0
  clear K_w6_7
  clear x_z7
  go_wp2_with fail
  go_returns
  exact ⟨rfl, hB7⟩

set_option maxRecDepth 100000 in
set_option maxHeartbeats 6400000 in
theorem back13_f0 {v : Value} {A : Ar} {p : Int} {l : List Nat} (hg : ¬ GrA A) (hV : Valid A l) (hl : l = []) {j : Nat} (hp : p = j) (hj : j < A.nx.length) (hu : A.us[j]? = some true) (w : World) (h1 : IsA w v A) : Calls Try.prog 6 #[v, .int .i64 p] w fun e w' => e = .returned (.bool true) ∧ Below w.heap.size w w' := by
  have HA := Lib.hid h1
  obtain ⟨v1, v2, rfl, g1, g2⟩ := id h1
  obtain ⟨a1, c1, rfl, hr1⟩ := id g1; obtain ⟨a2, c2, rfl, hr2⟩ := id g2
  have m1 := hr1.most; have r1 := hr1.room; have m2 := hr2.most; have r2 := hr2.room; have H1 := Lib.hid g1; have H2 := Lib.hid g2
  clear hr1 hr2 g1 g2 h1
  have SA := Lib.hid (size_ar (.slice a1 A.nx.length c1) (.slice a2 A.us.length c2) (.int .i64 A.fr))
  have GR := fun (W : World) (u : Value) (h : IsA W u A) => rgreat_is (b := false) W h ⟨fun h => (Bool.false_ne_true h).elim, fun h => absurd h hg⟩
  have AL := fun W => alive13_is W
  have CK := fun (W : World) (u : Value) (h : IsA W u A) => rchk_is W h (ChkA.good hV)
  have SM := fun (X : Ar) (W : World) (u v : Value) (h : IsA W u X) (g : IsA W v X) => rsame_is (same_t X) W h g
  have GV := fun (W : World) (u : Value) (h : IsA W u A) => pgive_is (p := p) (Or.inr ⟨l, hV, Or.inr ⟨j, hp, hj, Or.inr ⟨rfl, hu, rfl⟩⟩⟩) W h
  have hvg := (hV.gave hj hu).2
  have hgt := gave_took hV hj hu
  have TG := fun (W : World) (u : Value) (h : IsA W u (A.gave j)) => ptake_is (B := A) (p := p) (q := 0) (Or.inr (Or.inr ⟨rfl, j, l, A.fr, hvg, by simp [Ar.gave, hj], hp, hgt.symm⟩)) W h
  subst hl
  have TK := fun (W : World) (u : Value) (h : IsA W u A) => ptake_is (Or.inr (Or.inl ⟨rfl, hV, rfl, rfl⟩)) W h
  have HF := Lib.hid (show (A.fr != -1) = false by rw [bne_eq_false_iff_eq]; exact hV.path)
  obtain ⟨Bg, hBg⟩ : ∃ X, A.gave j = X := ⟨_, rfl⟩; rw [hBg] at GV TG; clear hBg hvg hgt
  clear hV hg hp hj hu
  go_enter Try.func6, Try.ntmps6
  go_upto_region 1 with fail
  refine F_gen (F := fun W => Code.wp _ _ _ _ W) (J := fun W => Box W (w.heap.size) ([.slice a1 A.nx.length c1, .slice a2 A.us.length c2, .int .i64 A.fr]) ∧ Below w.heap.size w W) (And.intro (Box.newc rfl rfl) (by go_grown)) ?_
  intro w0 ⟨e_a, hB0⟩
  have hs0 := hB0.size
  have x_a0 := e_a; clear e_a
  go_wp2_with fail
  refine (AL _).mono ?_
  rintro e w1 ⟨rfl, hb⟩
  have hB1 : Below w.heap.size w w1 := below_thru hB0 hb
  have hs1 := hB1.size
  have x_a1 : Box w1 (w.heap.size) ([.slice a1 A.nx.length c1, .slice a2 A.us.length c2, .int .i64 A.fr]) := Box.below x_a0 hb
  clear hB0 hs0 x_a0
  clear hb
  go_wp2_with (refine wpList_load_box9 rfl _ _ rfl x_a1 rfl Try.underlying25 rfl SA.out ?_)
  refine (GR _ _ (HA.out.below hB1)).mono ?_
  rintro e w2 ⟨rfl, hb⟩
  have hB2 : Below w.heap.size w w2 := below_thru hB1 hb
  have hs2 := hB2.size
  have x_a2 : Box w2 (w.heap.size) ([.slice a1 A.nx.length c1, .slice a2 A.us.length c2, .int .i64 A.fr]) := Box.below x_a1 hb
  clear hB1 hs1 x_a1
  clear hb
  go_wp2_with (refine wpList_load_box9 rfl _ _ rfl x_a2 rfl Try.underlying25 rfl SA.out ?_)
  refine (CK _ _ (HA.out.below hB2)).mono ?_
  rintro e w3 ⟨rfl, hb⟩
  have hB3 : Below w.heap.size w w3 := below_thru hB2 hb
  have hs3 := hB3.size
  have x_a3 : Box w3 (w.heap.size) ([.slice a1 A.nx.length c1, .slice a2 A.us.length c2, .int .i64 A.fr]) := Box.below x_a2 hb
  clear hB2 hs2 x_a2
  clear hb
  go_wp2_with (refine wpList_load_box9 rfl _ _ rfl x_a3 rfl Try.underlying25 rfl SA.out ?_)
  refine (TK _ _ (HA.out.below hB3)).mono ?_
  rintro e w4 ⟨vb, rfl, hI, hF, hb⟩
  obtain ⟨xb, yb, rfl, rx, ry⟩ := id hI; obtain ⟨pb, cb, rfl, hrx⟩ := id rx; obtain ⟨qb, db, rfl, hry⟩ := id ry; clear hrx hry rx ry hF
  have hB4 : Below w.heap.size w w4 := below_thru hB3 hb
  have hs4 := hB4.size
  have x_a4 : Box w4 (w.heap.size) ([.slice a1 A.nx.length c1, .slice a2 A.us.length c2, .int .i64 A.fr]) := Box.below x_a3 hb
  clear hB3 hs3 x_a3
  clear hb
  have K_w4_4 : Below w4.heap.size w4 w4 := Below.refl _ _
  have Ib : Hid (IsA w4 (.agg [.slice pb Ar.zero.nx.length cb, .slice qb Ar.zero.us.length db, .int .i64 Ar.zero.fr].toArray) Ar.zero) := Lib.hid hI; clear hI
  have d_b_a := (x_a4).lt
  have d_b_0 := hs4
  go_upto_region 5 with (refine wpList_store_box (cs := [.slice pb Ar.zero.nx.length cb, .slice qb Ar.zero.us.length db, .int .i64 Ar.zero.fr]) rfl _ _ _ rfl (Box.newc (l := ar0) rfl rfl) rfl rfl (size_ar _ _ _) rfl (one_ar _ _ _ _ _ _ _) ?_; intro W4_0 hW4_0)
  have hN : Below w4.heap.size w4 W4_0 := (hW4_0.below _ _ (by omega) ((Below.refl _ w4).alloc (Nat.le_refl _) _))
  have x_b5 : Box W4_0 (w4.heap.size) ([.slice pb Ar.zero.nx.length cb, .slice qb Ar.zero.us.length db, .int .i64 Ar.zero.fr]) := hW4_0.box
  have K_w4_5 : Below w4.heap.size w4 W4_0 := below_thru K_w4_4 hN
  clear K_w4_4
  have hB5 : Below w.heap.size w W4_0 := below_thru hB4 hN
  have hs5 := hB5.size
  have x_a5 : Box W4_0 (w.heap.size) ([.slice a1 A.nx.length c1, .slice a2 A.us.length c2, .int .i64 A.fr]) := Box.below x_a4 hN
  clear hB4 hs4 x_a4
  clear hN hW4_0
  clear K_w4_5
  clear x_b5
  have e9 := HF.out
  have ca := (x_a5).c 2 _ rfl
  have za := (x_a5).lt
  go_upto_region 11 with fail
  clear e9 ca za
  go_wp2_with (refine wpList_load_box9 rfl _ _ rfl x_a5 rfl Try.underlying25 rfl SA.out ?_)
  refine (GV _ _ (HA.out.below hB5)).mono ?_
  rintro e w6 ⟨vz, rfl, hI, hF, hb⟩
  obtain ⟨xz, yz, rfl, rx, ry⟩ := id hI; obtain ⟨pz, cz, rfl, hrx⟩ := id rx; obtain ⟨qz, dz, rfl, hry⟩ := id ry; clear hrx hry rx ry hF
  have hB6 : Below w.heap.size w w6 := below_thru hB5 hb
  have hs6 := hB6.size
  have x_a6 : Box w6 (w.heap.size) ([.slice a1 A.nx.length c1, .slice a2 A.us.length c2, .int .i64 A.fr]) := Box.below x_a5 hb
  clear hB5 hs5 x_a5
  clear hb
  have K_w6_6 : Below w6.heap.size w6 w6 := Below.refl _ _
  have Iz : Hid (IsA w6 (.agg [.slice pz Bg.nx.length cz, .slice qz Bg.us.length dz, .int .i64 Bg.fr].toArray) Bg) := Lib.hid hI; clear hI
  have d_z_a := (x_a6).lt
  have d_z_0 := hs6
  go_upto_region 12 with (refine wpList_store_box (cs := [.slice pz Bg.nx.length cz, .slice qz Bg.us.length dz, .int .i64 Bg.fr]) rfl _ _ _ rfl (Box.newc (l := ar0) rfl rfl) rfl rfl (size_ar _ _ _) rfl (one_ar _ _ _ _ _ _ _) ?_; intro W6_0 hW6_0)
  have hN : Below w6.heap.size w6 W6_0 := (hW6_0.below _ _ (by omega) ((Below.refl _ w6).alloc (Nat.le_refl _) _))
  have x_z7 : Box W6_0 (w6.heap.size) ([.slice pz Bg.nx.length cz, .slice qz Bg.us.length dz, .int .i64 Bg.fr]) := hW6_0.box
  have K_w6_7 : Below w6.heap.size w6 W6_0 := below_thru K_w6_6 hN
  clear K_w6_6
  have hB7 : Below w.heap.size w W6_0 := below_thru hB6 hN
  have hs7 := hB7.size
  have x_a7 : Box W6_0 (w.heap.size) ([.slice a1 A.nx.length c1, .slice a2 A.us.length c2, .int .i64 A.fr]) := Box.below x_a6 hN
  clear hB6 hs6 x_a6
  clear hN hW6_0
  go_wp2_with (refine wpList_load_box9 rfl _ _ rfl x_z7 rfl Try.underlying25 rfl (size_ar _ _ _) ?_)
  refine (TG _ _ (Iz.out.below K_w6_7)).mono ?_
  rintro e w8 ⟨vy, rfl, hI, hF, hb⟩
  obtain ⟨xy, yy, rfl, rx, ry⟩ := id hI; obtain ⟨py, cy, rfl, hrx⟩ := id rx; obtain ⟨qy, dy, rfl, hry⟩ := id ry; clear hrx hry rx ry hF
  have K_w6_8 : Below w6.heap.size w6 w8 := below_thru K_w6_7 hb
  clear K_w6_7
  have hB8 : Below w.heap.size w w8 := below_thru hB7 hb
  have hs8 := hB8.size
  have x_a8 : Box w8 (w.heap.size) ([.slice a1 A.nx.length c1, .slice a2 A.us.length c2, .int .i64 A.fr]) := Box.below x_a7 hb
  have x_z8 : Box w8 (w6.heap.size) ([.slice pz Bg.nx.length cz, .slice qz Bg.us.length dz, .int .i64 Bg.fr]) := Box.below x_z7 hb
  clear hB7 hs7 x_a7 x_z7
  clear hb
  have K_w8_8 : Below w8.heap.size w8 w8 := Below.refl _ _
  have Iy : Hid (IsA w8 (.agg [.slice py A.nx.length cy, .slice qy A.us.length dy, .int .i64 A.fr].toArray) A) := Lib.hid hI; clear hI
  have d_y_a := (x_a8).lt
  have d_y_z := (x_z8).lt
  have d_y_0 := hs8
  go_upto_region 15 with (refine wpList_store_box (cs := [.slice py A.nx.length cy, .slice qy A.us.length dy, .int .i64 A.fr]) rfl _ _ _ rfl (Box.newc (l := ar0) rfl rfl) rfl rfl (size_ar _ _ _) rfl (one_ar _ _ _ _ _ _ _) ?_; intro W8_0 hW8_0)
  have hN : Below w8.heap.size w8 W8_0 := (hW8_0.below _ _ (by omega) ((Below.refl _ w8).alloc (Nat.le_refl _) _))
  have x_y9 : Box W8_0 (w8.heap.size) ([.slice py A.nx.length cy, .slice qy A.us.length dy, .int .i64 A.fr]) := hW8_0.box
  have K_w6_9 : Below w6.heap.size w6 W8_0 := below_thru K_w6_8 hN
  have K_w8_9 : Below w8.heap.size w8 W8_0 := below_thru K_w8_8 hN
  clear K_w6_8 K_w8_8
  have hB9 : Below w.heap.size w W8_0 := below_thru hB8 hN
  have hs9 := hB9.size
  have x_a9 : Box W8_0 (w.heap.size) ([.slice a1 A.nx.length c1, .slice a2 A.us.length c2, .int .i64 A.fr]) := Box.below x_a8 hN
  have x_z9 : Box W8_0 (w6.heap.size) ([.slice pz Bg.nx.length cz, .slice qz Bg.us.length dz, .int .i64 Bg.fr]) := Box.below x_z8 hN
  clear hB8 hs8 x_a8 x_z8
  clear hN hW8_0
  clear K_w6_9
  clear x_z9
  go_wp2_with (first
    | (refine wpList_load_box9 rfl _ _ rfl x_y9 rfl Try.underlying25 rfl (size_ar _ _ _) ?_)
    | (refine wpList_load_box9 rfl _ _ rfl x_a9 rfl Try.underlying25 rfl SA.out ?_))
  refine (SM A _ _ _ (Iy.out.below K_w8_9) (HA.out.below hB9)).mono ?_
  rintro e w10 ⟨rfl, hb⟩
  have K_w8_10 : Below w8.heap.size w8 w10 := below_thru K_w8_9 hb
  clear K_w8_9
  have hB10 : Below w.heap.size w w10 := below_thru hB9 hb
  have hs10 := hB10.size
  have x_a10 : Box w10 (w.heap.size) ([.slice a1 A.nx.length c1, .slice a2 A.us.length c2, .int .i64 A.fr]) := Box.below x_a9 hb
  have x_y10 : Box w10 (w8.heap.size) ([.slice py A.nx.length cy, .slice qy A.us.length dy, .int .i64 A.fr]) := Box.below x_y9 hb
  clear hB9 hs9 x_a9 x_y9
  clear hb
  clear K_w8_10
  clear x_y10
  go_wp2_with fail
  go_returns
  exact ⟨rfl, hB10⟩

theorem back13_is {v : Value} {A : Ar} {p : Int} (w : World) (h1 : IsA w v A) : Calls Try.prog 6 #[v, .int .i64 p] w fun e w' => e = .returned (.bool true) ∧ Below w.heap.size w w' := by
  by_cases hg : GrA A
  · exact back13_a hg w h1
  · by_cases hc : ∃ l, Valid A l
    · obtain ⟨l, hV⟩ := hc
      by_cases hp : p < 0 ∨ (A.nx.length : Int) ≤ p
      · cases l with
        | nil => exact back13_f2 hg hV rfl hp w h1
        | cons i r =>
          obtain ⟨x, hx, _⟩ := hV.snd
          exact back13_t2 hg hV rfl hx hp w h1
      · obtain ⟨j, hj⟩ : ∃ j : Nat, p = j := ⟨p.toNat, by omega⟩
        have hjn : j < A.nx.length := by omega
        obtain ⟨u, hu⟩ : ∃ u, A.us[j]? = some u := ⟨_, hV.used j hjn⟩
        cases l with
        | nil =>
          cases u with
          | true => exact back13_f0 hg hV rfl hj hjn hu w h1
          | false => exact back13_f36 hg hV rfl hj hjn hu w h1
        | cons i r =>
          obtain ⟨x, hx, _⟩ := hV.snd
          cases u with
          | true => exact back13_t0 hg hV rfl hx hj hjn hu w h1
          | false => exact back13_t36 hg hV rfl hx hj hjn hu w h1
    · exact back13_b hg (fun l hl => hc ⟨l, hl⟩) w h1


end Go.Proofs.Ytepimljjbmoojaa
