/-
  Package probe, walked: closeGap, Drop, New.
-/
import Derived.Test.YtalfnmlbidohcaaPbC
namespace Go.Proofs.Ytalfnmlbidohcaa
open Go.RowKit

/-- What a call keeps that writes into block g alone. -/
def Kept (g : Nat) (w W : World) : Prop := ∀ (B : Nat) (a : World), B ≤ g → Below B a w → Below B a W
theorem Kept.go {g : Nat} {w W W' : World} (h : Kept g w W) (hg : g < W.heap.size) (hb : Below W.heap.size W W') : Kept g w W' := fun B a hB h0 => (h B a hB h0).trans (hb.mono (by omega))
theorem Kept.stored {g : Nat} {vs : List Value} {w W W' : World} (h : Kept g w W) (hs : Stored W g vs W') : Kept g w W' := fun B a hB h0 => hs.below B a hB (h B a hB h0)
theorem gap_stop {f : Nat} {x : List Cel} {e i : Nat} (h : (cel x i).u = false) : gap f x e i = x := by
  cases f with
  | zero => rfl
  | succ f =>
    unfold gap
    rw [if_neg (by rw [h]; decide)]
theorem gap_step {f : Nat} {x : List Cel} {e i : Nat} (h : (cel x i).u = true) (ha : ¬ awy e i ≤ awy (hom (cel x i).k) i) : gap (f + 1) x e i = gap f x e ((i + 1) % 16) := by
  rw [gap, if_pos h, if_neg ha]
theorem gap_move {f : Nat} {x : List Cel} {e i : Nat} (h : (cel x i).u = true) (ha : awy e i ≤ awy (hom (cel x i).k) i) : gap (f + 1) x e i = gap f ((x.set e (cel x i)).set i Cel.zero) i ((i + 1) % 16) := by
  rw [gap, if_pos h, if_pos ha]
theorem Stops.pos {f : Nat} {x : List Cel} {e i : Nat} (h : Stops f x e i) : 0 < f := by
  obtain ⟨m, h1, _⟩ := h
  omega

set_option maxRecDepth 100000 in
set_option maxHeartbeats 6400000 in
theorem pgap_is {x z : List Cel} {e g c : Nat} (hl : x.length = 16) (he : e < 16) (hs : Stops 16 x e ((e + 1) % 16)) (hz : gap 16 x e ((e + 1) % 16) = z) (w : World) (hx : Box w g (flatR LCel x)) (hT : Ty w g 42) : Calls Try.prog 31 #[.slice (some ⟨g, 0, none⟩) 16 c, .int .i64 (e : Int)] w fun r w' => r = .returned (.tuple #[]) ∧ Box w' g (flatR LCel z) ∧ Ty w' g 42 ∧ Kept g w w' := by
  have HZ := Lib.hid hz; have HS := Lib.hid hs; have HL := Lib.hid hl; have hK : Kept g w w := fun B a _ h => h; have e0 : (0 : Int) ≤ (e : Int) := (by omega); have e1 : (e : Int) < 16 := (by omega); clear hz hs hl
  go_enter Try.func31, Try.ntmps31
  go_wp2_with fail
  go_loopw [8, 4] (fun p8 p4 wr => ∃ (k y : Nat) (X : List Cel), k ≤ 16 ∧ p8 = .int .i64 k ∧ y < 16 ∧ p4 = .int .i64 y ∧ Hid (X.length = 16) ∧ Hid (Stops (16 - k) X y ((e + k + 1) % 16)) ∧ Hid (gap (16 - k) X y ((e + k + 1) % 16) = z) ∧ Box wr g (flatR LCel X) ∧ Ty wr g 42 ∧ Kept g w wr) (fun p8 _ _ => 16 - (intOf p8).toNat)
  case atStart => exact ⟨0, e, x, by decide, rfl, he, rfl, HL, HS, HZ, hx, hT, hK⟩
  case round =>
    clear hx hT hK HL HS HZ
    obtain ⟨k, y, X, hk, rfl, hy, rfl, HL, HS, HZ, hx, hT, hK⟩ := hrel
    have hk2 : k < 16 := (by have := HS.out.pos; omega)
    obtain ⟨i, hi⟩ : ∃ i, (e + (k + 1)) % 16 = i := ⟨_, rfl⟩; have i16 : i < 16 := (by omega)
    have BH := fun W => bhd_is (i := e) (n := k + 1) he (by omega) hi W; have HI := Lib.hid (show (e + k + 1) % 16 = i by rw [← hi]; rfl); clear hi
    obtain ⟨f, hf⟩ : ∃ f, 16 - k = f + 1 := ⟨15 - k, by omega⟩; have HN := Lib.hid (show 16 - (k + 1) = f by omega); rw [hf, HI.out] at HS HZ; clear hf
    have iN := Lib.hid (show (e + (k + 1) + 1) % 16 = (i + 1) % 16 by have := HI.out; omega)
    have W1 : IntKind.i64.wrap ((k : Int) + 1) = ((k + 1 : Nat) : Int) := by rw [IntKind.wrap_i64]; omega
    have k0 : (0 : Int) ≤ (k : Int) := (by omega); have k1 : (k : Int) < 16 := (by omega); have i0 : (0 : Int) ≤ (i : Int) := (by omega); have i1 : (i : Int) < 16 := (by omega); have y0 : (0 : Int) ≤ (y : Int) := (by omega); have y1 : (y : Int) < 16 := (by omega)
    go_wp2_with fail
    refine (BH _).mono ?_
    rintro e w1 ⟨rfl, hb⟩
    have hK1 := hK.go hx.lt hb; have hx1 := hx.below hb; have hT1 := hT.below hb; clear hK hx hT hb; have hK := hK1; have hx := hx1; have hT := hT1; clear hK1 hx1 hT1
    have R := hx.cells HL.out i i16; have zr := hx.lt; have r1 := R.1; have r3 := R.2.2; clear R; simp only [Nat.zero_add] at r1 r3
    cases hu : (cel X i).u with
    | false =>
      have HE := Lib.hid (show X = z by have := HZ.out; rw [gap_stop hu] at this; exact this); rw [hu] at r3; clear hu r1 HZ HS
      rw [HE.out] at hx
      go_wp2_with fail
      go_returns
      exact ⟨rfl, hx, hT, hK⟩
    | true =>
      rw [hu] at r3
      obtain ⟨K, hKk⟩ : ∃ K, (cel X i).k = K := ⟨_, rfl⟩; obtain ⟨Q, hQ⟩ : ∃ Q, (cel X i).p = Q := ⟨_, rfl⟩; have HC := Lib.hid (show cel X i = ⟨K, Q, true⟩ from Cel.ext' hKk hQ hu); have HU := Lib.hid hu; rw [hKk] at r1; have HK := Lib.hid hKk; clear hKk hQ hu
      obtain ⟨h, hh⟩ : ∃ h, hom K = h := ⟨_, rfl⟩; have h16 := hom_lt K; have HO := fun W => hom_is K W; rw [hh] at h16 HO; obtain ⟨a, ha⟩ : ∃ a, awy h i = a := ⟨_, rfl⟩; obtain ⟨b, hb0⟩ : ∃ b, awy y i = b := ⟨_, rfl⟩; have A1 := fun W => awy_is h16 i16 ha W; have A2 := fun W => awy_is hy i16 hb0 W; have HA := Lib.hid (show awy (hom (cel X i).k) i = a by rw [HK.out, hh]; exact ha); have HB := Lib.hid hb0; clear hh ha hb0 HK
      go_wp2_with fail
      refine (HO _).mono ?_
      rintro e w2 ⟨rfl, hb⟩
      have hK2 := hK.go hx.lt hb; have hx2 := hx.below hb; have hT2 := hT.below hb; clear hK hx hT hb; have hK := hK2; have hx := hx2; have hT := hT2; clear hK2 hx2 hT2
      clear r1 r3 zr
      go_wp2_with fail
      refine (A1 _).mono ?_
      rintro e w3 ⟨rfl, hb⟩
      have hK3 := hK.go hx.lt hb; have hx3 := hx.below hb; have hT3 := hT.below hb; clear hK hx hT hb; have hK := hK3; have hx := hx3; have hT := hT3; clear hK3 hx3 hT3
      go_wp2_with fail
      refine (A2 _).mono ?_
      rintro e w4 ⟨rfl, hb⟩
      have hK4 := hK.go hx.lt hb; have hx4 := hx.below hb; have hT4 := hT.below hb; clear hK hx hT hb; have hK := hK4; have hx := hx4; have hT := hT4; clear hK4 hx4 hT4
      by_cases hab : b ≤ a
      case neg =>
        have hd : decide ((b : Int) ≤ (a : Int)) = false := decide_eq_false (by omega); have hdn : decide (b ≤ a) = false := decide_eq_false (by omega); have HS2 := Lib.hid (HS.out.next i16 HU.out); have HZ2 := Lib.hid (show gap f X y ((i + 1) % 16) = z by have := HZ.out; rw [gap_step HU.out (by rw [HA.out, HB.out]; exact hab)] at this; exact this); clear HS HZ hab HC
        go_wp2_with fail
        go_roundw
        case rel => exact ⟨k + 1, y, X, by omega, by go_num, hy, rfl, HL, by rw [HN.out, iN.out]; exact HS2, by rw [HN.out, iN.out]; exact HZ2, hx, hT, hK⟩
        case measure => simp [intOf]; omega
      case pos =>
        have hd : decide ((b : Int) ≤ (a : Int)) = true := decide_eq_true (by omega); have hdn : decide (b ≤ a) = true := decide_eq_true (by omega); have HS2 := Lib.hid (HS.out.moved HL.out hy i16 HU.out (cel X i)); have HZ2 := Lib.hid (show gap f ((X.set y (cel X i)).set i Cel.zero) i ((i + 1) % 16) = z by have := HZ.out; rw [gap_move HU.out (by rw [HA.out, HB.out]; exact hab)] at this; exact this); clear HS HZ hab
        have UP1 := Lib.hid (upd16 HL.out hy K Q true); rw [← HC.out] at UP1; have L2 := Lib.hid (show (X.set y (cel X i)).length = 16 by rw [List.length_set]; exact HL.out); have UP2 := Lib.hid (upd16 L2.out i16 0 0 false); have F1 := Lib.hid (flat16 HL.out); have F2 := Lib.hid (flat16 L2.out); have L3 := Lib.hid (show ((X.set y (cel X i)).set i Cel.zero).length = 16 by rw [List.length_set]; exact L2.out)
        have R := (hx.cells HL.out).range i16; rw [HC.out] at R; simp only [Nat.zero_add] at R
        obtain ⟨Y1, hY1⟩ : ∃ Y, X.set y (cel X i) = Y := ⟨_, rfl⟩; rw [hY1] at HS2 HZ2 UP1 UP2 L2 F2 L3; clear hY1 HC; obtain ⟨Y2, hY2⟩ : ∃ Y, Y1.set i Cel.zero = Y := ⟨_, rfl⟩; rw [show (⟨0, 0, false⟩ : Cel) = Cel.zero from rfl, hY2] at UP2; rw [hY2] at HS2 HZ2 L3; clear hY2
        obtain ⟨V0, hV0⟩ : ∃ V, flatR LCel X = V := ⟨_, rfl⟩; obtain ⟨V1, hV1⟩ : ∃ V, flatR LCel Y1 = V := ⟨_, rfl⟩; obtain ⟨V2, hV2⟩ : ∃ V, flatR LCel Y2 = V := ⟨_, rfl⟩; rw [hV0] at UP1 F1 hx; rw [hV1] at UP1 UP2 F2; rw [hV2] at UP2; have HV2 := Lib.hid hV2; clear hV0 hV1 hV2
        have zr := hx.lt
        go_wp2_with (first | (refine wpList_load_rangew rfl _ _ rfl R (by first | rfl | simp) Try.underlying42 rfl (size_cel _ _ _) ?_) | (refine wpList_build9 rfl 42 _ rfl (us := #[]) (by rfl) (build_cel0 _) ?_) | (refine wpList_store_partT (k := y * 3) (cs := [.int .u32 K, .int .i64 Q, .bool true]) (ws := V1) rfl _ _ _ rfl hx (by first | rfl | simp) rfl (size_cel _ _ _) (by rw [F1.out]; simp; omega) UP1.out (one_cel _ _ _) ?_; intro W5 hW5 tW5) | (refine wpList_store_partT (k := i * 3) (cs := celz) (ws := V2) rfl _ _ _ rfl hW5.box (by first | rfl | simp) rfl (size_cel _ _ _) (by rw [F2.out]; simp [celz]; omega) UP2.out (one_cel _ _ _) ?_; intro W6 hW6 tW6))
        have hx2 := hW6.box; rw [← HV2.out] at hx2; have hT2 := tW6 _ (tW5 _ hT); have hK2 := (hK.stored hW5).stored hW6; clear hx hT hK hW5 hW6 tW5 tW6 R zr
        go_roundw
        case rel => exact ⟨k + 1, i, Y2, by omega, by go_num, i16, rfl, L3, by rw [HN.out, iN.out]; exact HS2, by rw [HN.out, iN.out]; exact HZ2, hx2, hT2, hK2⟩
        case measure => simp [intOf]; omega

set_option maxRecDepth 100000 in
set_option maxHeartbeats 6400000 in
theorem pdrop_a {v : Value} {x : List Cel} {key : Int} (hv : ¬ Valid x) (w : World) (h1 : IsR LCel w v x) : Calls Try.prog 19 #[v, .int .u32 key] w fun e w' => ∃ u, e = .returned (.tuple #[u, .int .i64 8]) ∧ RowX w' w.heap.size u [] ∧ Below w.heap.size w w' := by
  have H1 := Lib.hid h1; have CK := fun (W : World) (u : Value) (h : IsR LCel W u x) => pchk_is (q := 8) W h (Or.inr ⟨rfl, hv⟩)
  clear h1 hv
  have hB0 := Below.refl w.heap.size w
  have hs0 := hB0.size
  go_enter Try.func19, Try.ntmps19
  go_wp2_with fail
  refine (CK _ _ (H1.out.below hB0)).mono ?_
  rintro e w1 ⟨rfl, hb⟩
  have hB1 : Below w.heap.size w w1 := below_thru hB0 hb
  have hs1 := hB1.size
  clear hB0 hs0
  clear hb
  go_wp2_with fail
  go_returns
  exact ⟨_, rfl, Or.inl ⟨rfl, rfl⟩, hB1⟩

set_option maxRecDepth 100000 in
set_option maxHeartbeats 6400000 in
theorem pdrop_b {v : Value} {x : List Cel} {key : Int} {n : Nat} (hv : Valid x) (hn : Look x key n) (hu : (cel x (lst key n)).u = false) (w : World) (h1 : IsR LCel w v x) : Calls Try.prog 19 #[v, .int .u32 key] w fun e w' => ∃ u, e = .returned (.tuple #[u, .int .i64 6]) ∧ RowX w' w.heap.size u [] ∧ Below w.heap.size w w' := by
  have PL := fun (W : World) (u : Value) (h : IsR LCel W u x) => plook_is hv.len hn W h; obtain ⟨j, hj⟩ : ∃ j, lst key n = j := ⟨_, rfl⟩; have j16 := lst_lt key n; rw [hj] at PL hu j16; have j0 : (0 : Int) ≤ (j : Int) := (by omega); have j1 : (j : Int) < 16 := (by omega)
  have H1 := Lib.hid h1; have CK := fun (W : World) (u : Value) (h : IsR LCel W u x) => pchk_is (q := 0) W h (Or.inl ⟨rfl, hv⟩)
  have hl := hv.len
  obtain ⟨b, o, c, rfl, hc1C, hc2C, hC⟩ := IsR.open16 h1 hl; have C := Lib.hid hC; clear hC
  clear h1
  clear hl hv hn hj
  have hB0 := Below.refl w.heap.size w
  have hs0 := hB0.size
  go_enter Try.func19, Try.ntmps19
  go_wp2_with fail
  refine (CK _ _ (H1.out.below hB0)).mono ?_
  rintro e w1 ⟨rfl, hb⟩
  have hB1 : Below w.heap.size w w1 := below_thru hB0 hb
  have hs1 := hB1.size
  clear hB0 hs0
  clear hb
  go_wp2_with fail
  refine (PL _ _ (H1.out.below hB1)).mono ?_
  rintro e w2 ⟨rfl, hb⟩
  have hB2 : Below w.heap.size w w2 := below_thru hB1 hb
  have hs2 := hB2.size
  clear hB1 hs1
  clear hb
  have R := (C.out.below hB2) j j16; have r3 := R.2.2; have zr := lt_of_cell r3; clear R; rw [hu] at r3; clear hu
  go_wp2_with fail
  go_returns
  exact ⟨_, rfl, Or.inl ⟨rfl, rfl⟩, hB2⟩

set_option maxRecDepth 100000 in
set_option maxHeartbeats 6400000 in
theorem pdrop_c {v : Value} {x : List Cel} {key : Int} {n : Nat} (hv : Valid x) (hn : Look x key n) (hu : (cel x (lst key n)).u = true) (w : World) (h1 : IsR LCel w v x) : Calls Try.prog 19 #[v, .int .u32 key] w fun e w' => ∃ u, e = .returned (.tuple #[u, .int .i64 0]) ∧ RowX w' w.heap.size u (drpL x (lst key n)) ∧ Below w.heap.size w w' := by
  have PL := fun (W : World) (u : Value) (h : IsR LCel W u x) => plook_is hv.len hn W h; obtain ⟨j, hj⟩ : ∃ j, lst key n = j := ⟨_, rfl⟩; have j16 := lst_lt key n; rw [hj] at PL hu j16; have j0 : (0 : Int) ≤ (j : Int) := (by omega); have j1 : (j : Int) < 16 := (by omega)
  rw [hj]
  have CL := fun (W : World) (u : Value) (h : IsR LCel W u x) => pclx_is hv.len W h; have UP := Lib.hid (upd16 hv.len j16 0 0 false); have F48 := Lib.hid (flat16 hv.len); have DL := Lib.hid (drp_len hv j16)
  have CG := fun (W : World) (g c : Nat) (h : Box W g (flatR LCel (x.set j Cel.zero))) (h2 : Ty W g 42) => pgap_is (c := c) (z := drpL x j) (by simp [hv.len]) j16 (drp_stops hv.len hv.few j16) rfl W h h2
  have H1 := Lib.hid h1; have CK := fun (W : World) (u : Value) (h : IsR LCel W u x) => pchk_is (q := 0) W h (Or.inl ⟨rfl, hv⟩)
  have hl := hv.len
  obtain ⟨b, o, c, rfl, hc1C, hc2C, hC⟩ := IsR.open16 h1 hl; have C := Lib.hid hC; clear hC
  clear h1
  clear hl hv hn hj
  obtain ⟨Y, hY⟩ : ∃ Y, x.set j Cel.zero = Y := ⟨_, rfl⟩; rw [show (⟨0, 0, false⟩ : Cel) = Cel.zero from rfl, hY] at UP; rw [hY] at CG; clear hY; obtain ⟨Z, hZ⟩ : ∃ Z, drpL x j = Z := ⟨_, rfl⟩; rw [hZ] at CG DL ⊢; clear hZ; obtain ⟨F, hF⟩ : ∃ F, flatR LCel x = F := ⟨_, rfl⟩; rw [hF] at UP F48; have HF := Lib.hid hF; clear hF
  have hB0 := Below.refl w.heap.size w
  have hs0 := hB0.size
  go_enter Try.func19, Try.ntmps19
  go_wp2_with fail
  refine (CK _ _ (H1.out.below hB0)).mono ?_
  rintro e w1 ⟨rfl, hb⟩
  have hB1 : Below w.heap.size w w1 := below_thru hB0 hb
  have hs1 := hB1.size
  clear hB0 hs0
  clear hb
  go_wp2_with fail
  refine (PL _ _ (H1.out.below hB1)).mono ?_
  rintro e w2 ⟨rfl, hb⟩
  have hB2 : Below w.heap.size w w2 := below_thru hB1 hb
  have hs2 := hB2.size
  clear hB1 hs1
  clear hb
  have R := (C.out.below hB2) j j16; have r3 := R.2.2; have zr := lt_of_cell r3; clear R; rw [hu] at r3; clear hu
  go_wp2_with fail
  refine (CL _ _ (H1.out.below hB2)).mono ?_
  rintro e w9 ⟨u, rfl, ⟨_, g, d, rfl, hg, hd1, hd2, hx, hT⟩, hb⟩
  rw [HF.out] at hx
  have hB9 := below_thru hB2 hb; have hg2 : w.heap.size ≤ g := Nat.le_trans hs2 hg; clear hB2 hb hg zr r3
  have hlt := hx.lt
  go_wp2_with (first | (refine wpList_build9 rfl 42 _ rfl (us := #[]) (by rfl) (build_cel0 _) ?_) | (refine wpList_store_partT (k := j * 3) (cs := celz) (ws := flatR LCel Y) rfl _ _ _ rfl hx (by first | rfl | simp) rfl (size_cel _ _ _) (by rw [F48.out]; simp [celz]; omega) UP.out (one_cel _ _ _) ?_; intro W3 hW3 tW3))
  refine (CG _ _ _ hW3.box (tW3 _ hT)).mono ?_
  rintro e w10 ⟨rfl, hx10, hT10, hK⟩
  have hB10 := hK _ _ hg2 (hW3.below _ _ hg2 hB9); clear hK hW3 tW3 hx hT hB9 hlt
  go_wp2_with fail
  go_returns
  exact ⟨_, rfl, Or.inr ⟨DL.out, g, d, rfl, hg2, hd1, hd2, hx10, hT10⟩, hB10⟩

theorem pdrop_is {v : Value} {x y : List Cel} {key q : Int} (hq : DrpX x key y q) (w : World) (h1 : IsR LCel w v x) : Calls Try.prog 19 #[v, .int .u32 key] w fun e w' => ∃ u, e = .returned (.tuple #[u, .int .i64 q]) ∧ RowX w' w.heap.size u y ∧ Below w.heap.size w w' := by
  rcases hq with ⟨rfl, rfl, hv⟩ | ⟨hv, rfl, rfl, hn⟩ | ⟨hv, rfl, i, hi, rfl⟩
  · exact pdrop_a hv w h1
  · obtain ⟨n, h2, _, h3⟩ := hv.look_none hn
    exact pdrop_b hv h2 h3 w h1
  · obtain ⟨n, h2, _, rfl⟩ := hv.look_has hi
    exact pdrop_c hv h2 hi.2.1 w h1

/-- The index without keys. -/
def newX : List Cel := List.replicate 16 Cel.zero
theorem flat_newX : madeCells celz.toArray 48 = (flatR LCel newX).toArray := by
  apply Array.ext
  · have := flatR_len LCel newX
    simp [madeCells, this]
    rfl
  · intro i h1 h2
    have h3 : i < 48 := by simpa [madeCells, celz] using h1
    have h4 : (flatR LCel newX)[i]? = some (celz.getD (i % 3) undef) := by
      have : ∀ i, i < 48 → (flatR LCel newX)[i]? = some (celz.getD (i % 3) undef) := by
        intro i hi
        have e := flatR_at (L := LCel) (xs := newX) (i := i / 3) (j := i % 3) (x := Cel.zero) (v := celz.getD (i % 3) undef) (by unfold newX; rw [List.getElem?_replicate, if_pos (by omega)]) (by
          have : i % 3 = 0 ∨ i % 3 = 1 ∨ i % 3 = 2 := by omega
          rcases this with q | q | q <;> rw [q] <;> rfl)
        have e2 : i / 3 * LCel.s + i % 3 = i := by show i / 3 * 3 + i % 3 = i; omega
        rw [e2] at e
        exact e
      exact this i h3
    have h5 : (madeCells celz.toArray 48)[i] = celz.getD (i % 3) undef := by
      have : i % 3 = 0 ∨ i % 3 = 1 ∨ i % 3 = 2 := by omega
      rcases this with q | q | q <;> simp [madeCells, celz, q]
    rw [h5]
    have h6 : (flatR LCel newX)[i]'(by simpa using h2) = celz.getD (i % 3) undef := by
      rw [List.getElem?_eq_getElem (by simpa using h2)] at h4
      injection h4
    rw [← h6]
    simp
theorem make_newX (w : World) : (Instr.makeSlice 22 (.int .i64 16) (.int .i64 16)).run Try.prog w = .ok (.slice (some ⟨w.heap.size, 0, none⟩) 16 16) (w.alloc (.cells (flatR LCel newX).toArray 42)) := by
  obtain ⟨ti, hin, hz0, hz1, hz2⟩ := info_parts info_cel
  have := run_make (P := Try.prog) w 22 42 ti (.agg celz.toArray) Try.underlying22 hin hz0 .i64 .i64 16 16 (by omega) (by omega) (by rw [hz2]; omega) (by omega)
  rw [hz1] at this
  rw [← flat_newX]
  have e : (Int.toNat 16 * 3) = 48 := rfl
  rw [e] at this
  exact this
theorem RowC.newc {w : World} {n B : Nat} {x : List Cel} (hn : n = w.heap.size) (hB : B ≤ n) (hl : x.length = 16) : RowC (w.alloc (.cells (flatR LCel x).toArray 42)) B (.slice (some ⟨n, 0, none⟩) 16 16) x := ⟨hl, n, 16, rfl, hB, by decide, by decide, Box.newc rfl hn, Ty.newc hn⟩

set_option maxRecDepth 100000 in
set_option maxHeartbeats 6400000 in
theorem pnew_is (w : World) : Calls Try.prog 22 #[] w fun e w' => ∃ u, e = .returned u ∧ RowC w' w.heap.size u newX ∧ Below w.heap.size w w' := by
  have MN := fun W => make_newX W
  go_enter Try.func22, Try.ntmps22
  go_wp2_with fail
  go_returns
  exact ⟨_, rfl, RowC.newc rfl (Nat.le_refl _) rfl, (Below.refl _ _).alloc (Nat.le_refl _) _⟩


end Go.Proofs.Ytalfnmlbidohcaa
