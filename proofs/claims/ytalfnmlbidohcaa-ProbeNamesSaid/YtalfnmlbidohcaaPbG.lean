/-
  The reference of layer 14, walked: behind, Drop, Same.
-/
import Derived.Test.YtalfnmlbidohcaaPbF
namespace Go.Proofs.Ytalfnmlbidohcaa
open Go.RowKit

set_option maxRecDepth 100000 in
set_option maxHeartbeats 6400000 in
theorem rbhd_is {c e k : Nat} {b : Bool} (hc : c < 16) (he : e < 16) (hk : k < 16) (hne : k ≠ e) (hb : b = true ↔ ¬ awy e k ≤ awy c k) (w : World) : Calls Try.prog 32 #[.int .i64 (c : Int), .int .i64 (e : Int), .int .i64 (k : Int)] w fun r w' => r = .returned (.bool b) ∧ Below w.heap.size w w' := by
  have HB := Lib.hid hb; clear hb; have e0 : (0 : Int) ≤ ((e + 1 : Nat) : Int) := (by omega); have W0 : IntKind.i64.wrap ((e : Int) + 1) = ((e + 1 : Nat) : Int) := by rw [IntKind.wrap_i64]; omega
  have hB0 := Below.refl w.heap.size w
  go_enter Try.func32, Try.ntmps32
  go_wp2_with fail
  clear W0 e0
  go_loopw [7] (fun p7 wr => ∃ n m : Nat, n < awy e k ∧ (e + 1 + n) % 16 = m ∧ p7 = .int .i64 m ∧ Hid (∀ j, j < n → (e + 1 + j) % 16 ≠ c) ∧ Below w.heap.size w wr) (fun p7 _ => awy (intOf p7).toNat k)
  case atStart => exact ⟨0, (e + 1) % 16, by unfold awy; omega, by omega, by go_num, Lib.hid (fun j hj => absurd hj (Nat.not_lt_zero j)), hB0⟩
  case round =>
    clear hB0
    obtain ⟨n, m, hn, hm, rfl, HN, hB⟩ := hrel
    have m16 : m < 16 := (by omega); have j0 : (0 : Int) ≤ (m : Int) := (by omega)
    have W2 : IntKind.i64.wrap ((m : Int) + 1) = ((m + 1 : Nat) : Int) := by rw [IntKind.wrap_i64]; omega
    have i2 : (0 : Int) ≤ ((m + 1 : Nat) : Int) := (by omega)
    by_cases hmc : m = c
    case pos =>
      have hd : ((m : Int) == (c : Int)) = true := by rw [hmc]; exact beq_self_eq_true _
      have HX := Lib.hid (show true = b from (HB.out.2 (by unfold awy at hn ⊢; omega)).symm); clear hm hn HN hmc
      go_wp2_with fail
      go_returns
      exact ⟨ret_b12 HX.out, hB⟩
    case neg =>
      have hd : ((m : Int) == (c : Int)) = false := by rw [beq_eq_false_iff_ne]; omega
      by_cases hmk : m = k
      case pos =>
        have hd2 : ((m : Int) == (k : Int)) = true := by rw [hmk]; exact beq_self_eq_true _
        have HX := Lib.hid (show false = b from (bool_eq12 HB.out (c := false) ⟨fun h => (Bool.false_ne_true h).elim, fun h => absurd (show awy e k ≤ awy c k from Classical.byContradiction fun q => by
          have h1 : awy c k < awy e k := by omega
          have h2 := HN.out (awy e k - 1 - awy c k)
          by_cases h3 : awy e k - 1 - awy c k < n
          · exact h2 h3 (by unfold awy at h1 ⊢; omega)
          · exact hmc (by unfold awy at hn h1 h3; omega)) h⟩).symm); clear hm hn HN hmc hmk
        go_wp2_with fail
        go_returns
        exact ⟨ret_b12 HX.out, hB⟩
      case neg =>
        have hd2 : ((m : Int) == (k : Int)) = false := by rw [beq_eq_false_iff_ne]; omega
        have HN2 := Lib.hid (show ∀ j, j < n + 1 → (e + 1 + j) % 16 ≠ c from fun j hj => by
          rcases Nat.lt_or_ge j n with q | q
          · exact HN.out j q
          · obtain rfl : j = n := by omega
            rw [hm]
            exact hmc)
        have HL := Lib.hid (show n + 1 < awy e k by unfold awy at hn ⊢; omega); have HM := Lib.hid (show (e + 1 + (n + 1)) % 16 = (m + 1) % 16 by omega); have HMe := Lib.hid (show awy ((m + 1) % 16) k < awy m k by unfold awy; omega); clear hm hn HN hmc hmk
        go_wp2_with fail
        go_roundw
        case rel => exact ⟨n + 1, (m + 1) % 16, HL.out, HM.out, by go_num, HN2, hB⟩
        case measure => exact ms14 HMe.out

set_option maxRecDepth 100000 in
set_option maxHeartbeats 6400000 in
theorem rdrop_a {v : Value} {x : List Cel} {key : Int} (hky : Keys x) (hv : ¬ Valid x) (w : World) (h1 : IsR LCel w v x) : Calls Try.prog 20 #[v, .int .u32 key] w fun e w' => ∃ u, e = .returned (.tuple #[u, .int .i64 8]) ∧ RowX w' w.heap.size u [] ∧ Below w.heap.size w w' := by
  have H1 := Lib.hid h1; have CK := fun (W : World) (u : Value) (h : IsR LCel W u x) => rchk_is (q := 8) hky W h (Or.inr ⟨rfl, hv⟩)
  clear h1 hv hky
  have hB0 := Below.refl w.heap.size w
  have hs0 := hB0.size
  go_enter Try.func20, Try.ntmps20
  go_wp2_with fail
  refine (CK _ _ (H1.out.below hB0)).mono ?_
  rintro e w1 ⟨rfl, hb⟩
  have hB1 : Below w.heap.size w w1 := below_thru hB0 hb
  have hs1 := hB1.size
  clear hB0 hs0
  clear hb
  go_wp2_with fail
  refine (CK _ _ (H1.out.below hB1)).mono ?_
  rintro e w2 ⟨rfl, hb⟩
  have hB2 : Below w.heap.size w w2 := below_thru hB1 hb
  have hs2 := hB2.size
  clear hB1 hs1
  clear hb
  go_wp2_with fail
  go_returns
  exact ⟨_, rfl, Or.inl ⟨rfl, rfl⟩, hB2⟩

set_option maxRecDepth 100000 in
set_option maxHeartbeats 6400000 in
theorem rdrop_b {v : Value} {x : List Cel} {key : Int} (hky : Keys x) (hv : Valid x) (hn : ∀ i, ¬ Has x key i) (w : World) (h1 : IsR LCel w v x) : Calls Try.prog 20 #[v, .int .u32 key] w fun e w' => ∃ u, e = .returned (.tuple #[u, .int .i64 6]) ∧ RowX w' w.heap.size u [] ∧ Below w.heap.size w w' := by
  have AT := fun (W : World) (u : Value) (h : IsR LCel W u x) => rat_is hv.len (Or.inl ⟨rfl, hn⟩) W h
  have H1 := Lib.hid h1; have CK := fun (W : World) (u : Value) (h : IsR LCel W u x) => rchk_is (q := 0) hky W h (Or.inl ⟨rfl, hv⟩)
  have hl := hv.len; have HY := Lib.hid hky
  obtain ⟨b, o, c, rfl, hc1C, hc2C, hC⟩ := IsR.open16 h1 hl; have C := Lib.hid hC; clear hC
  clear h1 hky
  clear hl hv hn HY C
  have hB0 := Below.refl w.heap.size w
  have hs0 := hB0.size
  go_enter Try.func20, Try.ntmps20
  go_wp2_with fail
  refine (CK _ _ (H1.out.below hB0)).mono ?_
  rintro e w1 ⟨rfl, hb⟩
  have hB1 : Below w.heap.size w w1 := below_thru hB0 hb
  have hs1 := hB1.size
  clear hB0 hs0
  clear hb
  go_wp2_with fail
  refine (AT _ _ (H1.out.below hB1)).mono ?_
  rintro e w2 ⟨rfl, hb⟩
  have hB2 : Below w.heap.size w w2 := below_thru hB1 hb
  have hs2 := hB2.size
  clear hB1 hs1
  clear hb
  go_wp2_with fail
  go_returns
  exact ⟨_, rfl, Or.inl ⟨rfl, rfl⟩, hB2⟩

set_option maxRecDepth 100000 in
set_option maxHeartbeats 6400000 in
theorem rdrop_c {v : Value} {x : List Cel} {key : Int} (hky : Keys x) {j : Nat} (hv : Valid x) (hi : Has x key j) (w : World) (h1 : IsR LCel w v x) : Calls Try.prog 20 #[v, .int .u32 key] w fun e w' => ∃ u, e = .returned (.tuple #[u, .int .i64 0]) ∧ RowX w' w.heap.size u (drpL x j) ∧ Below w.heap.size w w' := by
  have AT := fun (W : World) (u : Value) (h : IsR LCel W u x) => rat_is hv.len (hv.atR hi) W h
  have j16 := hi.1; have j0 : (0 : Int) ≤ (j : Int) := (by omega); have j1 : (j : Int) < 16 := (by omega); have d0 : decide ((j : Int) < 0) = false := decide_eq_false (by omega)
  have HL := Lib.hid hv.len; have UP := Lib.hid (upd16 hv.len j16 0 0 false); have F48 := Lib.hid (flat16 hv.len); have DL := Lib.hid (drp_len hv j16); have HSt := Lib.hid (drp_stops hv.len hv.few j16); have HGp := Lib.hid (show gap 16 (x.set j Cel.zero) j ((j + 1) % 16) = drpL x j from rfl); have LY := Lib.hid (show (x.set j Cel.zero).length = 16 by rw [List.length_set]; exact hv.len); have KYY := Lib.hid (hky.set j Keys.zero)
  have H1 := Lib.hid h1; have CK := fun (W : World) (u : Value) (h : IsR LCel W u x) => rchk_is (q := 0) hky W h (Or.inl ⟨rfl, hv⟩)
  have hl := hv.len; have HY := Lib.hid hky
  obtain ⟨b, o, c, rfl, hc1C, hc2C, hC⟩ := IsR.open16 h1 hl; have C := Lib.hid hC; clear hC
  clear h1 hky
  obtain ⟨ti, hin, hz0, hz1, hz2⟩ := info_parts info_cel; clear hl hv hi HY C
  obtain ⟨Y, hY⟩ : ∃ Y, x.set j Cel.zero = Y := ⟨_, rfl⟩; rw [show (⟨0, 0, false⟩ : Cel) = Cel.zero from rfl, hY] at UP; rw [hY] at HSt HGp LY KYY; clear hY; obtain ⟨z, hZ⟩ : ∃ Z, drpL x j = Z := ⟨_, rfl⟩; rw [hZ] at HGp DL ⊢; clear hZ; obtain ⟨F, hF⟩ : ∃ F, flatR LCel x = F := ⟨_, rfl⟩; rw [hF] at UP F48; have HF := Lib.hid hF; clear hF
  have W0 : IntKind.i64.wrap ((j : Int) + 1) = ((j + 1 : Nat) : Int) := by rw [IntKind.wrap_i64]; omega
  have i0 : (0 : Int) ≤ ((j + 1 : Nat) : Int) := (by omega)
  have hB0 := Below.refl w.heap.size w
  have hs0 := hB0.size
  go_enter Try.func20, Try.ntmps20
  go_wp2_with fail
  refine (CK _ _ (H1.out.below hB0)).mono ?_
  rintro e w1 ⟨rfl, hb⟩
  have hB1 : Below w.heap.size w w1 := below_thru hB0 hb
  have hs1 := hB1.size
  clear hB0 hs0
  clear hb
  go_wp2_with fail
  refine (AT _ _ (H1.out.below hB1)).mono ?_
  rintro e w2 ⟨rfl, hb⟩
  have hB2 : Below w.heap.size w w2 := below_thru hB1 hb
  have hs2 := hB2.size
  clear hB1 hs1
  clear hb
  have LE : (w2.alloc (.cells #[] 42)).ownsRow w2.heap.size 42 3 (.slice (some ⟨w2.heap.size, 0, none⟩) 0 0) 0 [] := ownR_built (L := LCel) (c := #[]) (n := 0) (m := 0) [] rfl rfl rfl rfl rfl (by decide)
  have XS : IsR LCel (w2.alloc (.cells #[] 42)) (.slice (some ⟨b, o, none⟩) 16 c) x := (H1.out.below hB2).alloc _
  go_wp2_with (first | (at_builtin; refine wpList_append_rows rfl LCel _ _ 22 rfl w2.heap.size 42 ti (.agg celz.toArray) 3 24 rfl Try.underlying22 hin hz0 hz1 hz2 rfl _ 0 _ rfl LE _ x rfl XS (by have := HL.out; unfold maxLen; omega) (by have := HL.out; omega) (by simp) ?_; intro v9 w9 own9 gr9; have hN : Below w2.heap.size w2 w9 := ((Below.refl _ _).alloc (Nat.le_refl _) _).grown gr9 (by simp) (ownR_block LE); have hB9 := below_thru hB2 hN; rw [List.nil_append, HL.out] at own9; obtain ⟨h16_, g, d, rfl, hg, hd1, hd2, hx, hT⟩ := RowC.own own9 HL.out; have hg2 : w.heap.size ≤ g := Nat.le_trans hs2 hg; rw [HF.out] at hx; have hlt := hx.lt; clear h16_ LE XS own9 gr9 hN hg hB2 hs2) | (refine wpList_build9 rfl 42 _ rfl (us := #[]) (by rfl) (build_cel0 _) ?_) | (refine wpList_store_partT (k := j * 3) (cs := celz) (ws := flatR LCel Y) rfl _ _ _ rfl hx (by first | rfl | simp) rfl (size_cel _ _ _) (by rw [F48.out]; simp [celz]; omega) UP.out (one_cel _ _ _) ?_; intro W3 hW3 tW3))
  have hB3 := hW3.below _ _ hg2 hB9; have hx3 := hW3.box; have hT3 := tW3 _ hT; clear hW3 tW3 hx hT hB9 hlt UP F48 HF CK AT hin hz0 hz1 hz2 W0 i0 d0
  go_loopw [8, 6] (fun p8 p6 wr => ∃ (f m y : Nat) (X : List Cel), f = awy m j + 1 ∧ m < 16 ∧ y < 16 ∧ p8 = .int .i64 m ∧ p6 = .int .i64 y ∧ Hid (X.length = 16) ∧ Hid (Keys X) ∧ Hid (Stops f X y m) ∧ Hid (gap f X y m = z) ∧ Box wr g (flatR LCel X) ∧ Ty wr g 42 ∧ Below w.heap.size w wr) (fun p8 _ _ => awy (intOf p8).toNat j)
  case atStart => exact ⟨16, (j + 1) % 16, j, Y, by unfold awy; omega, by omega, j16, by go_num, rfl, LY, KYY, HSt, HGp, hx3, hT3, hB3⟩
  case round =>
    clear hx3 hT3 hB3 HSt HGp LY KYY
    obtain ⟨f, m, y, X, hf, m16, hy, rfl, rfl, HL, HKy, HS, HZ, hx, hT, hB⟩ := hrel
    have W2 : IntKind.i64.wrap ((m : Int) + 1) = ((m + 1 : Nat) : Int) := by rw [IntKind.wrap_i64]; omega
    have k0 : (0 : Int) ≤ (m : Int) := (by omega); have k1 : (m : Int) < 16 := (by omega); have i2 : (0 : Int) ≤ ((m + 1 : Nat) : Int) := (by omega); have y0 : (0 : Int) ≤ (y : Int) := (by omega); have y1 : (y : Int) < 16 := (by omega)
    have R := hx.cells HL.out m m16; have zr := hx.lt; have r1 := R.1; have r3 := R.2.2; clear R; simp only [Nat.zero_add] at r1 r3
    cases hu : (cel X m).u with
    | false =>
      have HE := Lib.hid (show X = z by have := HZ.out; rw [gap_stop hu] at this; exact this); rw [hu] at r3; clear hu r1 HZ HS hf; rw [HE.out] at hx
      go_wp2_with fail
      go_returns
      exact ⟨_, rfl, Or.inr ⟨DL.out, g, d, rfl, hg2, hd1, hd2, hx, hT⟩, hB⟩
    | true =>
      rw [hu] at r3; subst hf; have hmore := HS.out.more m16 hu; have hmy := HS.out.ne m16; have hpos : 0 < awy m j := (by obtain ⟨q, h1, _⟩ := hmore; omega); have HMe := Lib.hid (show awy ((m + 1) % 16) j < awy m j by unfold awy at hpos ⊢; omega); have HFe := Lib.hid (show awy m j = awy ((m + 1) % 16) j + 1 by unfold awy at hpos ⊢; omega); clear hpos hmore
      obtain ⟨K, hKk⟩ : ∃ K, (cel X m).k = K := ⟨_, rfl⟩; obtain ⟨Q, hQ⟩ : ∃ Q, (cel X m).p = Q := ⟨_, rfl⟩; have HC := Lib.hid (show cel X m = ⟨K, Q, true⟩ from Cel.ext' hKk hQ hu); have HU := Lib.hid hu; rw [hKk] at r1; have HK := Lib.hid hKk; have HKr := HKy.out.cel m; rw [hKk] at HKr; clear hKk hQ hu
      obtain ⟨h, hh⟩ : ∃ h, hom K = h := ⟨_, rfl⟩; have h16 := hom_lt K; have HO := fun W => rhom_is HKr W; rw [hh] at h16 HO; have HH := Lib.hid hh; clear hh HKr
      go_wp2_with fail
      refine (HO _).mono ?_
      rintro e w12 ⟨rfl, hb⟩
      have hB12 := below_thru hB hb; have hx12 := hx.below hb; have hT12 := hT.below hb; clear hB hx hT hb; have hB := hB12; have hx := hx12; have hT := hT12; clear hB12 hx12 hT12
      clear r1 r3 zr HO
      by_cases hab : awy y m ≤ awy h m
      case neg =>
        have HS2 := Lib.hid (HS.out.next m16 HU.out); have HZ2 := Lib.hid (show gap (awy m j) X y ((m + 1) % 16) = z by have := HZ.out; rw [gap_step HU.out (by rw [HK.out, HH.out]; exact hab)] at this; exact this); have BH := fun W => rbhd_is (b := true) h16 hy m16 hmy ⟨fun _ => hab, fun _ => rfl⟩ W; clear HS HZ hab HC HK HU HH hmy
        go_wp2_with fail
        refine (BH _).mono ?_
        rintro e w13 ⟨rfl, hb⟩
        have hB13 := below_thru hB hb; have hx13 := hx.below hb; have hT13 := hT.below hb; clear hB hx hT hb; have hB := hB13; have hx := hx13; have hT := hT13; clear hB13 hx13 hT13
        clear BH
        go_wp2_with fail
        go_roundw
        case rel => exact ⟨awy m j, (m + 1) % 16, y, X, HFe.out, by omega, hy, by go_num, rfl, HL, HKy, HS2, HZ2, hx, hT, hB⟩
        case measure => exact ms14 HMe.out
      case pos =>
        have HS2 := Lib.hid (HS.out.moved HL.out hy m16 HU.out (cel X m)); have HZ2 := Lib.hid (show gap (awy m j) ((X.set y (cel X m)).set m Cel.zero) m ((m + 1) % 16) = z by have := HZ.out; rw [gap_move HU.out (by rw [HK.out, HH.out]; exact hab)] at this; exact this); have BH := fun W => rbhd_is (b := false) h16 hy m16 hmy ⟨fun q => (Bool.false_ne_true q).elim, fun q => absurd hab q⟩ W; clear HS HZ hab HK HU HH hmy
        have UP1 := Lib.hid (upd16 HL.out hy K Q true); rw [← HC.out] at UP1; have L2 := Lib.hid (show (X.set y (cel X m)).length = 16 by rw [List.length_set]; exact HL.out); have UP2 := Lib.hid (upd16 L2.out m16 0 0 false); have F1 := Lib.hid (flat16 HL.out); have F2 := Lib.hid (flat16 L2.out); have L3 := Lib.hid (show ((X.set y (cel X m)).set m Cel.zero).length = 16 by rw [List.length_set]; exact L2.out); have K3 := Lib.hid ((HKy.out.set y (HKy.out.cel m)).set m Keys.zero)
        go_wp2_with fail
        refine (BH _).mono ?_
        rintro e w13 ⟨rfl, hb⟩
        have hB13 := below_thru hB hb; have hx13 := hx.below hb; have hT13 := hT.below hb; clear hB hx hT hb; have hB := hB13; have hx := hx13; have hT := hT13; clear hB13 hx13 hT13
        clear BH
        have R := (hx.cells HL.out).range m16; rw [HC.out] at R; simp only [Nat.zero_add] at R
        obtain ⟨Y1, hY1⟩ : ∃ Y, X.set y (cel X m) = Y := ⟨_, rfl⟩; rw [hY1] at HS2 HZ2 UP1 UP2 L2 F2 L3 K3; clear hY1 HC; obtain ⟨Y2, hY2⟩ : ∃ Y, Y1.set m Cel.zero = Y := ⟨_, rfl⟩; rw [show (⟨0, 0, false⟩ : Cel) = Cel.zero from rfl, hY2] at UP2; rw [hY2] at HS2 HZ2 L3 K3; clear hY2
        obtain ⟨V0, hV0⟩ : ∃ V, flatR LCel X = V := ⟨_, rfl⟩; obtain ⟨V1, hV1⟩ : ∃ V, flatR LCel Y1 = V := ⟨_, rfl⟩; obtain ⟨V2, hV2⟩ : ∃ V, flatR LCel Y2 = V := ⟨_, rfl⟩; rw [hV0] at UP1 F1 hx; rw [hV1] at UP1 UP2 F2; rw [hV2] at UP2; have HV2 := Lib.hid hV2; clear hV0 hV1 hV2
        have zr := hx.lt
        go_wp2_with (first | (refine wpList_load_rangew rfl _ _ rfl R (by first | rfl | simp) Try.underlying42 rfl (size_cel _ _ _) ?_) | (refine wpList_build9 rfl 42 _ rfl (us := #[]) (by rfl) (build_cel0 _) ?_) | (refine wpList_store_partT (k := y * 3) (cs := [.int .u32 K, .int .i64 Q, .bool true]) (ws := V1) rfl _ _ _ rfl hx (by first | rfl | simp) rfl (size_cel _ _ _) (by rw [F1.out]; simp; omega) UP1.out (one_cel _ _ _) ?_; intro W5 hW5 tW5) | (refine wpList_store_partT (k := m * 3) (cs := celz) (ws := V2) rfl _ _ _ rfl hW5.box (by first | rfl | simp) rfl (size_cel _ _ _) (by rw [F2.out]; simp [celz]; omega) UP2.out (one_cel _ _ _) ?_; intro W6 hW6 tW6))
        have hx2 := hW6.box; rw [← HV2.out] at hx2; have hT2 := tW6 _ (tW5 _ hT); have hB2 := hW6.below _ _ hg2 (hW5.below _ _ hg2 hB); clear hx hT hB hW5 hW6 tW5 tW6 R zr
        go_roundw
        case rel => exact ⟨awy m j, (m + 1) % 16, m, Y2, HFe.out, by omega, m16, by go_num, rfl, L3, K3, HS2, HZ2, hx2, hT2, hB2⟩
        case measure => exact ms14 HMe.out

theorem rdrop_is {v : Value} {x y : List Cel} {key q : Int} (hky : Keys x) (hq : DrpX x key y q) (w : World) (h1 : IsR LCel w v x) : Calls Try.prog 20 #[v, .int .u32 key] w fun e w' => ∃ u, e = .returned (.tuple #[u, .int .i64 q]) ∧ RowX w' w.heap.size u y ∧ Below w.heap.size w w' := by
  rcases hq with ⟨rfl, rfl, hv⟩ | ⟨hv, rfl, rfl, hn⟩ | ⟨hv, rfl, i, hi, rfl⟩
  · exact rdrop_a hky hv w h1
  · exact rdrop_b hky hv hn w h1
  · exact rdrop_c hky hv hi w h1

set_option maxRecDepth 100000 in
set_option maxHeartbeats 6400000 in
theorem rsame_a {v u : Value} {x y : List Cel} (h : x.length ≠ y.length) (w : World) (h1 : IsR LCel w v x) (h2 : IsR LCel w u y) : Calls Try.prog 21 #[v, u] w fun e w' => e = .returned (.bool false) ∧ Below w.heap.size w w' := by
  obtain ⟨a, c, rfl, hr⟩ := id h1; obtain ⟨a2, c2, rfl, hr2⟩ := id h2; obtain ⟨n, hn⟩ : ∃ n, x.length = n := ⟨_, rfl⟩; obtain ⟨m, hm⟩ : ∃ n, y.length = n := ⟨_, rfl⟩; rw [hn, hm] at h; rw [hn, hm]; clear hn hm h1 h2 hr hr2
  have d0 : ((n : Int) != (m : Int)) = true := by rw [bne_iff_ne]; omega
  clear h
  have hB0 := Below.refl w.heap.size w
  go_enter Try.func21, Try.ntmps21
  go_wp2_with fail
  go_returns
  exact ⟨rfl, hB0⟩

set_option maxRecDepth 100000 in
set_option maxHeartbeats 6400000 in
theorem rsame_b {v u : Value} {x y : List Cel} {b : Bool} (hl : x.length = y.length) (h100 : x.length ≤ 100) (hb : b = true ↔ x = y) (w : World) (h1 : IsR LCel w v x) (h2 : IsR LCel w u y) : Calls Try.prog 21 #[v, u] w fun e w' => e = .returned (.bool b) ∧ Below w.heap.size w w' := by
  obtain ⟨n, hn⟩ : ∃ n, x.length = n := ⟨_, rfl⟩; have hn2 : y.length = n := hl.symm.trans hn; have HN := Lib.hid hn; have HN2 := Lib.hid hn2; have HB := Lib.hid hb; obtain ⟨a, c, rfl, hr⟩ := id h1; obtain ⟨a2, c2, rfl, hr2⟩ := id h2; rw [hn] at h1 h100 ⊢; rw [hn2] at h2 ⊢; have H1 := Lib.hid h1; have H2 := Lib.hid h2; clear h1 h2 hr hr2 hl hn hn2 hb
  have d0 : ((n : Int) != (n : Int)) = false := bne_self_eq_false _; have hB0 := Below.refl w.heap.size w
  go_enter Try.func21, Try.ntmps21
  go_wp2_with fail
  clear d0
  go_loopw [5] (fun p5 wr => ∃ k : Nat, k ≤ n ∧ p5 = .int .i64 k ∧ Hid (∀ j : Nat, j < k → x[j]? = y[j]?) ∧ Below w.heap.size w wr) (fun p5 _ => n - (intOf p5).toNat)
  case atStart => exact ⟨0, Nat.zero_le _, rfl, Lib.hid (fun _ h => absurd h (Nat.not_lt_zero _)), hB0⟩
  case round =>
    clear hB0
    obtain ⟨k, hk, rfl, HE, hB⟩ := hrel
    have hs := hB.size
    by_cases hlt : k < n
    case neg =>
      have hd : decide ((k : Int) < (n : Int)) = false := decide_eq_false (by omega); have hdn : decide (k < n) = false := decide_eq_false hlt
      have HX := Lib.hid (show true = b from (HB.out.2 (List.ext_getElem? fun j => by
        rcases Nat.lt_or_ge j k with g | g
        · exact HE.out j g
        · rw [List.getElem?_eq_none (by rw [HN.out]; omega), List.getElem?_eq_none (by rw [HN2.out]; omega)])).symm); clear HE
      go_wp2_with fail
      go_returns
      exact ⟨ret_b12 HX.out, hB⟩
    case pos =>
      have hx := cel_at (x := x) (i := k) (by rw [HN.out]; exact hlt); have hy := cel_at (x := y) (i := k) (by rw [HN2.out]; exact hlt)
      obtain ⟨b1, o1, rfl, e1⟩ := H1.out.get 3 rfl hx; obtain ⟨b2, o2, rfl, e2⟩ := H2.out.get 3 rfl hy; have f1 := range_below e1 hB; have f2 := range_below e2 hB; clear e1 e2
      obtain ⟨f, hf⟩ : ∃ f, cel x k = f := ⟨_, rfl⟩; obtain ⟨g, hg⟩ : ∃ f, cel y k = f := ⟨_, rfl⟩; rw [hf] at hx f1; rw [hg] at hy f2; clear hf hg; obtain ⟨K, Q, U⟩ := f; obtain ⟨K2, Q2, U2⟩ := g
      have f3 : wr.rangeAt b1 (o1 + k * 3) [.int .u32 K, .int .i64 Q, .bool U] := f1; have f4 : wr.rangeAt b2 (o2 + k * 3) [.int .u32 K2, .int .i64 Q2, .bool U2] := f2; clear f1 f2; have zf := lt_of_cell (f3 0 _ rfl); have zg := lt_of_cell (f4 0 _ rfl)
      have i0 : (0 : Int) ≤ (k : Int) := (by omega); have i1 : (k : Int) < (n : Int) := (by omega); have W1 : IntKind.i64.wrap ((k : Int) + 1) = ((k + 1 : Nat) : Int) := by rw [IntKind.wrap_i64]; omega
      go_upto_region 6 with fail
      by_cases he : (⟨K, Q, U⟩ : Cel) = ⟨K2, Q2, U2⟩
      case pos =>
        cases he; have HE2 : Hid (∀ j : Nat, j < k + 1 → x[j]? = y[j]?) := Lib.hid (fun j hj => by
          rcases Nat.lt_or_ge j k with g | g
          · exact HE.out j g
          · obtain rfl : j = k := by omega
            rw [hx, hy]); clear hx hy HE
        have EQ := fun (W : World) => eq_cel K K Q Q U U W; rw [eqc_t] at EQ
        have hB7 := hB; have hs7 := hs; clear hB hs
        refine wp_region_held_drew (S := fun W => W.rangeAt (b1) (o1 + k * 3) ([.int .u32 K, .int .i64 Q, .bool U]) ∧ W.rangeAt (b2) (o2 + k * 3) ([.int .u32 K, .int .i64 Q, .bool U])) (by kernel_rfl) (And.intro f3 f4) (fun _ => ?_)
        refine F_drew (F := fun W => wpAnyH _ _ _ _ _ _ _ _ W) ?_
        intro Ws0 hbs0
        clear hs7
        have c_p_s0 := range_below f3 hbs0
        have c_q_s0 := range_below f4 hbs0
        have Bs0 := below_thru hB7 hbs0
        clear f3 f4 hB7 hbs0
        refine takeH 0 17 (v := ?vs0_1) rfl (by rfl) (by kernel_rfl) (by kernel_rfl) (by kernel_rfl) (fun _ _ _ h => h) (Or.inl ⟨by rfl, ?_⟩) ((And.intro c_p_s0 c_q_s0)) ?_
        rotate_left
        · intro wq hSq
          go_simp
          exact rfl
        try simp only [Act.put, List.setIfInBounds_toArray, List.set_cons_zero, List.set_cons_succ]
        refine takeH 1 18 (v := ?vs1_2) rfl (by rfl) (by kernel_rfl) (by kernel_rfl) (by kernel_rfl) (fun _ _ _ h => h) (Or.inl ⟨by rfl, ?_⟩) ((And.intro c_p_s0 c_q_s0)) ?_
        rotate_left
        · intro wq hSq
          go_simp
          exact rfl
        try simp only [Act.put, List.setIfInBounds_toArray, List.set_cons_zero, List.set_cons_succ]
        refine takeH 2 19 (v := ?vs2_3) rfl (by rfl) (by kernel_rfl) (by kernel_rfl) (by kernel_rfl) (fun _ _ _ h => h) (Or.inl ⟨by rfl, ?_⟩) ((And.intro c_p_s0 c_q_s0)) ?_
        rotate_left
        · intro wq hSq
          go_simp
          exact rfl
        try simp only [Act.put, List.setIfInBounds_toArray, List.set_cons_zero, List.set_cons_succ]
        refine takeH 4 21 (v := ?vs4_4) rfl (by rfl) (by kernel_rfl) (by kernel_rfl) (by kernel_rfl) (fun _ _ _ h => h) (Or.inl ⟨by rfl, ?_⟩) ((And.intro c_p_s0 c_q_s0)) ?_
        rotate_left
        · intro wq hSq
          go_simp
          exact rfl
        try simp only [Act.put, List.setIfInBounds_toArray, List.set_cons_zero, List.set_cons_succ]
        refine takeH 5 22 (v := ?vs5_5) rfl (by rfl) (by kernel_rfl) (by kernel_rfl) (by kernel_rfl) (fun _ _ _ h => h) (Or.inl ⟨by rfl, ?_⟩) ((And.intro c_p_s0 c_q_s0)) ?_
        rotate_left
        · intro wq hSq
          go_simp
          exact rfl
        try simp only [Act.put, List.setIfInBounds_toArray, List.set_cons_zero, List.set_cons_succ]
        refine takeH 6 23 (v := ?vs6_6) rfl (by rfl) (by kernel_rfl) (by kernel_rfl) (by kernel_rfl) (fun _ _ _ h => h) (Or.inl ⟨by rfl, ?_⟩) ((And.intro c_p_s0 c_q_s0)) ?_
        rotate_left
        · intro wq hSq
          go_simp
          exact rfl
        try simp only [Act.put, List.setIfInBounds_toArray, List.set_cons_zero, List.set_cons_succ]
        refine takeH 3 20 (v := .agg ([.int .u32 K, .int .i64 Q, .bool U]).toArray) rfl (by rfl) (by kernel_rfl) (by kernel_rfl) (by kernel_rfl) (fun _ _ _ h => h) (yieldsIf_load_mid (by rfl) _ _ rfl _ _ rfl ([.int .u32 K, .int .i64 Q, .bool U]) _ (fun wq hq => hq.1) Try.underlying42 rfl (size_cel _ _ _)) ((And.intro c_p_s0 c_q_s0)) ?_
        try simp only [Act.put, List.setIfInBounds_toArray, List.set_cons_zero, List.set_cons_succ]
        refine takeH 7 24 (v := .agg ([.int .u32 K, .int .i64 Q, .bool U]).toArray) rfl (by rfl) (by kernel_rfl) (by kernel_rfl) (by kernel_rfl) (fun _ _ _ h => h) (yieldsIf_load_mid (by rfl) _ _ rfl _ _ rfl ([.int .u32 K, .int .i64 Q, .bool U]) _ (fun wq hq => hq.2) Try.underlying42 rfl (size_cel _ _ _)) ((And.intro c_p_s0 c_q_s0)) ?_
        try simp only [Act.put, List.setIfInBounds_toArray, List.set_cons_zero, List.set_cons_succ]
        refine takeH 8 25 (v := ?vs8_7) rfl (by rfl) (by kernel_rfl) (by kernel_rfl) (by kernel_rfl) (fun _ _ _ h => h) (Or.inl ⟨by rfl, ?_⟩) ((And.intro c_p_s0 c_q_s0)) ?_
        rotate_left
        · intro wq hSq
          go_simp
          exact rfl
        try simp only [Act.put, List.setIfInBounds_toArray, List.set_cons_zero, List.set_cons_succ]
        refine wpAnyH_done (by kernel_rfl) ?_ _
        go_wp2_with fail
        go_roundw
        case rel => exact ⟨k + 1, by omega, by go_num, HE2, Bs0⟩
        case measure => simp [intOf]; omega
      case neg =>
        have HX := Lib.hid (show false = b from (bool_eq12 HB.out (c := false) ⟨fun h => (Bool.false_ne_true h).elim, fun q => by
          rw [q, hy] at hx
          cases hx
          exact absurd rfl he⟩).symm); clear hx hy HE
        have EQ := fun (W : World) => eq_cel K K2 Q Q2 U U2 W; rw [eqc_f he] at EQ; clear he
        have hB7 := hB; have hs7 := hs; clear hB hs
        refine wp_region_held_drew (S := fun W => W.rangeAt (b1) (o1 + k * 3) ([.int .u32 K, .int .i64 Q, .bool U]) ∧ W.rangeAt (b2) (o2 + k * 3) ([.int .u32 K2, .int .i64 Q2, .bool U2])) (by kernel_rfl) (And.intro f3 f4) (fun _ => ?_)
        refine F_drew (F := fun W => wpAnyH _ _ _ _ _ _ _ _ W) ?_
        intro Wu0 hbu0
        clear hs7
        have c_p_u0 := range_below f3 hbu0
        have c_q_u0 := range_below f4 hbu0
        have Bu0 := below_thru hB7 hbu0
        clear f3 f4 hB7 hbu0
        refine takeH 0 17 (v := ?vu0_1) rfl (by rfl) (by kernel_rfl) (by kernel_rfl) (by kernel_rfl) (fun _ _ _ h => h) (Or.inl ⟨by rfl, ?_⟩) ((And.intro c_p_u0 c_q_u0)) ?_
        rotate_left
        · intro wq hSq
          go_simp
          exact rfl
        try simp only [Act.put, List.setIfInBounds_toArray, List.set_cons_zero, List.set_cons_succ]
        refine takeH 1 18 (v := ?vu1_2) rfl (by rfl) (by kernel_rfl) (by kernel_rfl) (by kernel_rfl) (fun _ _ _ h => h) (Or.inl ⟨by rfl, ?_⟩) ((And.intro c_p_u0 c_q_u0)) ?_
        rotate_left
        · intro wq hSq
          go_simp
          exact rfl
        try simp only [Act.put, List.setIfInBounds_toArray, List.set_cons_zero, List.set_cons_succ]
        refine takeH 2 19 (v := ?vu2_3) rfl (by rfl) (by kernel_rfl) (by kernel_rfl) (by kernel_rfl) (fun _ _ _ h => h) (Or.inl ⟨by rfl, ?_⟩) ((And.intro c_p_u0 c_q_u0)) ?_
        rotate_left
        · intro wq hSq
          go_simp
          exact rfl
        try simp only [Act.put, List.setIfInBounds_toArray, List.set_cons_zero, List.set_cons_succ]
        refine takeH 4 21 (v := ?vu4_4) rfl (by rfl) (by kernel_rfl) (by kernel_rfl) (by kernel_rfl) (fun _ _ _ h => h) (Or.inl ⟨by rfl, ?_⟩) ((And.intro c_p_u0 c_q_u0)) ?_
        rotate_left
        · intro wq hSq
          go_simp
          exact rfl
        try simp only [Act.put, List.setIfInBounds_toArray, List.set_cons_zero, List.set_cons_succ]
        refine takeH 5 22 (v := ?vu5_5) rfl (by rfl) (by kernel_rfl) (by kernel_rfl) (by kernel_rfl) (fun _ _ _ h => h) (Or.inl ⟨by rfl, ?_⟩) ((And.intro c_p_u0 c_q_u0)) ?_
        rotate_left
        · intro wq hSq
          go_simp
          exact rfl
        try simp only [Act.put, List.setIfInBounds_toArray, List.set_cons_zero, List.set_cons_succ]
        refine takeH 6 23 (v := ?vu6_6) rfl (by rfl) (by kernel_rfl) (by kernel_rfl) (by kernel_rfl) (fun _ _ _ h => h) (Or.inl ⟨by rfl, ?_⟩) ((And.intro c_p_u0 c_q_u0)) ?_
        rotate_left
        · intro wq hSq
          go_simp
          exact rfl
        try simp only [Act.put, List.setIfInBounds_toArray, List.set_cons_zero, List.set_cons_succ]
        refine takeH 3 20 (v := .agg ([.int .u32 K, .int .i64 Q, .bool U]).toArray) rfl (by rfl) (by kernel_rfl) (by kernel_rfl) (by kernel_rfl) (fun _ _ _ h => h) (yieldsIf_load_mid (by rfl) _ _ rfl _ _ rfl ([.int .u32 K, .int .i64 Q, .bool U]) _ (fun wq hq => hq.1) Try.underlying42 rfl (size_cel _ _ _)) ((And.intro c_p_u0 c_q_u0)) ?_
        try simp only [Act.put, List.setIfInBounds_toArray, List.set_cons_zero, List.set_cons_succ]
        refine takeH 7 24 (v := .agg ([.int .u32 K2, .int .i64 Q2, .bool U2]).toArray) rfl (by rfl) (by kernel_rfl) (by kernel_rfl) (by kernel_rfl) (fun _ _ _ h => h) (yieldsIf_load_mid (by rfl) _ _ rfl _ _ rfl ([.int .u32 K2, .int .i64 Q2, .bool U2]) _ (fun wq hq => hq.2) Try.underlying42 rfl (size_cel _ _ _)) ((And.intro c_p_u0 c_q_u0)) ?_
        try simp only [Act.put, List.setIfInBounds_toArray, List.set_cons_zero, List.set_cons_succ]
        refine takeH 8 25 (v := ?vu8_7) rfl (by rfl) (by kernel_rfl) (by kernel_rfl) (by kernel_rfl) (fun _ _ _ h => h) (Or.inl ⟨by rfl, ?_⟩) ((And.intro c_p_u0 c_q_u0)) ?_
        rotate_left
        · intro wq hSq
          go_simp
          exact rfl
        try simp only [Act.put, List.setIfInBounds_toArray, List.set_cons_zero, List.set_cons_succ]
        refine wpAnyH_done (by kernel_rfl) ?_ _
        go_wp2_with fail
        go_returns
        exact ⟨ret_b12 HX.out, Bu0⟩

theorem rsame_is {v u : Value} {x y : List Cel} {b : Bool} (h100 : x.length ≤ 100) (hb : b = true ↔ x = y) (w : World) (h1 : IsR LCel w v x) (h2 : IsR LCel w u y) : Calls Try.prog 21 #[v, u] w fun e w' => e = .returned (.bool b) ∧ Below w.heap.size w w' := by
  by_cases h : x.length = y.length
  · exact rsame_b h h100 hb w h1 h2
  · rw [bool_eq12 hb (c := false) ⟨fun h => (Bool.false_ne_true h).elim, fun e => absurd (congrArg List.length e) h⟩]
    exact rsame_a h w h1 h2


end Go.Proofs.Ytalfnmlbidohcaa
