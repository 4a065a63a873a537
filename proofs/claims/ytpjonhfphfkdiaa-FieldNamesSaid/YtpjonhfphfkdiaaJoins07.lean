/-
  FieldJoins, walked.
-/
import Derived.Test.YtpjonhfphfkdiaaAlive07
namespace Go.Proofs.Ytpjonhfphfkdiaa
open Go.RowKit

theorem fir_row {fs : List Fd} {rest : List Int} (h : rowE fs = 0) : firE (fs.map Fd.k) (rowB fs ++ rest) = 0 ∧ firF (fs.map Fd.k) (rowB fs ++ rest) = fs ∧ firR (fs.map Fd.k) (rowB fs ++ rest) = rest := by
  obtain ⟨hl, ho⟩ := rowE_zero h
  have hk : kinE (fs.map Fd.k) = 0 := kinE_ok (by rw [List.length_map]; exact hl) (fun k hk => by
    obtain ⟨f, hf, rfl⟩ := List.mem_map.1 hk
    have := ho f hf
    unfold Fd.ok at this
    simp only [Bool.and_eq_true, decide_eq_true_eq] at this
    exact this.1.1)
  exact fir_some hk ⟨rfl, ho, rfl⟩
theorem IsL.nilcap {w : World} {k : IntKind} {a : Option Addr} {n c : Nat} {xs : List Int} (h : IsL w k (.slice a n c) xs) : a = Option.none → c = 0 := by
  obtain ⟨a', c', e, _, h0⟩ := h
  injection e with e1 e2 e3
  subst e1 e3
  exact h0
theorem kinds_byts (fs : List Fd) : Byts (fs.map Fd.k) := fun x hx => by
  obtain ⟨f, _, rfl⟩ := List.mem_map.1 hx
  exact f.hk

set_option maxRecDepth 100000 in
set_option maxHeartbeats 3200000 in
theorem joins_is {v u : Value} {fs gs : List Fd} (w : World) (h1 : IsR LF w v fs) (h2 : IsR LF w u gs) : Calls Try.prog 7 #[v, u] w fun e w' => e = .returned (.bool true) ∧ Below w.heap.size w w' := by
  obtain ⟨a0, c0, rfl, hr⟩ := id h1
  have i1 := hr.room
  have i2 := hr.most
  obtain ⟨a1, c1, rfl, hr1⟩ := id h2
  have j1 := hr1.room
  have j2 := hr1.most
  clear hr hr1
  by_cases hl : 60 < fs.length
  · have d1 : decide ((60 : Int) < (fs.length : Int)) = true := decide_eq_true (by omega)
    clear hl h1 h2
    go_enter Try.func7, Try.ntmps7
    go_wp2_with fail
    refine (alive_is _).mono ?_
    rintro e w1 ⟨rfl, hb1⟩
    go_wp2_with fail
    go_returns
    exact ⟨rfl, hb1⟩
  have d1 : decide ((60 : Int) < (fs.length : Int)) = false := decide_eq_false (by omega)
  by_cases hm : 60 < gs.length
  · have d2 : decide ((60 : Int) < (gs.length : Int)) = true := decide_eq_true (by omega)
    clear hl hm h1 h2
    go_enter Try.func7, Try.ntmps7
    go_wp2_with fail
    refine (alive_is _).mono ?_
    rintro e w1 ⟨rfl, hb1⟩
    go_wp2_with fail
    go_returns
    exact ⟨rfl, hb1⟩
  have d2 : decide ((60 : Int) < (gs.length : Int)) = false := decide_eq_false (by omega)
  have HF := Lib.hid h1
  have HG := Lib.hid h2
  clear h1 h2
  have R1 := fun (W : World) (h : IsR LF W (.slice a0 fs.length c0) fs) => rrow_is W h
  have R2 := fun (W : World) (h : IsR LF W (.slice a1 gs.length c1) gs) => rrow_is W h
  by_cases q1 : rowE fs = 0
  case neg =>
    obtain ⟨r, hr⟩ : ∃ r, rowE fs = r := ⟨_, rfl⟩
    rw [hr] at R1 q1
    have d3 : (r != 0) = true := by simpa using q1
    clear hr q1 hl hm R2
    go_enter Try.func7, Try.ntmps7
    go_wp2_with fail
    refine (R1 _ HF.out).mono ?_
    rintro e w1 ⟨rfl, hb1⟩
    go_wp2_with fail
    refine (alive_is _).mono ?_
    rintro e w2 ⟨rfl, hb2⟩
    go_wp2_with fail
    go_returns
    exact ⟨rfl, below_thru hb1 hb2⟩
  case pos =>
    by_cases q2 : rowE gs = 0
    case neg =>
      obtain ⟨r, hr⟩ : ∃ r, rowE gs = r := ⟨_, rfl⟩
      rw [q1] at R1
      rw [hr] at R2 q2
      have d3 : (r != 0) = true := by simpa using q2
      clear hr q1 q2 hl hm
      go_enter Try.func7, Try.ntmps7
      go_wp2_with fail
      refine (R1 _ HF.out).mono ?_
      rintro e w1 ⟨rfl, hb1⟩
      go_wp2_with fail
      refine (R2 _ (HG.out.below hb1)).mono ?_
      rintro e w2 ⟨rfl, hb2⟩
      go_wp2_with fail
      refine (alive_is _).mono ?_
      rintro e w3 ⟨rfl, hb3⟩
      go_wp2_with fail
      go_returns
      exact ⟨rfl, below_thru (below_thru hb1 hb2) hb3⟩
    case pos =>
      have W1 := fun (W : World) (h : IsR LF W (.slice a0 fs.length c0) fs) => write_is W h
      have W2 := fun (W : World) (h : IsR LF W (.slice a1 gs.length c1) gs) => write_is W h
      rw [rowV_ok q1, q1] at W1
      rw [rowV_ok q2, q2] at W2
      rw [q1] at R1
      rw [q2] at R2
      have lf := (rowE_zero q1).1
      have lg := (rowE_zero q2).1
      have K := fun (W : World) (h : IsR LF W (.slice a0 fs.length c0) fs) => rkinds_is W h (by omega)
      have S := fun (W : World) (a b : Value) (h1 : IsR LF W a fs) (h2 : IsR LF W b fs) => rsame_is W h1 h2
      rw [show sameF fs fs = true from decide_eq_true rfl] at S
      have FI := fun (W : World) (a b : Value) (h1 : IsL W .u8 a (fs.map Fd.k)) (h2 : IsL W .u8 b (rowB fs ++ rowB gs)) => first_is W h1 h2 (kinds_byts fs) ((rowB_byts fs).append (rowB_byts gs)) (by rw [List.length_append]; have := rowB_le fs; have := rowB_le gs; omega)
      obtain ⟨e1, e2, e3⟩ := fir_row (rest := rowB gs) q1
      rw [e1, e2, e3] at FI
      have WB : ∀ (W : World) (a : Value), IsR LF W a (fs ++ gs) → fs.length + gs.length ≤ 40 → Calls Try.prog 11 #[a] W (GivesLE (rowB fs ++ rowB gs) 0 W) := fun W a h hl => by
        have q : rowE (fs ++ gs) = 0 := rowE_ok (by rw [List.length_append]; exact hl) (fun f hf => by
          rcases List.mem_append.1 hf with z | z
          · exact (rowE_zero q1).2 f z
          · exact (rowE_zero q2).2 f z)
        have := write_is W h
        rw [rowV_ok q, q, rowB_app] at this
        exact this
      have bf := rowB_le fs
      have bg := rowB_le gs
      obtain ⟨X, hX⟩ : ∃ X, rowB fs = X := ⟨_, rfl⟩
      obtain ⟨Y, hY⟩ : ∃ Y, rowB gs = Y := ⟨_, rfl⟩
      rw [hX] at W1 FI bf
      rw [hY] at W2 FI bg
      rw [hX, hY] at WB
      obtain ⟨ks, hks⟩ : ∃ ks, fs.map Fd.k = ks := ⟨_, rfl⟩
      rw [hks] at K FI
      have xl : X.length ≤ 1280 := by omega
      have yl : Y.length ≤ 1280 := by omega
      have HWB := Lib.hid WB
      obtain ⟨ti, hin, hz0, hz1, hz2⟩ := info_parts info_u8'
      obtain ⟨tf, hfn, hf0, hf1, hf2⟩ := info_parts info_fld
      clear q1 q2 e1 e2 e3 hX hY hks WB bf bg hl hm
      go_enter Try.func7, Try.ntmps7
      go_wp2_with fail
      refine (R1 _ HF.out).mono ?_
      rintro e w1 ⟨rfl, hb1⟩
      go_wp2_with fail
      refine (R2 _ (HG.out.below hb1)).mono ?_
      rintro e w2 ⟨rfl, hb2⟩
      have hB2 := below_thru hb1 hb2
      have F2 := Lib.hid (HF.out.below hB2)
      have G2 := Lib.hid (HG.out.below hB2)
      clear R1 R2 hb1 hb2 HF HG
      go_wp2_with fail
      refine (W1 _ F2.out).mono ?_
      rintro e w3 ⟨v3, rfl, hx3, hb3⟩
      have hB3 := below_thru hB2 hb3
      have F3 := Lib.hid (F2.out.below hb3)
      have G3 := Lib.hid (G2.out.below hb3)
      have X3 := Lib.hid hx3
      clear W1 hB2 F2 G2 hb3 hx3
      go_wp2_with fail
      refine (W2 _ G3.out).mono ?_
      rintro e w4 ⟨v4, rfl, hy4, hb4⟩
      have hB4 := below_thru hB3 hb4
      have F4 := Lib.hid (F3.out.below hb4)
      have G4 := Lib.hid (G3.out.below hb4)
      have X4 := Lib.hid (X3.out.below hb4)
      have Y4 := Lib.hid hy4
      have hs4 := hB4.size
      clear W2 hB3 F3 G3 X3 hb4 hy4
      obtain ⟨a4, c4, rfl, _, _⟩ := id Y4.out
      obtain ⟨a3, c3, rfl, _, _⟩ := id X4.out
      go_upto_region 8 with (first | (at_builtin; refine wpList_append_built rfl _ _ 33 rfl 5 ti (.int .u8 0) 1 .u8 Try.underlying33 hin hz0 hz1 hz2 rfl [] X _ (.slice a3 X.length c3) _ _ _ rfl rfl rfl rfl rfl rfl X4.out (by unfold maxLen; simp; omega) (by simp; omega) ?_; intro v5 w5 ho5 hb5) | (at_builtin; refine wpList_append_ints rfl _ _ 33 rfl w4.heap.size 5 ti (.int .u8 0) 1 .u8 Try.underlying33 hin hz0 hz1 hz2 rfl _ X.length _ rfl ho5 a4 c4 Y rfl (Y4.out.below hb5).ints (Y4.out.below hb5).nilcap (by unfold maxLen; omega) (by omega) hb5.size ?_; intro v6 w6 ho6 hg6))
      have hb6 : Below w4.heap.size w4 w6 := hb5.grown hg6 hb5.size (own_block ho5)
      have Z6 := Lib.hid (show IsL w6 .u8 v6 (X ++ Y) from IsL.own (by rw [List.map_append]; exact ho6) (by rw [List.length_append]))
      have hB6 := below_thru hB4 hb6
      have F6 := Lib.hid (F4.out.below hb6)
      have G6 := Lib.hid (G4.out.below hb6)
      have Y6 := Lib.hid (Y4.out.below hb6)
      clear ho5 hb5 ho6 hg6 hB4 F4 G4 X4 Y4 hb6 hs4
      go_wp2_with fail
      refine (K _ F6.out).mono ?_
      rintro e w7 ⟨v7, rfl, hk7, hb7⟩
      go_wp2_with fail
      refine (FI _ _ _ hk7 (Z6.out.below hb7)).mono ?_
      rintro e w8 ⟨v8, u8', rfl, ho8, hr8, hb8⟩
      have hg8 := below_thru hb7 hb8
      have hB8 := below_thru hB6 hg8
      have F8 := Lib.hid (F6.out.below hg8)
      have G8 := Lib.hid (G6.out.below hg8)
      have Y8 := Lib.hid (Y6.out.below hg8)
      have Z8 := Lib.hid (Z6.out.below hg8)
      have N8 := Lib.hid (IsR.own ho8 rfl rfl)
      have R8 := Lib.hid (IsL.own hr8 rfl)
      clear K FI hk7 hb7 ho8 hr8 hb8 hg8 hB6 F6 G6 Y6 Z6
      go_wp2_with fail
      refine (S _ _ _ N8.out F8.out).mono ?_
      rintro e w9 ⟨rfl, hb9⟩
      go_wp2_with fail
      refine (sameb_tt _ (R8.out.below hb9) (Y8.out.below hb9)).mono ?_
      rintro e x1 ⟨rfl, hb10⟩
      have hg10 := below_thru hb9 hb10
      have hB10 := below_thru hB8 hg10
      have F10 := Lib.hid (F8.out.below hg10)
      have G10 := Lib.hid (G8.out.below hg10)
      have Z10 := Lib.hid (Z8.out.below hg10)
      clear S N8 R8 hb9 hb10 hg10 hB8 F8 G8 Y8 Z8
      by_cases q : 40 < fs.length + gs.length
      · have d4 : decide ((40 : Int) < (fs.length : Int) + (gs.length : Int)) = true := decide_eq_true (by omega)
        clear q
        go_wp2_with fail
        refine (alive_is _).mono ?_
        rintro e x2 ⟨rfl, hb11⟩
        go_wp2_with fail
        go_returns
        exact ⟨rfl, below_thru hB10 hb11⟩
      · have d4 : decide ((40 : Int) < (fs.length : Int) + (gs.length : Int)) = false := decide_eq_false (by omega)
        have hq : fs.length + gs.length ≤ 40 := by omega
        clear q
        have hO := ownR_built (L := LF) (w := x1) (b := x1.heap.size) (n := 0) (m := 0) (s := 34) (c := #[]) (e := 30) [] rfl rfl rfl rfl rfl (by decide)
        have HO := Lib.hid hO
        have F11 := Lib.hid (F10.out.alloc (.cells #[] 30))
        have hs10 := hB10.size
        clear hO
        go_wp2_with (first | (at_builtin; refine wpList_append_rows rfl LF _ _ 32 rfl x1.heap.size 30 tf (.agg Fd.zero.v.toArray) 34 48 rfl Try.underlying32 hfn hf0 hf1 hf2 rfl _ 0 _ rfl HO.out _ fs rfl F11.out (by unfold maxLen; omega) (by omega) (by simp) ?_; intro v12 w12 ho12 hg12) | (at_builtin; refine wpList_append_rows rfl LF _ _ 32 rfl x1.heap.size 30 tf (.agg Fd.zero.v.toArray) 34 48 rfl Try.underlying32 hfn hf0 hf1 hf2 rfl _ (0 + fs.length) _ rfl ho12 _ gs rfl (IsR.below G10.out (((Below.refl x1.heap.size x1).alloc (Nat.le_refl _) _).grown hg12 (by simp) (ownR_block HO.out))) (by unfold maxLen; omega) (by omega) (((Below.refl x1.heap.size x1).alloc (Nat.le_refl _) _).grown hg12 (by simp) (ownR_block HO.out)).size ?_; intro v13 w13 ho13 hg13))
        have hb12 : Below x1.heap.size x1 w12 := ((Below.refl x1.heap.size x1).alloc (Nat.le_refl _) _).grown hg12 (by simp) (ownR_block HO.out)
        have hb13 : Below x1.heap.size x1 w13 := hb12.grown hg13 hb12.size (ownR_block ho12)
        have hv13 : IsR LF w13 v13 (fs ++ gs) := IsR.own (s := 34) (by rw [flatR_app]; exact ho13) rfl (by rw [List.length_append, Nat.zero_add])
        have HV := Lib.hid hv13
        have hB13 := below_thru hB10 hb13
        have Z13 := Lib.hid (Z10.out.below hb13)
        clear ho12 hg12 ho13 hg13 hb12 hb13 hv13 HO F11 F10 G10 Z10 hB10 hs10
        go_wp2_with fail
        refine (HWB.out _ _ HV.out hq).mono ?_
        rintro e w14 ⟨v14, rfl, hl14, hb14⟩
        have hB14 := below_thru hB13 hb14
        have Z14 := Lib.hid (Z13.out.below hb14)
        go_wp2_with fail
        refine (sameb_tt _ hl14 Z14.out).mono ?_
        rintro e w15 ⟨rfl, hb15⟩
        go_wp2_with fail
        refine (alive_is _).mono ?_
        rintro e w16 ⟨rfl, hb16⟩
        go_wp2_with fail
        go_returns
        exact ⟨rfl, below_thru (below_thru hB14 hb15) hb16⟩

end Go.Proofs.Ytpjonhfphfkdiaa
