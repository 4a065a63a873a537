/-
  The reference of layer 11, walked: Is, Key, Commands, Tenant, Token.
-/
import Derived.Test.YtofjpeplgagihaaDoorKyA
import Derived.Test.YtofjpeplgagihaaDoorGRT
import Derived.Test.YtofjpeplgagihaaDoorGRT
import Derived.Test.YtofjpeplgagihaaDoorGXQ
namespace Go.Proofs.YtofjpeplgagihaaDoor
open Go.RowKit

set_option maxRecDepth 100000 in
set_option maxHeartbeats 6400000 in
theorem ris_t {t p : Int} (d1 : decide (t < 16) = true) (d4 : decide (p ≤ 1000000) = true) (w : World) : Calls Tryd.prog 24 #[.int .u32 t, .int .u32 p] w fun e w' => e = .returned (.bool true) ∧ Below w.heap.size w w' := by
  go_enter Tryd.func24, Tryd.ntmps24
  have hB0 := Below.refl w.heap.size w
  have hs0 := hB0.size
  go_wp2_with fail
  go_returns
  exact ⟨rfl, hB0⟩

set_option maxRecDepth 100000 in
set_option maxHeartbeats 6400000 in
theorem ris_a {t p : Int} (d1 : decide (t < 16) = false) (w : World) : Calls Tryd.prog 24 #[.int .u32 t, .int .u32 p] w fun e w' => e = .returned (.bool false) ∧ Below w.heap.size w w' := by
  go_enter Tryd.func24, Tryd.ntmps24
  have hB0 := Below.refl w.heap.size w
  have hs0 := hB0.size
  go_wp2_with fail
  go_returns
  exact ⟨rfl, hB0⟩

set_option maxRecDepth 100000 in
set_option maxHeartbeats 6400000 in
theorem ris_b {t p : Int} (d1 : decide (t < 16) = true) (d4 : decide (p ≤ 1000000) = false) (w : World) : Calls Tryd.prog 24 #[.int .u32 t, .int .u32 p] w fun e w' => e = .returned (.bool false) ∧ Below w.heap.size w w' := by
  go_enter Tryd.func24, Tryd.ntmps24
  have hB0 := Below.refl w.heap.size w
  have hs0 := hB0.size
  go_wp2_with fail
  go_returns
  exact ⟨rfl, hB0⟩

theorem ris_is {t p : Int} {b : Bool} (h : b = true ↔ HasKey t p) (w : World) : Calls Tryd.prog 24 #[.int .u32 t, .int .u32 p] w fun e w' => e = .returned (.bool b) ∧ Below w.heap.size w w' := by
  by_cases g : HasKey t p
  · rw [h.2 g]
    exact ris_t (has_tt g).1 (has_tt g).2 w
  · rw [show b = false by cases b; rfl; exact absurd (h.1 rfl) g]
    rcases has_no g with h1 | ⟨h1, h2⟩
    · exact ris_a h1 w
    · exact ris_b h1 h2 w

set_option maxRecDepth 100000 in
set_option maxHeartbeats 6400000 in
theorem rkey_is {S : List Int} {t p : Int} (hS : S.length = 32) (hSb : Byts S) (ht : 0 ≤ t ∧ t ≤ 4294967295) (hp : 0 ≤ p ∧ p ≤ 4294967295) (w : World) : Calls Tryd.prog 34 #[(.agg (S.map (Value.int .u8)).toArray), .int .u32 t, .int .u32 p] w fun e w' => e = .returned (.agg ((tkeyL S t p).map (Value.int .u8)).toArray) ∧ Below w.heap.size w w' := by
  obtain ⟨ti, hin, hz0, hz1, hz2⟩ := info_parts info_u8'
  have wt : IntKind.u64.wrap t = t := by rw [IntKind.wrap_u64]; omega
  have we : IntKind.u64.wrap p = p := by rw [IntKind.wrap_u64]; omega
  have BT := fun W => rbytes_own t 4 W ht.1 (by omega) (by omega); have BP := fun W => rbytes_own p 4 W hp.1 (by omega) (by omega); have LT := Lib.hid (be_len 4 t); have LP := Lib.hid (be_len 4 p)
  have IK := Lib.hid (fun (W : World) (b : Nat) (h : Box W b (S.map (Value.int .u8))) => IsL.boxed 32 hS h (by omega))
  obtain ⟨E, hE⟩ : ∃ X, (tkeyL S t p).map (Value.int .u8) = X := ⟨_, rfl⟩
  have eM : (107 :: be 4 t) ++ be 4 p = keyMsg t p := rfl
  have A : ∀ (W : World) (a b : Value), IsL W .u8 a S → IsL W .u8 b (keyMsg t p) → Calls Tryd.prog 36 #[a, b] W fun e w' => e = .returned (.agg E.toArray) ∧ Below W.heap.size W w' := by rw [← hE]; exact fun W a b h1 h2 => rtag_is (D := tkeyL S t p) W (Lib.hid h1) (Lib.hid h2) (by rw [hS]; omega) (by rw [keyMsg_len]; decide) (Lib.hid hSb.l) (Lib.hid (keyMsg_byts t p).l) (Lib.hid rfl)
  have SK := Lib.hid (size_dig hS); have LK := Lib.hid (len_dig hS); have OK := Lib.hid (oneCell_ints (k := .u8) S)
  have SD := Lib.hid (size_dig (tkeyL_len S t p)); have LD := Lib.hid (len_dig (tkeyL_len S t p)); have OD := Lib.hid (oneCell_ints (k := .u8) (tkeyL S t p))
  rw [hE] at SD LD OD ⊢
  have M9 := Lib.hid (keyMsg_len t p)
  obtain ⟨M, hM⟩ : ∃ X, keyMsg t p = X := ⟨_, rfl⟩
  rw [hM] at eM A M9
  clear hM
  obtain ⟨B1, hB1⟩ : ∃ X, be 4 t = X := ⟨_, rfl⟩
  rw [hB1] at BT LT eM
  clear hB1
  obtain ⟨B2, hB2⟩ : ∃ X, be 4 p = X := ⟨_, rfl⟩
  rw [hB2] at BP LP eM
  clear hB2
  have HQ1 : [Value.int .u8 107] ++ B1.map (Value.int .u8) = (107 :: B1).map (Value.int .u8) := rfl
  obtain ⟨Q1, hQ1⟩ : ∃ X, 107 :: B1 = X := ⟨_, rfl⟩
  rw [hQ1] at HQ1 eM
  clear hQ1
  replace HQ1 := Lib.hid HQ1
  have HQ2 : Hid (Q1.map (Value.int .u8) ++ B2.map (Value.int .u8) = M.map (Value.int .u8)) := Lib.hid (by rw [← eM, List.map_append])
  obtain ⟨C, hC⟩ : ∃ X, S.map (Value.int .u8) = X := ⟨_, rfl⟩
  rw [hC] at SK IK ⊢
  clear hC
  clear hS hSb ht hp hE eM
  go_enter Tryd.func34, Tryd.ntmps34
  go_upto_region 1 with fail
  refine F_gen (F := fun W => Code.wp _ _ _ _ W) (J := fun W => Box W (w.heap.size) (C) ∧ Box W (w.heap.size + 1) (zero32) ∧ Below w.heap.size w W) (And.intro (Box.alloc (Box.newc rfl rfl) _) (And.intro (Box.newc rfl (by simp)) (by go_grown))) ?_
  intro w0 ⟨e_k, e_r, hB0⟩
  have hs0 := hB0.size
  have x_k0 := e_k; clear e_k
  have x_r0 := e_r; clear e_r
  have zz : w.heap.size + 2 ≤ w0.heap.size := by have := (x_r0).lt; omega
  have HOA : (w0.alloc (.cells #[.int .u8 107] 5)).ownsRow (w.heap.size + 2) 5 1 (.slice (some ⟨w0.heap.size, 0, none⟩) 1 1) 1 [.int .u8 107] := World.ownsRow_lit (base := w.heap.size + 2) (size := 1) w0 #[.int .u8 107] 1 zz (by unfold maxLen; omega) rfl
  go_wp2_with fail
  refine (BT _).mono ?_
  rintro e w1 ⟨vt, rfl, hot, hb⟩
  have O1 := ownR_below HOA hb; have hN : Below w0.heap.size w0 w1 := below_thru ((Below.refl _ _).alloc (Nat.le_refl _) _) hb
  clear HOA hb zz
  have hB1 : Below w.heap.size w w1 := below_thru hB0 hN
  have hs1 := hB1.size
  have x_k1 : Box w1 (w.heap.size) (C) := Box.below x_k0 hN
  have x_r1 : Box w1 (w.heap.size + 1) (zero32) := Box.below x_r0 hN
  clear hB0 hs0 x_k0 x_r0
  clear hN
  have hT := IsL.own hot rfl
  obtain ⟨at1, ct1, rfl, iT, zT⟩ := hT
  clear hot
  have zz1 : w.heap.size + 2 ≤ w1.heap.size := by have := (x_r1).lt; omega
  go_upto_region 2 with (at_builtin; refine wpList_append_ints rfl _ _ 62 rfl (w.heap.size + 2) 5 ti _ 1 .u8 Tryd.underlying62 hin hz0 hz1 hz2 rfl _ 1 _ rfl O1 at1 ct1 B1 rfl iT zT (by unfold maxLen; rw [LT.out]; decide) (by rw [LT.out]; decide) zz1 ?_; intro v4 w4 hown4 hgrow4)
  have hKB := (Below.refl (w.heap.size + 2) _).grown hgrow4 zz1 (ownR_block O1)
  have x_k2 : Box w4 (w.heap.size) (C) := Box.keepR x_k1 hKB (by omega)
  have x_r2 : Box w4 (w.heap.size + 1) (zero32) := Box.keepR x_r1 hKB (by omega)
  have hB2 := (hB1).trans (hKB.mono (by omega)); have hs2 := hB2.size
  rw [LT.out, HQ1.out] at hown4
  have O_m2 := Lib.hid hown4
  clear hown4 hgrow4 hKB O1 iT zT zz1 x_k1 x_r1 hB1 hs1
  refine wp_region_held_drew (S := fun W => Box W (w.heap.size) (C)) (by kernel_rfl) (x_k2).drew (fun _ => ?_)
  refine F_drew (F := fun W => wpAnyH _ _ _ _ _ _ _ _ W) ?_
  intro Ws0 hbs0
  clear hs2
  have x_k_s0 : Box Ws0 (w.heap.size) (C) := Box.below x_k2 hbs0
  have z_r_s0 : Box Ws0 (w.heap.size + 1) (zero32) := Box.below x_r2 hbs0
  have o_m_s0 := Lib.hid (ownR_below O_m2.out hbs0)
  have Bs0 := below_thru hB2 hbs0
  clear x_k2 x_r2 O_m2 hB2 hbs0
  refine takeH 0 13 (v := ?vs0_1) rfl (by rfl) (by kernel_rfl) (by kernel_rfl) (by kernel_rfl) (fun _ _ _ h => h) (Or.inl ⟨by rfl, ?_⟩) (x_k_s0) ?_
  rotate_left
  · intro wq hSq
    go_simp
    exact rfl
  try simp only [Act.put, List.setIfInBounds_toArray, List.set_cons_zero, List.set_cons_succ]
  refine takeH 1 14 (v := ?vs1_2) rfl (by rfl) (by kernel_rfl) (by kernel_rfl) (by kernel_rfl) (fun _ _ _ h => h) (Or.inl ⟨by rfl, ?_⟩) (x_k_s0) ?_
  rotate_left
  · intro wq hSq
    go_simp
    exact rfl
  try simp only [Act.put, List.setIfInBounds_toArray, List.set_cons_zero, List.set_cons_succ]
  refine takeH 2 15 (v := ?vs2_3) rfl (by rfl) (by kernel_rfl) (by kernel_rfl) (by kernel_rfl) (fun _ _ _ h => h) (Or.inl ⟨by rfl, ?_⟩) (x_k_s0) ?_
  rotate_left
  · intro wq hSq
    go_simp
    exact rfl
  try simp only [Act.put, List.setIfInBounds_toArray, List.set_cons_zero, List.set_cons_succ]
  refine takeH 3 16 (v := ?vs3_4) rfl (by rfl) (by kernel_rfl) (by kernel_rfl) (by kernel_rfl) (fun _ _ _ h => h) (Or.inl ⟨by rfl, ?_⟩) (x_k_s0) ?_
  rotate_left
  · intro wq hSq
    go_simp
    exact rfl
  try simp only [Act.put, List.setIfInBounds_toArray, List.set_cons_zero, List.set_cons_succ]
  refine wpAnyH_ready (rs := [4]) (by kernel_rfl) (by simp) (AllReadyH.cons rfl (fun K hK => ?_) AllReadyH.nil)
  go_simp
  refine (BP _).mono ?_
  rintro e Ws5 ⟨vb, rfl, hob, hbs5⟩
  have x_k_s5 : Box Ws5 (w.heap.size) (C) := Box.below x_k_s0 hbs5
  have z_r_s5 : Box Ws5 (w.heap.size + 1) (zero32) := Box.below z_r_s0 hbs5
  have o_m_s5 := Lib.hid (ownR_below o_m_s0.out hbs5)
  have Bs5 := below_thru Bs0 hbs5
  clear x_k_s0 z_r_s0 o_m_s0 Bs0 hbs5
  have j_b_s906 : Hid (IsL Ws5 .u8 (vb) (B2)) := Lib.hid (IsL.own hob rfl)
  clear hob
  refine hK.out _ _ x_k_s5 (fun _ => ?_); clear hK K
  refine wpAnyH_ready (rs := [5]) (by kernel_rfl) (by simp) (AllReadyH.cons rfl (fun K hK => ?_) AllReadyH.nil)
  have zz7 : w.heap.size + 2 ≤ Ws5.heap.size := (by have := (z_r_s5).lt; omega)
  refine step_append_intsG 18 rfl rfl _ _ 62 rfl (w.heap.size + 2) 5 ti _ 1 .u8 Tryd.underlying62 hin hz0 hz1 hz2 rfl _ (1 + 4) _ rfl o_m_s5.out _ (B2) rfl j_b_s906.out (by unfold maxLen; rw [LP.out]; decide) (by rw [LP.out]; decide) zz7 ?_
  intro vs7 Ws7 hown hgr
  have hKB := (Below.refl (w.heap.size + 2) _).grown hgr zz7 (ownR_block o_m_s5.out)
  have x_k_s7 : Box Ws7 (w.heap.size) (C) := Box.keepR x_k_s5 hKB (by omega)
  have z_r_s7 : Box Ws7 (w.heap.size + 1) (zero32) := Box.keepR z_r_s5 hKB (by omega)
  rw [LP.out, HQ2.out] at hown
  have o_m_s7 := Lib.hid hown
  have Bs7 := (Bs5).trans (hKB.mono (by omega))
  clear x_k_s5 z_r_s5 o_m_s5 j_b_s906 Bs5 hown hgr hKB zz7
  refine hK.out _ _ x_k_s7 (fun _ => ?_); clear hK K
  refine wpAnyH_ready (rs := [6]) (by kernel_rfl) (by simp) (AllReadyH.cons rfl (fun K hK => ?_) AllReadyH.nil)
  go_simp
  refine (A _ _ _ (IK.out _ _ x_k_s7) (IsL.own o_m_s7.out M9.out.symm)).mono ?_
  rintro e Ws8 ⟨rfl, hbs8⟩
  have x_k_s8 : Box Ws8 (w.heap.size) (C) := Box.below x_k_s7 hbs8
  have z_r_s8 : Box Ws8 (w.heap.size + 1) (zero32) := Box.below z_r_s7 hbs8
  have o_m_s8 := Lib.hid (ownR_below o_m_s7.out hbs8)
  have Bs8 := below_thru Bs7 hbs8
  clear x_k_s7 z_r_s7 o_m_s7 Bs7 hbs8
  refine hK.out _ _ x_k_s8 (fun _ => ?_); clear hK K
  refine wpAnyH_ready (rs := [7]) (by kernel_rfl) (by simp) (AllReadyH.cons rfl (fun K hK => ?_) AllReadyH.nil)
  have nz_k := (x_k_s8).lt
  refine step_store_box0 (cs := E) rfl rfl _ _ _ rfl z_r_s8 rfl rfl SD.out LD.out OD.out ?_
  intro Ws9 hWs9
  have x_k_s9 : Box Ws9 (w.heap.size) (C) := hWs9.past _ _ (by omega) x_k_s8
  have z_r_s9 := hWs9.box
  have Bs9 := hWs9.below _ _ (by omega) Bs8
  clear nz_k x_k_s8 z_r_s8 Bs8 hWs9
  refine hK.out _ _ x_k_s9 (fun _ => ?_); clear hK K
  refine wpAnyH_done (by kernel_rfl) ?_ _
  go_wp2_with fail
  exact bodyPost_ret (results_box Tryd.results34 z_r_s9 rfl Tryd.underlying23 rfl SD.out) rfl ⟨rfl, Bs9⟩

set_option maxRecDepth 100000 in
set_option maxHeartbeats 6400000 in
theorem rord_is {S : List Int} (hS : S.length = 32) (hSb : Byts S) (w : World) : Calls Tryd.prog 19 #[(.agg (S.map (Value.int .u8)).toArray)] w fun e w' => e = .returned (.agg ((ordL S).map (Value.int .u8)).toArray) ∧ Below w.heap.size w w' := by
  have IK := Lib.hid (fun (W : World) (b : Nat) (h : Box W b (S.map (Value.int .u8))) => IsL.boxed 32 hS h (by omega))
  obtain ⟨E, hE⟩ : ∃ X, (ordL S).map (Value.int .u8) = X := ⟨_, rfl⟩
  have A : ∀ (W : World) (a b : Value), IsL W .u8 a S → IsL W .u8 b [97] → Calls Tryd.prog 36 #[a, b] W fun e w' => e = .returned (.agg E.toArray) ∧ Below W.heap.size W w' := by rw [← hE]; exact fun W a b h1 h2 => rtag_is (D := ordL S) W (Lib.hid h1) (Lib.hid h2) (by rw [hS]; omega) (by decide) (Lib.hid hSb.l) (Lib.hid byts97.l) (Lib.hid rfl)
  have SK := Lib.hid (size_dig hS); have LK := Lib.hid (len_dig hS); have OK := Lib.hid (oneCell_ints (k := .u8) S)
  have SD := Lib.hid (size_dig (ordL_len S)); have LD := Lib.hid (len_dig (ordL_len S)); have OD := Lib.hid (oneCell_ints (k := .u8) (ordL S))
  rw [hE] at SD LD OD ⊢
  obtain ⟨C, hC⟩ : ∃ X, S.map (Value.int .u8) = X := ⟨_, rfl⟩
  rw [hC] at SK IK ⊢
  clear hC
  clear hS hSb hE
  go_enter Tryd.func19, Tryd.ntmps19
  go_upto_region 1 with fail
  refine F_gen (F := fun W => Code.wp _ _ _ _ W) (J := fun W => Box W (w.heap.size) (C) ∧ Box W (w.heap.size + 1) (zero32) ∧ Below w.heap.size w W) (And.intro (Box.alloc (Box.newc rfl rfl) _) (And.intro (Box.newc rfl (by simp)) (by go_grown))) ?_
  intro w0 ⟨e_k, e_r, hB0⟩
  have hs0 := hB0.size
  have x_k0 := e_k; clear e_k
  have x_r0 := e_r; clear e_r
  have LB : IsL (w0.alloc (.cells #[.int .u8 97] 5)) .u8 (.slice (some ⟨w0.heap.size, 0, none⟩) 1 1) [97] := IsL.built [97] rfl rfl rfl rfl (by simp)
  go_wp2_with fail
  refine (A _ _ _ (IK.out _ _ (x_k0.alloc _)) LB).mono ?_
  rintro e w1 ⟨rfl, hb⟩
  have hN : Below w0.heap.size w0 w1 := below_thru ((Below.refl _ _).alloc (Nat.le_refl _) _) hb
  clear hb LB
  have hB1 : Below w.heap.size w w1 := below_thru hB0 hN
  have hs1 := hB1.size
  have x_k1 : Box w1 (w.heap.size) (C) := Box.below x_k0 hN
  have x_r1 : Box w1 (w.heap.size + 1) (zero32) := Box.below x_r0 hN
  clear hB0 hs0 x_k0 x_r0
  clear hN
  have lq := (x_r1).lt
  go_wp2_with (first | (refine wpList_store_box (cs := E) rfl _ _ _ rfl x_r1 rfl rfl SD.out LD.out OD.out ?_; intro W99 hW99))
  exact bodyPost_ret (results_box Tryd.results19 hW99.box rfl Tryd.underlying23 rfl SD.out) rfl ⟨rfl, hW99.below _ _ (by omega) hB1⟩

set_option maxRecDepth 100000 in
set_option maxHeartbeats 6400000 in
theorem rten_t {S : List Int} {t p : Int} (hS : S.length = 32) (hSb : Byts S) (ht : 0 ≤ t ∧ t ≤ 4294967295) (hp : 0 ≤ p ∧ p ≤ 4294967295) (h : HasKey t p) (w : World) : Calls Tryd.prog 16 #[(.agg (S.map (Value.int .u8)).toArray), .int .u32 t, .int .u32 p] w fun e w' => e = .returned (.tuple #[(.agg ((tkeyL S t p).map (Value.int .u8)).toArray), .int .i64 0]) ∧ Below w.heap.size w w' := by
  have I := fun W => ris_is (b := true) (⟨fun _ => h, fun _ => rfl⟩) W
  have SK := Lib.hid (size_dig hS); have LK := Lib.hid (len_dig hS); have OK := Lib.hid (oneCell_ints (k := .u8) S)
  have A := fun (W : World) => rkey_is hS hSb ht hp W
  have SD := Lib.hid (size_dig (tkeyL_len S t p)); have LD := Lib.hid (len_dig (tkeyL_len S t p)); have OD := Lib.hid (oneCell_ints (k := .u8) (tkeyL S t p))
  obtain ⟨D, hD⟩ : ∃ X, (tkeyL S t p).map (Value.int .u8) = X := ⟨_, rfl⟩
  rw [hD] at SD LD OD A ⊢
  clear hD
  obtain ⟨C, hC⟩ : ∃ X, S.map (Value.int .u8) = X := ⟨_, rfl⟩
  rw [hC] at SK A ⊢
  clear hC
  clear hS h hSb ht hp
  go_enter Tryd.func16, Tryd.ntmps16
  go_upto_region 1 with fail
  refine F_gen (F := fun W => Code.wp _ _ _ _ W) (J := fun W => Box W (w.heap.size) (C) ∧ Box W (w.heap.size + 1) (zero32) ∧ Below w.heap.size w W) (And.intro (Box.alloc (Box.newc rfl rfl) _) (And.intro (Box.newc rfl (by simp)) (by go_grown))) ?_
  intro w0 ⟨e_k, e_r, hB0⟩
  have hs0 := hB0.size
  have x_k0 := e_k; clear e_k
  have x_r0 := e_r; clear e_r
  go_wp2_with fail
  refine (I _).mono ?_
  rintro e w1 ⟨rfl, hb⟩
  have hB1 : Below w.heap.size w w1 := below_thru hB0 hb
  have hs1 := hB1.size
  have x_k1 : Box w1 (w.heap.size) (C) := Box.below x_k0 hb
  have x_r1 : Box w1 (w.heap.size + 1) (zero32) := Box.below x_r0 hb
  clear hB0 hs0 x_k0 x_r0
  clear hb
  go_wp2_with (refine wpList_load_box9 rfl _ _ rfl x_k1 rfl Tryd.underlying23 rfl SK.out ?_)
  refine (A _).mono ?_
  rintro e w2 ⟨rfl, hb⟩
  have hB2 : Below w.heap.size w w2 := below_thru hB1 hb
  have hs2 := hB2.size
  have x_k2 : Box w2 (w.heap.size) (C) := Box.below x_k1 hb
  have x_r2 : Box w2 (w.heap.size + 1) (zero32) := Box.below x_r1 hb
  clear hB1 hs1 x_k1 x_r1
  clear hb
  have lq := (x_r2).lt
  go_wp2_with (first | (refine wpList_store_box (cs := D) rfl _ _ _ rfl x_r2 rfl rfl SD.out LD.out OD.out ?_; intro W99 hW99))
  exact bodyPost_ret (results_box2 Tryd.results16 hW99.box rfl rfl Tryd.underlying23 rfl SD.out) rfl ⟨rfl, hW99.below _ _ (by omega) hB2⟩

set_option maxRecDepth 100000 in
set_option maxHeartbeats 6400000 in
theorem rten_f {S : List Int} {t p : Int} (hS : S.length = 32)    (h : ¬ HasKey t p) (w : World) : Calls Tryd.prog 16 #[(.agg (S.map (Value.int .u8)).toArray), .int .u32 t, .int .u32 p] w fun e w' => e = .returned (.tuple #[(.agg (zeroD.map (Value.int .u8)).toArray), .int .i64 2]) ∧ Below w.heap.size w w' := by
  have I := fun W => ris_is (b := false) (⟨fun g => (Bool.false_ne_true g).elim, fun g => absurd g h⟩) W
  have SK := Lib.hid (size_dig hS); have LK := Lib.hid (len_dig hS); have OK := Lib.hid (oneCell_ints (k := .u8) S)
  have SD := Lib.hid (size_dig zd32); have LD := Lib.hid (len_dig zd32); have OD := Lib.hid (oneCell_ints (k := .u8) zeroD)
  have BZ := fun W => build_d0 W
  obtain ⟨D, hD⟩ : ∃ X, zeroD.map (Value.int .u8) = X := ⟨_, rfl⟩
  rw [hD] at SD LD OD BZ ⊢
  clear hD
  obtain ⟨C, hC⟩ : ∃ X, S.map (Value.int .u8) = X := ⟨_, rfl⟩
  rw [hC] at SK ⊢
  clear hC
  clear hS h
  go_enter Tryd.func16, Tryd.ntmps16
  go_upto_region 1 with fail
  refine F_gen (F := fun W => Code.wp _ _ _ _ W) (J := fun W => Box W (w.heap.size) (C) ∧ Box W (w.heap.size + 1) (zero32) ∧ Below w.heap.size w W) (And.intro (Box.alloc (Box.newc rfl rfl) _) (And.intro (Box.newc rfl (by simp)) (by go_grown))) ?_
  intro w0 ⟨e_k, e_r, hB0⟩
  have hs0 := hB0.size
  have x_k0 := e_k; clear e_k
  have x_r0 := e_r; clear e_r
  go_wp2_with fail
  refine (I _).mono ?_
  rintro e w1 ⟨rfl, hb⟩
  have hB1 : Below w.heap.size w w1 := below_thru hB0 hb
  have hs1 := hB1.size
  have x_k1 : Box w1 (w.heap.size) (C) := Box.below x_k0 hb
  have x_r1 : Box w1 (w.heap.size + 1) (zero32) := Box.below x_r0 hb
  clear hB0 hs0 x_k0 x_r0
  clear hb
  have lq := (x_r1).lt
  go_wp2_with (first | (refine wpList_build9 rfl 23 _ rfl (us := #[]) (by rfl) (BZ _) ?_) | (refine wpList_store_box (cs := D) rfl _ _ _ rfl x_r1 rfl rfl SD.out LD.out OD.out ?_; intro W99 hW99))
  exact bodyPost_ret (results_box2 Tryd.results16 hW99.box rfl rfl Tryd.underlying23 rfl SD.out) rfl ⟨rfl, hW99.below _ _ (by omega) hB1⟩

set_option maxRecDepth 100000 in
set_option maxHeartbeats 6400000 in
theorem rtok_t {S : List Int} (k : Nums) (hS : S.length = 32) (hSb : Byts S) (h : HasKey k.t k.e) (w : World) : Calls Tryd.prog 17 #[(.agg (S.map (Value.int .u8)).toArray), .int .u32 k.t, .int .u32 k.u, .int .u32 k.e, .int .u64 k.x] w fun e w' => e = .returned (.tuple #[(.agg (tcell k (minted S k)).toArray), .int .i64 0]) ∧ Below w.heap.size w w' := by
  have I := fun W => ris_is (b := true) (⟨fun _ => h, fun _ => rfl⟩) W
  have SK := Lib.hid (size_dig hS); have LK := Lib.hid (len_dig hS); have OK := Lib.hid (oneCell_ints (k := .u8) S)
  have A := fun (W : World) => rkey_is hS hSb k.ht k.he W
  have B := fun (W : World) => rmint_is (D := minted S k) k (tkeyL_len S k.t k.e) (tkeyL_byts S k.t k.e) (Lib.hid rfl) W
  have SV := Lib.hid (size_tok k (minted_len S k)); have LV : Hid (zeroTk.length = (tcell k (minted S k)).length) := Lib.hid (len_tok Nums.zero k zd32 (minted_len S k)); have OV := Lib.hid (tcell_one k (minted S k))
  obtain ⟨V, hV⟩ : ∃ X, tcell k (minted S k) = X := ⟨_, rfl⟩
  rw [hV] at B SV LV OV ⊢
  clear hV
  obtain ⟨D, hD⟩ : ∃ X, (tkeyL S k.t k.e).map (Value.int .u8) = X := ⟨_, rfl⟩
  rw [hD] at A B
  clear hD
  obtain ⟨C, hC⟩ : ∃ X, S.map (Value.int .u8) = X := ⟨_, rfl⟩
  rw [hC] at SK A ⊢
  clear hC
  clear hS h hSb
  go_enter Tryd.func17, Tryd.ntmps17
  go_upto_region 1 with fail
  refine F_gen (F := fun W => Code.wp _ _ _ _ W) (J := fun W => Box W (w.heap.size) (C) ∧ Box W (w.heap.size + 1) (zeroTk) ∧ Below w.heap.size w W) (And.intro (Box.alloc (Box.newc rfl rfl) _) (And.intro (Box.newc rfl (by simp)) (by go_grown))) ?_
  intro w0 ⟨e_k, e_r, hB0⟩
  have hs0 := hB0.size
  have x_k0 := e_k; clear e_k
  have x_r0 := e_r; clear e_r
  go_wp2_with fail
  refine (I _).mono ?_
  rintro e w1 ⟨rfl, hb⟩
  have hB1 : Below w.heap.size w w1 := below_thru hB0 hb
  have hs1 := hB1.size
  have x_k1 : Box w1 (w.heap.size) (C) := Box.below x_k0 hb
  have x_r1 : Box w1 (w.heap.size + 1) (zeroTk) := Box.below x_r0 hb
  clear hB0 hs0 x_k0 x_r0
  clear hb
  go_wp2_with (refine wpList_load_box9 rfl _ _ rfl x_k1 rfl Tryd.underlying23 rfl SK.out ?_)
  refine (A _).mono ?_
  rintro e w2 ⟨rfl, hb⟩
  have hB2 : Below w.heap.size w w2 := below_thru hB1 hb
  have hs2 := hB2.size
  have x_k2 : Box w2 (w.heap.size) (C) := Box.below x_k1 hb
  have x_r2 : Box w2 (w.heap.size + 1) (zeroTk) := Box.below x_r1 hb
  clear hB1 hs1 x_k1 x_r1
  clear hb
  go_wp2_with fail
  refine (B _).mono ?_
  rintro e w3 ⟨rfl, hb⟩
  have hB3 : Below w.heap.size w w3 := below_thru hB2 hb
  have hs3 := hB3.size
  have x_k3 : Box w3 (w.heap.size) (C) := Box.below x_k2 hb
  have x_r3 : Box w3 (w.heap.size + 1) (zeroTk) := Box.below x_r2 hb
  clear hB2 hs2 x_k2 x_r2
  clear hb
  have lq := (x_r3).lt
  go_wp2_with (first | (refine wpList_store_box (cs := V) rfl _ _ _ rfl x_r3 rfl rfl SV.out LV.out OV.out ?_; intro W99 hW99))
  exact bodyPost_ret (results_box2 Tryd.results17 hW99.box rfl rfl Tryd.underlying30 rfl SV.out) rfl ⟨rfl, hW99.below _ _ (by omega) hB3⟩

set_option maxRecDepth 100000 in
set_option maxHeartbeats 6400000 in
theorem rtok_f {S : List Int} (k : Nums) (hS : S.length = 32)  (h : ¬ HasKey k.t k.e) (w : World) : Calls Tryd.prog 17 #[(.agg (S.map (Value.int .u8)).toArray), .int .u32 k.t, .int .u32 k.u, .int .u32 k.e, .int .u64 k.x] w fun e w' => e = .returned (.tuple #[(.agg zeroTk.toArray), .int .i64 2]) ∧ Below w.heap.size w w' := by
  have I := fun W => ris_is (b := false) (⟨fun g => (Bool.false_ne_true g).elim, fun g => absurd g h⟩) W
  have SK := Lib.hid (size_dig hS); have LK := Lib.hid (len_dig hS); have OK := Lib.hid (oneCell_ints (k := .u8) S)
  have BT := fun W => build_t0 W; have SV : Hid ((Tryd.prog.info? 30).map (·.size) = some zeroTk.length) := Lib.hid (size_tok Nums.zero zd32); have OV : Hid (zeroTk.toArray.all (·.oneCell') = true) := Lib.hid (tcell_one Nums.zero zeroD)
  obtain ⟨C, hC⟩ : ∃ X, S.map (Value.int .u8) = X := ⟨_, rfl⟩
  rw [hC] at SK ⊢
  clear hC
  clear hS h
  go_enter Tryd.func17, Tryd.ntmps17
  go_upto_region 1 with fail
  refine F_gen (F := fun W => Code.wp _ _ _ _ W) (J := fun W => Box W (w.heap.size) (C) ∧ Box W (w.heap.size + 1) (zeroTk) ∧ Below w.heap.size w W) (And.intro (Box.alloc (Box.newc rfl rfl) _) (And.intro (Box.newc rfl (by simp)) (by go_grown))) ?_
  intro w0 ⟨e_k, e_r, hB0⟩
  have hs0 := hB0.size
  have x_k0 := e_k; clear e_k
  have x_r0 := e_r; clear e_r
  go_wp2_with fail
  refine (I _).mono ?_
  rintro e w1 ⟨rfl, hb⟩
  have hB1 : Below w.heap.size w w1 := below_thru hB0 hb
  have hs1 := hB1.size
  have x_k1 : Box w1 (w.heap.size) (C) := Box.below x_k0 hb
  have x_r1 : Box w1 (w.heap.size + 1) (zeroTk) := Box.below x_r0 hb
  clear hB0 hs0 x_k0 x_r0
  clear hb
  have lq := (x_r1).lt
  go_wp2_with (first | (refine wpList_build9 rfl 30 _ rfl (us := #[]) (by rfl) (BT _) ?_) | (refine wpList_store_box (cs := zeroTk) rfl _ _ _ rfl x_r1 rfl rfl SV.out rfl OV.out ?_; intro W99 hW99))
  exact bodyPost_ret (results_box2 Tryd.results17 hW99.box rfl rfl Tryd.underlying30 rfl SV.out) rfl ⟨rfl, hW99.below _ _ (by omega) hB1⟩

theorem rten_is {S : List Int} {t p : Int} (hS : S.length = 32) (hSb : Byts S) (ht : 0 ≤ t ∧ t ≤ 4294967295) (hp : 0 ≤ p ∧ p ≤ 4294967295) {D : List Int} {q : Int} (h : TenOf S t p D q) (w : World) : Calls Tryd.prog 16 #[(.agg (S.map (Value.int .u8)).toArray), .int .u32 t, .int .u32 p] w fun e w' => e = .returned (.tuple #[(.agg (D.map (Value.int .u8)).toArray), .int .i64 q]) ∧ Below w.heap.size w w' := by
  rcases h with ⟨rfl, h, rfl⟩ | ⟨rfl, h, rfl⟩
  · exact rten_t hS hSb ht hp h w
  · exact rten_f hS h w
theorem rtoken_is {S : List Int} (k : Nums) (hS : S.length = 32) (hSb : Byts S) {l : Nums} {g : List Int} {q : Int} (h : TokOf S k l g q) (w : World) : Calls Tryd.prog 17 #[(.agg (S.map (Value.int .u8)).toArray), .int .u32 k.t, .int .u32 k.u, .int .u32 k.e, .int .u64 k.x] w fun e w' => e = .returned (.tuple #[(.agg (tcell l g).toArray), .int .i64 q]) ∧ Below w.heap.size w w' := by
  rcases h with ⟨rfl, h, rfl, rfl⟩ | ⟨rfl, h, rfl, rfl⟩
  · exact rtok_t l hS hSb h w
  · exact rtok_f k hS h w

end Go.Proofs.YtofjpeplgagihaaDoor
