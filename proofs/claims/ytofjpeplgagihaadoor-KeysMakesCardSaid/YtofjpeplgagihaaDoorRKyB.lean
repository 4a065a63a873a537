/-
  The reference of layer 11, walked: Tag, Sign, True, Right.
-/
import Derived.Test.YtofjpeplgagihaaDoorRKyA
import Derived.Test.YtofjpeplgagihaaDoorGXR
import Derived.Test.YtofjpeplgagihaaDoorKyB
namespace Go.Proofs.YtofjpeplgagihaaDoor
open Go.RowKit

set_option maxRecDepth 100000 in
set_option maxHeartbeats 6400000 in
theorem rtag11_is {S : List Int} (c : Cmd) (hS : S.length = 32) (hSb : Byts S) (h : c.wd) (w : World) : Calls Tryd.prog 38 #[(.agg (S.map (Value.int .u8)).toArray), (.agg (ccell c).toArray)] w fun e w' => e = .returned (.agg ((cmdTag S c).map (Value.int .u8)).toArray) ∧ Below w.heap.size w w' := by
  have CO := fun (W : World) => rord_is hS hSb W
  have MS := fun (W : World) => rmsg9_is c h W
  have IK := Lib.hid (fun (W : World) (b : Nat) (h : Box W b ((ordL S).map (Value.int .u8))) => IsL.boxed 32 (ordL_len S) h (by omega))
  obtain ⟨E, hE⟩ : ∃ X, (cmdTag S c).map (Value.int .u8) = X := ⟨_, rfl⟩
  have A : ∀ (W : World) (a b : Value), IsL W .u8 a (ordL S) → IsL W .u8 b c.msg → Calls Tryd.prog 36 #[a, b] W fun e w' => e = .returned (.agg E.toArray) ∧ Below W.heap.size W w' := by rw [← hE]; exact fun W a b h1 h2 => rtag_is (D := cmdTag S c) W (Lib.hid h1) (Lib.hid h2) (by rw [ordL_len]; decide) (by rw [Cmd.msg_len h]; decide) (Lib.hid (ordL_byts S).l) (Lib.hid (Cmd.msg_byts c).l) (Lib.hid rfl)
  have SK := Lib.hid (size_dig hS); have LK := Lib.hid (len_dig hS); have OK := Lib.hid (oneCell_ints (k := .u8) S)
  have SD := Lib.hid (size_dig (cmdTag_len S c)); have LD := Lib.hid (len_dig (cmdTag_len S c)); have OD := Lib.hid (oneCell_ints (k := .u8) (cmdTag S c))
  have SQ := Lib.hid (size_dig (ordL_len S)); have LQ := Lib.hid (len_dig (ordL_len S)); have OQ := Lib.hid (oneCell_ints (k := .u8) (ordL S))
  have SV := Lib.hid (size_cmd c); have LV := Lib.hid (len_cmd Cmd.zero c); have OV := Lib.hid (one_cmd c)
  rw [hE] at SD LD OD ⊢
  obtain ⟨M, hM⟩ : ∃ X, c.msg = X := ⟨_, rfl⟩
  rw [hM] at MS A
  clear hM
  obtain ⟨Q, hQ⟩ : ∃ X, (ordL S).map (Value.int .u8) = X := ⟨_, rfl⟩
  rw [hQ] at CO IK SQ LQ OQ
  clear hQ
  obtain ⟨V, hV⟩ : ∃ X, ccell c = X := ⟨_, rfl⟩
  rw [hV] at SV LV OV MS ⊢
  clear hV
  obtain ⟨C, hC⟩ : ∃ X, S.map (Value.int .u8) = X := ⟨_, rfl⟩
  rw [hC] at SK CO ⊢
  clear hC
  clear hS hSb h hE LV OV
  go_enter Tryd.func38, Tryd.ntmps38
  go_upto_region 1 with fail
  refine F_gen (F := fun W => Code.wp _ _ _ _ W) (J := fun W => Box W (w.heap.size) (C) ∧ Box W (w.heap.size + 1) (V) ∧ Box W (w.heap.size + 2) (zero32) ∧ Below w.heap.size w W) (And.intro (Box.alloc (Box.alloc (Box.newc rfl rfl) _) _) (And.intro (Box.alloc (Box.newc rfl (by simp)) _) (And.intro (Box.newc rfl (by simp)) (by go_grown)))) ?_
  intro w0 ⟨e_k, e_c, e_r, hB0⟩
  have hs0 := hB0.size
  have x_k0 := e_k; clear e_k
  have x_c0 := e_c; clear e_c
  have x_r0 := e_r; clear e_r
  go_wp2_with (refine wpList_load_box9 rfl _ _ rfl x_k0 rfl Tryd.underlying23 rfl SK.out ?_)
  refine (CO _).mono ?_
  rintro e w1 ⟨rfl, hb⟩
  have hB1 : Below w.heap.size w w1 := below_thru hB0 hb
  have hs1 := hB1.size
  have x_k1 : Box w1 (w.heap.size) (C) := Box.below x_k0 hb
  have x_c1 : Box w1 (w.heap.size + 1) (V) := Box.below x_c0 hb
  have x_r1 : Box w1 (w.heap.size + 2) (zero32) := Box.below x_r0 hb
  clear hB0 hs0 x_k0 x_c0 x_r0
  clear hb
  have d_d_k := (x_k1).lt
  have d_d_c := (x_c1).lt
  have d_d_r := (x_r1).lt
  have d_d_0 := hs1
  go_upto_region 2 with (refine wpList_store_box (cs := Q) rfl _ _ _ rfl (Box.newc (l := zero32) rfl rfl) rfl rfl SQ.out LQ.out OQ.out ?_; intro W1_0 hW1_0)
  have hN : Below w1.heap.size w1 W1_0 := (hW1_0.below _ _ (by omega) ((Below.refl _ w1).alloc (Nat.le_refl _) _))
  have x_d2 : Box W1_0 (w1.heap.size) (Q) := hW1_0.box
  have hB2 : Below w.heap.size w W1_0 := below_thru hB1 hN
  have hs2 := hB2.size
  have x_k2 : Box W1_0 (w.heap.size) (C) := Box.below x_k1 hN
  have x_c2 : Box W1_0 (w.heap.size + 1) (V) := Box.below x_c1 hN
  have x_r2 : Box W1_0 (w.heap.size + 2) (zero32) := Box.below x_r1 hN
  clear hB1 hs1 x_k1 x_c1 x_r1
  clear hN hW1_0
  refine wp_region_held_drew (S := fun W => Box W (w.heap.size) (C) ∧ Box W (w.heap.size + 1) (V) ∧ Box W (w1.heap.size) (Q)) (by kernel_rfl) (And.intro (x_k2).drew (And.intro (x_c2).drew (x_d2).drew)) (fun _ => ?_)
  refine F_drew (F := fun W => wpAnyH _ _ _ _ _ _ _ _ W) ?_
  intro Ws0 hbs0
  clear hs2
  have x_k_s0 : Box Ws0 (w.heap.size) (C) := Box.below x_k2 hbs0
  have x_c_s0 : Box Ws0 (w.heap.size + 1) (V) := Box.below x_c2 hbs0
  have x_d_s0 : Box Ws0 (w1.heap.size) (Q) := Box.below x_d2 hbs0
  have z_r_s0 : Box Ws0 (w.heap.size + 2) (zero32) := Box.below x_r2 hbs0
  have Bs0 := below_thru hB2 hbs0
  clear x_k2 x_c2 x_d2 x_r2 hB2 hbs0
  refine takeH 0 8 (v := ?vs0_1) rfl (by rfl) (by kernel_rfl) (by kernel_rfl) (by kernel_rfl) (fun _ _ _ h => h) (Or.inl ⟨by rfl, ?_⟩) ((And.intro x_k_s0 (And.intro x_c_s0 x_d_s0))) ?_
  rotate_left
  · intro wq hSq
    go_simp
    exact rfl
  try simp only [Act.put, List.setIfInBounds_toArray, List.set_cons_zero, List.set_cons_succ]
  refine takeH 1 9 (v := .agg (V).toArray) rfl (by rfl) (by kernel_rfl) (by kernel_rfl) (by kernel_rfl) (fun _ _ _ h => h) (yieldsIf_load_mid (by rfl) _ _ rfl _ _ rfl (V) _ (fun wq hq => Box.range (hq.2.1)) Tryd.underlying37 rfl SV.out) ((And.intro x_k_s0 (And.intro x_c_s0 x_d_s0))) ?_
  try simp only [Act.put, List.setIfInBounds_toArray, List.set_cons_zero, List.set_cons_succ]
  refine wpAnyH_ready (rs := [2]) (by kernel_rfl) (by simp) (AllReadyH.cons rfl (fun K hK => ?_) AllReadyH.nil)
  go_simp
  refine (MS _).mono ?_
  rintro e Ws2 ⟨vb, rfl, hob, hbs2⟩
  have x_k_s2 : Box Ws2 (w.heap.size) (C) := Box.below x_k_s0 hbs2
  have x_c_s2 : Box Ws2 (w.heap.size + 1) (V) := Box.below x_c_s0 hbs2
  have x_d_s2 : Box Ws2 (w1.heap.size) (Q) := Box.below x_d_s0 hbs2
  have z_r_s2 : Box Ws2 (w.heap.size + 2) (zero32) := Box.below z_r_s0 hbs2
  have Bs2 := below_thru Bs0 hbs2
  clear x_k_s0 x_c_s0 x_d_s0 z_r_s0 Bs0 hbs2
  have j_b_s903 : Hid (IsL Ws2 .u8 (vb) (M)) := Lib.hid (IsL.own hob rfl)
  clear hob
  refine hK.out _ _ (And.intro x_k_s2 (And.intro x_c_s2 x_d_s2)) (fun _ => ?_); clear hK K
  refine wpAnyH_ready (rs := [3]) (by kernel_rfl) (by simp) (AllReadyH.cons rfl (fun K hK => ?_) AllReadyH.nil)
  go_simp
  refine (A _ _ _ (IK.out _ _ x_d_s2) j_b_s903.out).mono ?_
  rintro e Ws4 ⟨rfl, hbs4⟩
  have x_k_s4 : Box Ws4 (w.heap.size) (C) := Box.below x_k_s2 hbs4
  have x_c_s4 : Box Ws4 (w.heap.size + 1) (V) := Box.below x_c_s2 hbs4
  have x_d_s4 : Box Ws4 (w1.heap.size) (Q) := Box.below x_d_s2 hbs4
  have z_r_s4 : Box Ws4 (w.heap.size + 2) (zero32) := Box.below z_r_s2 hbs4
  have j_b_s4 := Lib.hid (IsL.below j_b_s903.out hbs4)
  have Bs4 := below_thru Bs2 hbs4
  clear x_k_s2 x_c_s2 x_d_s2 z_r_s2 j_b_s903 Bs2 hbs4
  refine hK.out _ _ (And.intro x_k_s4 (And.intro x_c_s4 x_d_s4)) (fun _ => ?_); clear hK K
  refine wpAnyH_ready (rs := [4]) (by kernel_rfl) (by simp) (AllReadyH.cons rfl (fun K hK => ?_) AllReadyH.nil)
  have nz_k := (x_k_s4).lt
  have nz_c := (x_c_s4).lt
  have nz_d := (x_d_s4).lt
  refine step_store_box0 (cs := E) rfl rfl _ _ _ rfl z_r_s4 rfl rfl SD.out LD.out OD.out ?_
  intro Ws5 hWs5
  have x_k_s5 : Box Ws5 (w.heap.size) (C) := hWs5.past _ _ (by omega) x_k_s4
  have x_c_s5 : Box Ws5 (w.heap.size + 1) (V) := hWs5.past _ _ (by omega) x_c_s4
  have x_d_s5 : Box Ws5 (w1.heap.size) (Q) := hWs5.past _ _ (by omega) x_d_s4
  have z_r_s5 := hWs5.box
  have Bs5 := hWs5.below _ _ (by omega) Bs4
  clear nz_k nz_c nz_d x_k_s4 x_c_s4 x_d_s4 z_r_s4 Bs4 j_b_s4 hWs5
  refine hK.out _ _ (And.intro x_k_s5 (And.intro x_c_s5 x_d_s5)) (fun _ => ?_); clear hK K
  refine wpAnyH_done (by kernel_rfl) ?_ _
  go_wp2_with fail
  exact bodyPost_ret (results_box Tryd.results38 z_r_s5 rfl Tryd.underlying23 rfl SD.out) rfl ⟨rfl, Bs5⟩

set_option maxRecDepth 100000 in
set_option maxHeartbeats 6400000 in
theorem rsign_t {S : List Int} (c : Cmd) (hS : S.length = 32) (hSb : Byts S) (h : c.Ok) (w : World) : Calls Tryd.prog 20 #[(.agg (S.map (Value.int .u8)).toArray), (.agg (ccell c).toArray)] w fun e w' => e = .returned (.tuple #[(.agg (ccell (c.sgn S)).toArray), .int .i64 0]) ∧ Below w.heap.size w w' := by
  have BE := fun W => risc_is c (q := true) (Lib.hid ⟨fun _ => rfl, fun _ => h⟩) W
  have A := fun (W : World) => rtag11_is c hS hSb (Cmd.ok_wd h) W
  have SK := Lib.hid (size_dig hS); have LK := Lib.hid (len_dig hS); have OK := Lib.hid (oneCell_ints (k := .u8) S)
  have SD := Lib.hid (size_dig (cmdTag_len S c)); have LD := Lib.hid (len_dig (cmdTag_len S c)); have OD := Lib.hid (oneCell_ints (k := .u8) (cmdTag S c))
  have SV := Lib.hid (size_cmd c); have LV := Lib.hid (len_cmd Cmd.zero c); have OV := Lib.hid (one_cmd c)
  have SU := Lib.hid (size_cmd (c.sgn S)); have LU := Lib.hid (len_cmd Cmd.zero (c.sgn S)); have OU := Lib.hid (one_cmd (c.sgn S))
  have P1 := Lib.hid (sgn_p1 c (cmdTag_len S c)); have P2 : Hid (ccell (c.sgn S) = (ccell c).take 15 ++ (cmdTag S c).map (Value.int .u8) ++ (ccell c).drop (15 + ((cmdTag S c).map (Value.int .u8)).length)) := Lib.hid (sgn_p2 c (cmdTag_len S c) (cmdTag_byts S c))
  obtain ⟨E, hE⟩ : ∃ X, (cmdTag S c).map (Value.int .u8) = X := ⟨_, rfl⟩
  rw [hE] at SD LD OD A P1 P2
  clear hE
  obtain ⟨U, hU⟩ : ∃ X, ccell (c.sgn S) = X := ⟨_, rfl⟩
  rw [hU] at SU LU OU P2 ⊢
  clear hU
  obtain ⟨V, hV⟩ : ∃ X, ccell c = X := ⟨_, rfl⟩
  rw [hV] at SV LV OV BE A P1 P2 ⊢
  clear hV
  obtain ⟨C, hC⟩ : ∃ X, S.map (Value.int .u8) = X := ⟨_, rfl⟩
  rw [hC] at SK A ⊢
  clear hC
  clear hS hSb h LD LV OV
  go_enter Tryd.func20, Tryd.ntmps20
  go_upto_region 1 with fail
  refine F_gen (F := fun W => Code.wp _ _ _ _ W) (J := fun W => Box W (w.heap.size) (C) ∧ Box W (w.heap.size + 1) (V) ∧ Box W (w.heap.size + 2) (ccell Cmd.zero) ∧ Below w.heap.size w W) (And.intro (Box.alloc (Box.alloc (Box.newc rfl rfl) _) _) (And.intro (Box.alloc (Box.newc rfl (by simp)) _) (And.intro (Box.newc rfl (by simp)) (by go_grown)))) ?_
  intro w0 ⟨e_k, e_c, e_r, hB0⟩
  have hs0 := hB0.size
  have x_k0 := e_k; clear e_k
  have x_c0 := e_c; clear e_c
  have x_r0 := e_r; clear e_r
  go_wp2_with (refine wpList_load_box9 rfl _ _ rfl x_c0 rfl Tryd.underlying37 rfl SV.out ?_)
  refine (BE _).mono ?_
  rintro e w1 ⟨rfl, hb⟩
  have hB1 : Below w.heap.size w w1 := below_thru hB0 hb
  have hs1 := hB1.size
  have x_k1 : Box w1 (w.heap.size) (C) := Box.below x_k0 hb
  have x_c1 : Box w1 (w.heap.size + 1) (V) := Box.below x_c0 hb
  have x_r1 : Box w1 (w.heap.size + 2) (ccell Cmd.zero) := Box.below x_r0 hb
  clear hB0 hs0 x_k0 x_c0 x_r0
  clear hb
  go_wp2_with (first
    | (refine wpList_load_box9 rfl _ _ rfl x_k1 rfl Tryd.underlying23 rfl SK.out ?_)
    | (refine wpList_load_box9 rfl _ _ rfl x_c1 rfl Tryd.underlying37 rfl SV.out ?_))
  refine (A _).mono ?_
  rintro e w2 ⟨rfl, hb⟩
  have hB2 : Below w.heap.size w w2 := below_thru hB1 hb
  have hs2 := hB2.size
  have x_k2 : Box w2 (w.heap.size) (C) := Box.below x_k1 hb
  have x_c2 : Box w2 (w.heap.size + 1) (V) := Box.below x_c1 hb
  have x_r2 : Box w2 (w.heap.size + 2) (ccell Cmd.zero) := Box.below x_r1 hb
  clear hB1 hs1 x_k1 x_c1 x_r1
  clear hb
  have lr_k := (x_k2).lt
  have lr_c := (x_c2).lt
  have lr_r := (x_r2).lt
  go_upto_region 4 with (refine wpList_store_part (cs := E) (ws := U) rfl _ _ _ rfl x_c2 rfl rfl SD.out P1.out P2.out OD.out ?_; intro W8 hW8)
  have x_k3 : Box W8 (w.heap.size) (C) := hW8.past _ _ (by omega) x_k2
  have x_r3 : Box W8 (w.heap.size + 2) (ccell Cmd.zero) := hW8.past _ _ (by omega) x_r2
  have x_c3 : Box W8 (w.heap.size + 1) (U) := hW8.box
  have hB3 : Below w.heap.size w W8 := hW8.below _ _ (by omega) hB2
  have hs3 := hB3.size
  clear hW8 hB2 hs2 x_k2 x_c2 x_r2 lr_k lr_c lr_r 
  have lq := (x_r3).lt
  go_wp2_with (first | (refine wpList_load_box9 rfl _ _ rfl x_c3 rfl Tryd.underlying37 rfl SU.out ?_) | (refine wpList_store_box (cs := U) rfl _ _ _ rfl x_r3 rfl rfl SU.out LU.out OU.out ?_; intro W99 hW99))
  exact bodyPost_ret (results_box2 Tryd.results20 hW99.box rfl rfl Tryd.underlying37 rfl SU.out) rfl ⟨rfl, hW99.below _ _ (by omega) hB3⟩

set_option maxRecDepth 100000 in
set_option maxHeartbeats 6400000 in
theorem rsign_f {S : List Int} (c : Cmd) (hS : S.length = 32) (h : ¬ c.Ok) (w : World) : Calls Tryd.prog 20 #[(.agg (S.map (Value.int .u8)).toArray), (.agg (ccell c).toArray)] w fun e w' => e = .returned (.tuple #[(.agg (ccell Cmd.zero).toArray), .int .i64 8]) ∧ Below w.heap.size w w' := by
  have BE := fun W => risc_is c (q := false) (Lib.hid ⟨fun g => absurd g h, fun g => by cases g⟩) W
  have BC := fun W => build_c0 W
  have SK := Lib.hid (size_dig hS); have LK := Lib.hid (len_dig hS); have OK := Lib.hid (oneCell_ints (k := .u8) S)
  have SV := Lib.hid (size_cmd c); have LV := Lib.hid (len_cmd Cmd.zero c); have OV := Lib.hid (one_cmd c)
  have SZ := Lib.hid (size_cmd Cmd.zero); have OZ := Lib.hid (one_cmd Cmd.zero)
  obtain ⟨V, hV⟩ : ∃ X, ccell c = X := ⟨_, rfl⟩
  rw [hV] at SV LV OV BE ⊢
  clear hV
  obtain ⟨C, hC⟩ : ∃ X, S.map (Value.int .u8) = X := ⟨_, rfl⟩
  rw [hC] at SK ⊢
  clear hC
  clear hS h LV OV
  go_enter Tryd.func20, Tryd.ntmps20
  go_upto_region 1 with fail
  refine F_gen (F := fun W => Code.wp _ _ _ _ W) (J := fun W => Box W (w.heap.size) (C) ∧ Box W (w.heap.size + 1) (V) ∧ Box W (w.heap.size + 2) (ccell Cmd.zero) ∧ Below w.heap.size w W) (And.intro (Box.alloc (Box.alloc (Box.newc rfl rfl) _) _) (And.intro (Box.alloc (Box.newc rfl (by simp)) _) (And.intro (Box.newc rfl (by simp)) (by go_grown)))) ?_
  intro w0 ⟨e_k, e_c, e_r, hB0⟩
  have hs0 := hB0.size
  have x_k0 := e_k; clear e_k
  have x_c0 := e_c; clear e_c
  have x_r0 := e_r; clear e_r
  go_wp2_with (refine wpList_load_box9 rfl _ _ rfl x_c0 rfl Tryd.underlying37 rfl SV.out ?_)
  refine (BE _).mono ?_
  rintro e w1 ⟨rfl, hb⟩
  have hB1 : Below w.heap.size w w1 := below_thru hB0 hb
  have hs1 := hB1.size
  have x_k1 : Box w1 (w.heap.size) (C) := Box.below x_k0 hb
  have x_c1 : Box w1 (w.heap.size + 1) (V) := Box.below x_c0 hb
  have x_r1 : Box w1 (w.heap.size + 2) (ccell Cmd.zero) := Box.below x_r0 hb
  clear hB0 hs0 x_k0 x_c0 x_r0
  clear hb
  have lq := (x_r1).lt
  go_wp2_with (first | (refine wpList_build9 rfl 37 _ rfl (us := #[]) (by rfl) (BC _) ?_) | (refine wpList_store_box (cs := ccell Cmd.zero) rfl _ _ _ rfl x_r1 rfl rfl SZ.out (len_cmd Cmd.zero Cmd.zero) OZ.out ?_; intro W99 hW99))
  exact bodyPost_ret (results_box2 Tryd.results20 hW99.box rfl rfl Tryd.underlying37 rfl SZ.out) rfl ⟨rfl, hW99.below _ _ (by omega) hB1⟩
theorem rsign_is {S : List Int} (c : Cmd) {d : Cmd} {q : Int} (hS : S.length = 32) (hSb : Byts S) (h : SigOf S c d q) (w : World) : Calls Tryd.prog 20 #[(.agg (S.map (Value.int .u8)).toArray), (.agg (ccell c).toArray)] w fun e w' => e = .returned (.tuple #[(.agg (ccell d).toArray), .int .i64 q]) ∧ Below w.heap.size w w' := by
  rcases h with ⟨rfl, h, rfl⟩ | ⟨rfl, h, rfl⟩
  · exact rsign_t c hS hSb h w
  · exact rsign_f c hS h w

set_option maxRecDepth 100000 in
set_option maxHeartbeats 6400000 in
theorem rtrue_2 {S : List Int} (f : Frm) (hS : S.length = 32) (hSb : Byts S) (h : f.Ok) (h0 : f.kd = 2) {b : Bool} (hb : b = true ↔ TruC S f.c) (w : World) : Calls Tryd.prog 39 #[(.agg (S.map (Value.int .u8)).toArray), (.agg (mcell f).toArray)] w fun e w' => e = .returned (.bool b) ∧ Below w.heap.size w w' := by
  have hc : f.c.Ok := by rcases h with ⟨g, _⟩ | ⟨_, _, g⟩; rw [h0] at g; exact absurd g (by decide); exact g
  have A := fun (W : World) => rtag11_is f.c hS hSb (Cmd.ok_wd hc) W
  have v0 : (mcell f)[0]? = some (.int .u8 2) := by rw [← h0]; rfl
  have e : decide (f.c.g = cmdTag S f.c) = b := bool_iff (decide_eq_true_iff.trans ⟨fun g => g.symm, fun g => g.symm⟩) hb
  have EQ := fun (W : World) => eq_ints (P := Tryd.prog) W 9998 Tryd.underlying23 Tryd.underlying5 size_u8' f.c.g (cmdTag S f.c) f.c.hg (cmdTag_len S f.c); rw [show (9998 : Nat) + 2 = 10000 from rfl, e] at EQ
  have DC := Lib.hid (mcell_c f); have DG := Lib.hid (mcell_g f)
  have SK := Lib.hid (size_dig hS); have LK := Lib.hid (len_dig hS); have OK := Lib.hid (oneCell_ints (k := .u8) S)
  have SG := Lib.hid (size_dig f.c.hg); have LG := Lib.hid (len_dig f.c.hg); have OG := Lib.hid (oneCell_ints (k := .u8) f.c.g)
  have SP := Lib.hid (size_cmd f.c); have LP := Lib.hid (len_cmd Cmd.zero f.c); have OP := Lib.hid (one_cmd f.c)
  have SV := Lib.hid (size_frm f); have LV := Lib.hid (len_frm Frm.zero f); have OV := Lib.hid (one_frm f)
  obtain ⟨E, hE⟩ : ∃ X, (cmdTag S f.c).map (Value.int .u8) = X := ⟨_, rfl⟩
  rw [hE] at A EQ
  clear hE
  obtain ⟨G, hG⟩ : ∃ X, f.c.g.map (Value.int .u8) = X := ⟨_, rfl⟩
  rw [hG] at SG LG OG EQ DG
  clear hG
  obtain ⟨P, hP⟩ : ∃ X, ccell f.c = X := ⟨_, rfl⟩
  rw [hP] at A SP LP OP DC
  clear hP
  obtain ⟨V, hV⟩ : ∃ X, mcell f = X := ⟨_, rfl⟩
  rw [hV] at SV LV OV DC DG v0 ⊢
  clear hV
  obtain ⟨C, hC⟩ : ∃ X, S.map (Value.int .u8) = X := ⟨_, rfl⟩
  rw [hC] at SK A ⊢
  clear hC
  clear hS hSb h h0 hb hc e LV OV LP OP LG OG
  go_enter Tryd.func39, Tryd.ntmps39
  go_upto_region 1 with fail
  refine F_gen (F := fun W => Code.wp _ _ _ _ W) (J := fun W => Box W (w.heap.size) (C) ∧ Box W (w.heap.size + 1) (V) ∧ Below w.heap.size w W) (And.intro (Box.alloc (Box.newc rfl rfl) _) (And.intro (Box.newc rfl (by simp)) (by go_grown))) ?_
  intro w0 ⟨e_k, e_f, hB0⟩
  have hs0 := hB0.size
  have x_k0 := e_k; clear e_k
  have x_f0 := e_f; clear e_f
  have ca := (x_f0).c 0 _ v0
  have za := (x_f0).lt
  go_upto_region 2 with fail
  clear ca za
  refine wp_region_held_drew (S := fun W => Box W (w.heap.size) (C) ∧ Box W (w.heap.size + 1) (V)) (by kernel_rfl) (And.intro (x_k0).drew (x_f0).drew) (fun _ => ?_)
  refine F_drew (F := fun W => wpAnyH _ _ _ _ _ _ _ _ W) ?_
  intro Ws0 hbs0
  clear hs0
  have x_k_s0 : Box Ws0 (w.heap.size) (C) := Box.below x_k0 hbs0
  have x_f_s0 : Box Ws0 (w.heap.size + 1) (V) := Box.below x_f0 hbs0
  have Bs0 := below_thru hB0 hbs0
  clear x_k0 x_f0 hB0 hbs0
  refine takeH 0 9 (v := ?vs0_1) rfl (by rfl) (by kernel_rfl) (by kernel_rfl) (by kernel_rfl) (fun _ _ _ h => h) (Or.inl ⟨by rfl, ?_⟩) ((And.intro x_k_s0 x_f_s0)) ?_
  rotate_left
  · intro wq hSq
    go_simp
    exact rfl
  try simp only [Act.put, List.setIfInBounds_toArray, List.set_cons_zero, List.set_cons_succ]
  refine takeH 1 10 (v := ?vs1_2) rfl (by rfl) (by kernel_rfl) (by kernel_rfl) (by kernel_rfl) (fun _ _ _ h => h) (Or.inl ⟨by rfl, ?_⟩) ((And.intro x_k_s0 x_f_s0)) ?_
  rotate_left
  · intro wq hSq
    go_simp
    exact rfl
  try simp only [Act.put, List.setIfInBounds_toArray, List.set_cons_zero, List.set_cons_succ]
  refine takeH 4 13 (v := ?vs4_3) rfl (by rfl) (by kernel_rfl) (by kernel_rfl) (by kernel_rfl) (fun _ _ _ h => h) (Or.inl ⟨by rfl, ?_⟩) ((And.intro x_k_s0 x_f_s0)) ?_
  rotate_left
  · intro wq hSq
    go_simp
    exact rfl
  try simp only [Act.put, List.setIfInBounds_toArray, List.set_cons_zero, List.set_cons_succ]
  refine takeH 2 11 (v := .agg (G).toArray) rfl (by rfl) (by kernel_rfl) (by kernel_rfl) (by kernel_rfl) (fun _ _ _ h => h) (yieldsIf_load_mid (by rfl) _ _ rfl _ _ rfl (G) _ (fun wq hq => Box.rangeMid (hq.2) 54 (G) ([]) DG.out) Tryd.underlying23 rfl SG.out) ((And.intro x_k_s0 x_f_s0)) ?_
  try simp only [Act.put, List.setIfInBounds_toArray, List.set_cons_zero, List.set_cons_succ]
  refine takeH 3 12 (v := .agg (C).toArray) rfl (by rfl) (by kernel_rfl) (by kernel_rfl) (by kernel_rfl) (fun _ _ _ h => h) (yieldsIf_load_mid (by rfl) _ _ rfl _ _ rfl (C) _ (fun wq hq => Box.range (hq.1)) Tryd.underlying23 rfl SK.out) ((And.intro x_k_s0 x_f_s0)) ?_
  try simp only [Act.put, List.setIfInBounds_toArray, List.set_cons_zero, List.set_cons_succ]
  refine takeH 5 14 (v := .agg (P).toArray) rfl (by rfl) (by kernel_rfl) (by kernel_rfl) (by kernel_rfl) (fun _ _ _ h => h) (yieldsIf_load_mid (by rfl) _ _ rfl _ _ rfl (P) _ (fun wq hq => Box.rangeMid (hq.2) 39 (P) ([]) DC.out) Tryd.underlying37 rfl SP.out) ((And.intro x_k_s0 x_f_s0)) ?_
  try simp only [Act.put, List.setIfInBounds_toArray, List.set_cons_zero, List.set_cons_succ]
  refine wpAnyH_ready (rs := [6]) (by kernel_rfl) (by simp) (AllReadyH.cons rfl (fun K hK => ?_) AllReadyH.nil)
  go_simp
  refine (A _).mono ?_
  rintro e Ws4 ⟨rfl, hbs4⟩
  have x_k_s4 : Box Ws4 (w.heap.size) (C) := Box.below x_k_s0 hbs4
  have x_f_s4 : Box Ws4 (w.heap.size + 1) (V) := Box.below x_f_s0 hbs4
  have Bs4 := below_thru Bs0 hbs4
  clear x_k_s0 x_f_s0 Bs0 hbs4
  refine hK.out _ _ (And.intro x_k_s4 x_f_s4) (fun _ => ?_); clear hK K
  refine takeH 7 16 (v := ?vs7_5) rfl (by rfl) (by kernel_rfl) (by kernel_rfl) (by kernel_rfl) (fun _ _ _ h => h) (Or.inl ⟨by rfl, ?_⟩) ((And.intro x_k_s4 x_f_s4)) ?_
  rotate_left
  · intro wq hSq
    go_simp
    exact rfl
  try simp only [Act.put, List.setIfInBounds_toArray, List.set_cons_zero, List.set_cons_succ]
  refine takeH 8 4 (v := ?vs8_6) rfl (by rfl) (by kernel_rfl) (by kernel_rfl) (by kernel_rfl) (fun _ _ _ h => h) (Or.inl ⟨by rfl, ?_⟩) ((And.intro x_k_s4 x_f_s4)) ?_
  rotate_left
  · intro wq hSq
    go_simp
    exact rfl
  try simp only [Act.put, List.setIfInBounds_toArray, List.set_cons_zero, List.set_cons_succ]
  refine wpAnyH_done (by kernel_rfl) ?_ _
  go_wp2_with fail
  go_returns
  exact ⟨rfl, Bs4⟩

set_option maxRecDepth 100000 in
set_option maxHeartbeats 6400000 in
theorem rtrue_t {S : List Int} (f : Frm) (hS : S.length = 32) (hSb : Byts S) (h0 : f.kd = 1) (h : HasKey f.r.k.t f.r.k.e) (h2 : minted S f.r.k = f.r.g) (w : World) : Calls Tryd.prog 39 #[(.agg (S.map (Value.int .u8)).toArray), (.agg (mcell f).toArray)] w fun e w' => e = .returned (.bool true) ∧ Below w.heap.size w w' := by
  have I := fun W => ris_is (b := true) (⟨fun _ => h, fun _ => rfl⟩) W
  have A := fun (W : World) => rkey_is hS hSb f.r.k.ht f.r.k.he W
  have B := fun (W : World) => rverify_is f.r.k f.r.hg (q := 0) (tkeyL_len S f.r.k.t f.r.k.e) (tkeyL_byts S f.r.k.t f.r.k.e) (Lib.hid (ver11_t h2)) W
  have v0 : (mcell f)[0]? = some (.int .u8 1) := by rw [← h0]; rfl
  have DT := Lib.hid (mcell_t f)
  have SP := Lib.hid (size_tok f.r.k f.r.hg); have LP : Hid (zeroTk.length = (tcell f.r.k f.r.g).length) := Lib.hid (len_tok Nums.zero f.r.k zd32 f.r.hg); have OP := Lib.hid (tcell_one f.r.k f.r.g)
  have SK := Lib.hid (size_dig hS); have LK := Lib.hid (len_dig hS); have OK := Lib.hid (oneCell_ints (k := .u8) S)
  have SV := Lib.hid (size_frm f); have LV := Lib.hid (len_frm Frm.zero f); have OV := Lib.hid (one_frm f)
  have p0 : (tcell f.r.k f.r.g)[0]? = some (.int .u32 f.r.k.t) := rfl; have p2 : (tcell f.r.k f.r.g)[2]? = some (.int .u32 f.r.k.e) := rfl
  obtain ⟨R, hR⟩ : ∃ X, (Value.int .u16 f.r.ep :: .int .u32 f.r.co :: ccell f.c) = X := ⟨_, rfl⟩
  rw [hR] at DT
  clear hR
  obtain ⟨P, hP⟩ : ∃ X, tcell f.r.k f.r.g = X := ⟨_, rfl⟩
  rw [hP] at SP LP OP DT p0 p2 B
  clear hP
  obtain ⟨V, hV⟩ : ∃ X, mcell f = X := ⟨_, rfl⟩
  rw [hV] at SV LV OV DT v0 ⊢
  clear hV
  obtain ⟨Q, hQ⟩ : ∃ X, (tkeyL S f.r.k.t f.r.k.e).map (Value.int .u8) = X := ⟨_, rfl⟩
  rw [hQ] at A B
  clear hQ
  obtain ⟨C, hC⟩ : ∃ X, S.map (Value.int .u8) = X := ⟨_, rfl⟩
  rw [hC] at SK A ⊢
  clear hC
  clear hS h h0 LV OV hSb h2
  go_enter Tryd.func39, Tryd.ntmps39
  go_upto_region 1 with fail
  refine F_gen (F := fun W => Code.wp _ _ _ _ W) (J := fun W => Box W (w.heap.size) (C) ∧ Box W (w.heap.size + 1) (V) ∧ Below w.heap.size w W) (And.intro (Box.alloc (Box.newc rfl rfl) _) (And.intro (Box.newc rfl (by simp)) (by go_grown))) ?_
  intro w0 ⟨e_k, e_f, hB0⟩
  have hs0 := hB0.size
  have x_k0 := e_k; clear e_k
  have x_f0 := e_f; clear e_f
  have ca := (x_f0).c 0 _ v0
  have za := (x_f0).lt
  have d_t_k := (x_k0).lt
  have d_t_f := (x_f0).lt
  have d_t_0 := hs0
  go_upto_region 4 with (first
    | (refine wpList_load_rangew rfl _ _ rfl (Box.rangeMid x_f0 1 (P) (R) DT.out) rfl Tryd.underlying30 rfl SP.out ?_)
    | (refine wpList_store_box (cs := P) rfl _ _ _ rfl (Box.newc (l := zeroTk) rfl rfl) rfl rfl SP.out LP.out OP.out ?_; intro W0_0 hW0_0))
  have hN : Below w0.heap.size w0 W0_0 := (hW0_0.below _ _ (by omega) ((Below.refl _ w0).alloc (Nat.le_refl _) _))
  have x_t1 : Box W0_0 (w0.heap.size) (P) := hW0_0.box
  have hB1 : Below w.heap.size w W0_0 := below_thru hB0 hN
  have hs1 := hB1.size
  have x_k1 : Box W0_0 (w.heap.size) (C) := Box.below x_k0 hN
  have x_f1 : Box W0_0 (w.heap.size + 1) (V) := Box.below x_f0 hN
  clear hB0 hs0 x_k0 x_f0
  clear hN hW0_0
  clear ca za
  refine wp_region_held_drew (S := fun W => Box W (w.heap.size) (C) ∧ Box W (w.heap.size + 1) (V) ∧ Box W (w0.heap.size) (P)) (by kernel_rfl) (And.intro (x_k1).drew (And.intro (x_f1).drew (x_t1).drew)) (fun _ => ?_)
  refine F_drew (F := fun W => wpAnyH _ _ _ _ _ _ _ _ W) ?_
  intro Wz0 hbz0
  clear hs1
  have x_k_z0 : Box Wz0 (w.heap.size) (C) := Box.below x_k1 hbz0
  have x_f_z0 : Box Wz0 (w.heap.size + 1) (V) := Box.below x_f1 hbz0
  have x_t_z0 : Box Wz0 (w0.heap.size) (P) := Box.below x_t1 hbz0
  have Bz0 := below_thru hB1 hbz0
  clear x_k1 x_f1 x_t1 hB1 hbz0
  refine takeH 0 20 (v := ?vz0_1) rfl (by rfl) (by kernel_rfl) (by kernel_rfl) (by kernel_rfl) (fun _ _ _ h => h) (Or.inl ⟨by rfl, ?_⟩) ((And.intro x_k_z0 (And.intro x_f_z0 x_t_z0))) ?_
  rotate_left
  · intro wq hSq
    go_simp
    exact rfl
  try simp only [Act.put, List.setIfInBounds_toArray, List.set_cons_zero, List.set_cons_succ]
  refine takeH 1 21 (v := ?vz1_2) rfl (by rfl) (by kernel_rfl) (by kernel_rfl) (by kernel_rfl) (fun _ _ _ h => h) (Or.inl ⟨by rfl, ?_⟩) ((And.intro x_k_z0 (And.intro x_f_z0 x_t_z0))) ?_
  rotate_left
  · intro wq hSq
    have cq := (hSq.2.2).c 0 _ p0
    have zq := lt_of_cell cq
    go_simp
    exact rfl
  try simp only [Act.put, List.setIfInBounds_toArray, List.set_cons_zero, List.set_cons_succ]
  refine takeH 2 22 (v := ?vz2_3) rfl (by rfl) (by kernel_rfl) (by kernel_rfl) (by kernel_rfl) (fun _ _ _ h => h) (Or.inl ⟨by rfl, ?_⟩) ((And.intro x_k_z0 (And.intro x_f_z0 x_t_z0))) ?_
  rotate_left
  · intro wq hSq
    go_simp
    exact rfl
  try simp only [Act.put, List.setIfInBounds_toArray, List.set_cons_zero, List.set_cons_succ]
  refine takeH 3 23 (v := ?vz3_4) rfl (by rfl) (by kernel_rfl) (by kernel_rfl) (by kernel_rfl) (fun _ _ _ h => h) (Or.inl ⟨by rfl, ?_⟩) ((And.intro x_k_z0 (And.intro x_f_z0 x_t_z0))) ?_
  rotate_left
  · intro wq hSq
    have cq := (hSq.2.2).c 2 _ p2
    have zq := lt_of_cell cq
    go_simp
    exact rfl
  try simp only [Act.put, List.setIfInBounds_toArray, List.set_cons_zero, List.set_cons_succ]
  refine wpAnyH_ready (rs := [4]) (by kernel_rfl) (by simp) (AllReadyH.cons rfl (fun K hK => ?_) AllReadyH.nil)
  go_simp
  refine (I _).mono ?_
  rintro e Wz5 ⟨rfl, hbz5⟩
  have x_k_z5 : Box Wz5 (w.heap.size) (C) := Box.below x_k_z0 hbz5
  have x_f_z5 : Box Wz5 (w.heap.size + 1) (V) := Box.below x_f_z0 hbz5
  have x_t_z5 : Box Wz5 (w0.heap.size) (P) := Box.below x_t_z0 hbz5
  have Bz5 := below_thru Bz0 hbz5
  clear x_k_z0 x_f_z0 x_t_z0 Bz0 hbz5
  refine hK.out _ _ (And.intro x_k_z5 (And.intro x_f_z5 x_t_z5)) (fun _ => ?_); clear hK K
  refine takeH 5 25 (v := ?vz5_6) rfl (by rfl) (by kernel_rfl) (by kernel_rfl) (by kernel_rfl) (fun _ _ _ h => h) (Or.inl ⟨by rfl, ?_⟩) ((And.intro x_k_z5 (And.intro x_f_z5 x_t_z5))) ?_
  rotate_left
  · intro wq hSq
    go_simp
    exact rfl
  try simp only [Act.put, List.setIfInBounds_toArray, List.set_cons_zero, List.set_cons_succ]
  refine takeH 7 27 (v := ?vz7_7) rfl (by rfl) (by kernel_rfl) (by kernel_rfl) (by kernel_rfl) (fun _ _ _ h => h) (Or.inl ⟨by rfl, ?_⟩) ((And.intro x_k_z5 (And.intro x_f_z5 x_t_z5))) ?_
  rotate_left
  · intro wq hSq
    go_simp
    exact rfl
  try simp only [Act.put, List.setIfInBounds_toArray, List.set_cons_zero, List.set_cons_succ]
  refine takeH 8 28 (v := ?vz8_8) rfl (by rfl) (by kernel_rfl) (by kernel_rfl) (by kernel_rfl) (fun _ _ _ h => h) (Or.inl ⟨by rfl, ?_⟩) ((And.intro x_k_z5 (And.intro x_f_z5 x_t_z5))) ?_
  rotate_left
  · intro wq hSq
    have cq := (hSq.2.2).c 0 _ p0
    have zq := lt_of_cell cq
    go_simp
    exact rfl
  try simp only [Act.put, List.setIfInBounds_toArray, List.set_cons_zero, List.set_cons_succ]
  refine takeH 9 29 (v := ?vz9_9) rfl (by rfl) (by kernel_rfl) (by kernel_rfl) (by kernel_rfl) (fun _ _ _ h => h) (Or.inl ⟨by rfl, ?_⟩) ((And.intro x_k_z5 (And.intro x_f_z5 x_t_z5))) ?_
  rotate_left
  · intro wq hSq
    go_simp
    exact rfl
  try simp only [Act.put, List.setIfInBounds_toArray, List.set_cons_zero, List.set_cons_succ]
  refine takeH 10 30 (v := ?vz10_10) rfl (by rfl) (by kernel_rfl) (by kernel_rfl) (by kernel_rfl) (fun _ _ _ h => h) (Or.inl ⟨by rfl, ?_⟩) ((And.intro x_k_z5 (And.intro x_f_z5 x_t_z5))) ?_
  rotate_left
  · intro wq hSq
    have cq := (hSq.2.2).c 2 _ p2
    have zq := lt_of_cell cq
    go_simp
    exact rfl
  try simp only [Act.put, List.setIfInBounds_toArray, List.set_cons_zero, List.set_cons_succ]
  refine takeH 6 26 (v := .agg (C).toArray) rfl (by rfl) (by kernel_rfl) (by kernel_rfl) (by kernel_rfl) (fun _ _ _ h => h) (yieldsIf_load_mid (by rfl) _ _ rfl _ _ rfl (C) _ (fun wq hq => Box.range (hq.1)) Tryd.underlying23 rfl SK.out) ((And.intro x_k_z5 (And.intro x_f_z5 x_t_z5))) ?_
  try simp only [Act.put, List.setIfInBounds_toArray, List.set_cons_zero, List.set_cons_succ]
  refine takeH 12 32 (v := .agg (P).toArray) rfl (by rfl) (by kernel_rfl) (by kernel_rfl) (by kernel_rfl) (fun _ _ _ h => h) (yieldsIf_load_mid (by rfl) _ _ rfl _ _ rfl (P) _ (fun wq hq => Box.range (hq.2.2)) Tryd.underlying30 rfl SP.out) ((And.intro x_k_z5 (And.intro x_f_z5 x_t_z5))) ?_
  try simp only [Act.put, List.setIfInBounds_toArray, List.set_cons_zero, List.set_cons_succ]
  refine wpAnyH_ready (rs := [11]) (by kernel_rfl) (by simp) (AllReadyH.cons rfl (fun K hK => ?_) AllReadyH.nil)
  go_simp
  refine (A _).mono ?_
  rintro e Wz11 ⟨rfl, hbz11⟩
  have x_k_z11 : Box Wz11 (w.heap.size) (C) := Box.below x_k_z5 hbz11
  have x_f_z11 : Box Wz11 (w.heap.size + 1) (V) := Box.below x_f_z5 hbz11
  have x_t_z11 : Box Wz11 (w0.heap.size) (P) := Box.below x_t_z5 hbz11
  have Bz11 := below_thru Bz5 hbz11
  clear x_k_z5 x_f_z5 x_t_z5 Bz5 hbz11
  refine hK.out _ _ (And.intro x_k_z11 (And.intro x_f_z11 x_t_z11)) (fun _ => ?_); clear hK K
  refine wpAnyH_ready (rs := [13]) (by kernel_rfl) (by simp) (AllReadyH.cons rfl (fun K hK => ?_) AllReadyH.nil)
  go_simp
  refine (B _).mono ?_
  rintro e Wz12 ⟨rfl, hbz12⟩
  have x_k_z12 : Box Wz12 (w.heap.size) (C) := Box.below x_k_z11 hbz12
  have x_f_z12 : Box Wz12 (w.heap.size + 1) (V) := Box.below x_f_z11 hbz12
  have x_t_z12 : Box Wz12 (w0.heap.size) (P) := Box.below x_t_z11 hbz12
  have Bz12 := below_thru Bz11 hbz12
  clear x_k_z11 x_f_z11 x_t_z11 Bz11 hbz12
  refine hK.out _ _ (And.intro x_k_z12 (And.intro x_f_z12 x_t_z12)) (fun _ => ?_); clear hK K
  refine takeH 14 34 (v := ?vz14_13) rfl (by rfl) (by kernel_rfl) (by kernel_rfl) (by kernel_rfl) (fun _ _ _ h => h) (Or.inl ⟨by rfl, ?_⟩) ((And.intro x_k_z12 (And.intro x_f_z12 x_t_z12))) ?_
  rotate_left
  · intro wq hSq
    go_simp
    exact rfl
  try simp only [Act.put, List.setIfInBounds_toArray, List.set_cons_zero, List.set_cons_succ]
  refine takeH 15 35 (v := ?vz15_14) rfl (by rfl) (by kernel_rfl) (by kernel_rfl) (by kernel_rfl) (fun _ _ _ h => h) (Or.inl ⟨by rfl, ?_⟩) ((And.intro x_k_z12 (And.intro x_f_z12 x_t_z12))) ?_
  rotate_left
  · intro wq hSq
    go_simp
    exact rfl
  try simp only [Act.put, List.setIfInBounds_toArray, List.set_cons_zero, List.set_cons_succ]
  refine takeH 16 4 (v := ?vz16_15) rfl (by rfl) (by kernel_rfl) (by kernel_rfl) (by kernel_rfl) (fun _ _ _ h => h) (Or.inl ⟨by rfl, ?_⟩) ((And.intro x_k_z12 (And.intro x_f_z12 x_t_z12))) ?_
  rotate_left
  · intro wq hSq
    go_simp
    exact rfl
  try simp only [Act.put, List.setIfInBounds_toArray, List.set_cons_zero, List.set_cons_succ]
  refine wpAnyH_done (by kernel_rfl) ?_ _
  go_wp2_with fail
  go_returns
  exact ⟨rfl, Bz12⟩

set_option maxRecDepth 100000 in
set_option maxHeartbeats 6400000 in
theorem rtrue_f {S : List Int} (f : Frm) (hS : S.length = 32) (hSb : Byts S) (h0 : f.kd = 1) (h : HasKey f.r.k.t f.r.k.e) (h2 : minted S f.r.k ≠ f.r.g) (w : World) : Calls Tryd.prog 39 #[(.agg (S.map (Value.int .u8)).toArray), (.agg (mcell f).toArray)] w fun e w' => e = .returned (.bool false) ∧ Below w.heap.size w w' := by
  have I := fun W => ris_is (b := true) (⟨fun _ => h, fun _ => rfl⟩) W
  have A := fun (W : World) => rkey_is hS hSb f.r.k.ht f.r.k.he W
  have B := fun (W : World) => rverify_is f.r.k f.r.hg (q := 22) (tkeyL_len S f.r.k.t f.r.k.e) (tkeyL_byts S f.r.k.t f.r.k.e) (Lib.hid (ver11_f h2)) W
  have v0 : (mcell f)[0]? = some (.int .u8 1) := by rw [← h0]; rfl
  have DT := Lib.hid (mcell_t f)
  have SP := Lib.hid (size_tok f.r.k f.r.hg); have LP : Hid (zeroTk.length = (tcell f.r.k f.r.g).length) := Lib.hid (len_tok Nums.zero f.r.k zd32 f.r.hg); have OP := Lib.hid (tcell_one f.r.k f.r.g)
  have SK := Lib.hid (size_dig hS); have LK := Lib.hid (len_dig hS); have OK := Lib.hid (oneCell_ints (k := .u8) S)
  have SV := Lib.hid (size_frm f); have LV := Lib.hid (len_frm Frm.zero f); have OV := Lib.hid (one_frm f)
  have p0 : (tcell f.r.k f.r.g)[0]? = some (.int .u32 f.r.k.t) := rfl; have p2 : (tcell f.r.k f.r.g)[2]? = some (.int .u32 f.r.k.e) := rfl
  obtain ⟨R, hR⟩ : ∃ X, (Value.int .u16 f.r.ep :: .int .u32 f.r.co :: ccell f.c) = X := ⟨_, rfl⟩
  rw [hR] at DT
  clear hR
  obtain ⟨P, hP⟩ : ∃ X, tcell f.r.k f.r.g = X := ⟨_, rfl⟩
  rw [hP] at SP LP OP DT p0 p2 B
  clear hP
  obtain ⟨V, hV⟩ : ∃ X, mcell f = X := ⟨_, rfl⟩
  rw [hV] at SV LV OV DT v0 ⊢
  clear hV
  obtain ⟨Q, hQ⟩ : ∃ X, (tkeyL S f.r.k.t f.r.k.e).map (Value.int .u8) = X := ⟨_, rfl⟩
  rw [hQ] at A B
  clear hQ
  obtain ⟨C, hC⟩ : ∃ X, S.map (Value.int .u8) = X := ⟨_, rfl⟩
  rw [hC] at SK A ⊢
  clear hC
  clear hS h h0 LV OV hSb h2
  go_enter Tryd.func39, Tryd.ntmps39
  go_upto_region 1 with fail
  refine F_gen (F := fun W => Code.wp _ _ _ _ W) (J := fun W => Box W (w.heap.size) (C) ∧ Box W (w.heap.size + 1) (V) ∧ Below w.heap.size w W) (And.intro (Box.alloc (Box.newc rfl rfl) _) (And.intro (Box.newc rfl (by simp)) (by go_grown))) ?_
  intro w0 ⟨e_k, e_f, hB0⟩
  have hs0 := hB0.size
  have x_k0 := e_k; clear e_k
  have x_f0 := e_f; clear e_f
  have ca := (x_f0).c 0 _ v0
  have za := (x_f0).lt
  have d_t_k := (x_k0).lt
  have d_t_f := (x_f0).lt
  have d_t_0 := hs0
  go_upto_region 4 with (first
    | (refine wpList_load_rangew rfl _ _ rfl (Box.rangeMid x_f0 1 (P) (R) DT.out) rfl Tryd.underlying30 rfl SP.out ?_)
    | (refine wpList_store_box (cs := P) rfl _ _ _ rfl (Box.newc (l := zeroTk) rfl rfl) rfl rfl SP.out LP.out OP.out ?_; intro W0_0 hW0_0))
  have hN : Below w0.heap.size w0 W0_0 := (hW0_0.below _ _ (by omega) ((Below.refl _ w0).alloc (Nat.le_refl _) _))
  have x_t1 : Box W0_0 (w0.heap.size) (P) := hW0_0.box
  have hB1 : Below w.heap.size w W0_0 := below_thru hB0 hN
  have hs1 := hB1.size
  have x_k1 : Box W0_0 (w.heap.size) (C) := Box.below x_k0 hN
  have x_f1 : Box W0_0 (w.heap.size + 1) (V) := Box.below x_f0 hN
  clear hB0 hs0 x_k0 x_f0
  clear hN hW0_0
  clear ca za
  refine wp_region_held_drew (S := fun W => Box W (w.heap.size) (C) ∧ Box W (w.heap.size + 1) (V) ∧ Box W (w0.heap.size) (P)) (by kernel_rfl) (And.intro (x_k1).drew (And.intro (x_f1).drew (x_t1).drew)) (fun _ => ?_)
  refine F_drew (F := fun W => wpAnyH _ _ _ _ _ _ _ _ W) ?_
  intro Wz0 hbz0
  clear hs1
  have x_k_z0 : Box Wz0 (w.heap.size) (C) := Box.below x_k1 hbz0
  have x_f_z0 : Box Wz0 (w.heap.size + 1) (V) := Box.below x_f1 hbz0
  have x_t_z0 : Box Wz0 (w0.heap.size) (P) := Box.below x_t1 hbz0
  have Bz0 := below_thru hB1 hbz0
  clear x_k1 x_f1 x_t1 hB1 hbz0
  refine takeH 0 20 (v := ?vz0_1) rfl (by rfl) (by kernel_rfl) (by kernel_rfl) (by kernel_rfl) (fun _ _ _ h => h) (Or.inl ⟨by rfl, ?_⟩) ((And.intro x_k_z0 (And.intro x_f_z0 x_t_z0))) ?_
  rotate_left
  · intro wq hSq
    go_simp
    exact rfl
  try simp only [Act.put, List.setIfInBounds_toArray, List.set_cons_zero, List.set_cons_succ]
  refine takeH 1 21 (v := ?vz1_2) rfl (by rfl) (by kernel_rfl) (by kernel_rfl) (by kernel_rfl) (fun _ _ _ h => h) (Or.inl ⟨by rfl, ?_⟩) ((And.intro x_k_z0 (And.intro x_f_z0 x_t_z0))) ?_
  rotate_left
  · intro wq hSq
    have cq := (hSq.2.2).c 0 _ p0
    have zq := lt_of_cell cq
    go_simp
    exact rfl
  try simp only [Act.put, List.setIfInBounds_toArray, List.set_cons_zero, List.set_cons_succ]
  refine takeH 2 22 (v := ?vz2_3) rfl (by rfl) (by kernel_rfl) (by kernel_rfl) (by kernel_rfl) (fun _ _ _ h => h) (Or.inl ⟨by rfl, ?_⟩) ((And.intro x_k_z0 (And.intro x_f_z0 x_t_z0))) ?_
  rotate_left
  · intro wq hSq
    go_simp
    exact rfl
  try simp only [Act.put, List.setIfInBounds_toArray, List.set_cons_zero, List.set_cons_succ]
  refine takeH 3 23 (v := ?vz3_4) rfl (by rfl) (by kernel_rfl) (by kernel_rfl) (by kernel_rfl) (fun _ _ _ h => h) (Or.inl ⟨by rfl, ?_⟩) ((And.intro x_k_z0 (And.intro x_f_z0 x_t_z0))) ?_
  rotate_left
  · intro wq hSq
    have cq := (hSq.2.2).c 2 _ p2
    have zq := lt_of_cell cq
    go_simp
    exact rfl
  try simp only [Act.put, List.setIfInBounds_toArray, List.set_cons_zero, List.set_cons_succ]
  refine wpAnyH_ready (rs := [4]) (by kernel_rfl) (by simp) (AllReadyH.cons rfl (fun K hK => ?_) AllReadyH.nil)
  go_simp
  refine (I _).mono ?_
  rintro e Wz5 ⟨rfl, hbz5⟩
  have x_k_z5 : Box Wz5 (w.heap.size) (C) := Box.below x_k_z0 hbz5
  have x_f_z5 : Box Wz5 (w.heap.size + 1) (V) := Box.below x_f_z0 hbz5
  have x_t_z5 : Box Wz5 (w0.heap.size) (P) := Box.below x_t_z0 hbz5
  have Bz5 := below_thru Bz0 hbz5
  clear x_k_z0 x_f_z0 x_t_z0 Bz0 hbz5
  refine hK.out _ _ (And.intro x_k_z5 (And.intro x_f_z5 x_t_z5)) (fun _ => ?_); clear hK K
  refine takeH 5 25 (v := ?vz5_6) rfl (by rfl) (by kernel_rfl) (by kernel_rfl) (by kernel_rfl) (fun _ _ _ h => h) (Or.inl ⟨by rfl, ?_⟩) ((And.intro x_k_z5 (And.intro x_f_z5 x_t_z5))) ?_
  rotate_left
  · intro wq hSq
    go_simp
    exact rfl
  try simp only [Act.put, List.setIfInBounds_toArray, List.set_cons_zero, List.set_cons_succ]
  refine takeH 7 27 (v := ?vz7_7) rfl (by rfl) (by kernel_rfl) (by kernel_rfl) (by kernel_rfl) (fun _ _ _ h => h) (Or.inl ⟨by rfl, ?_⟩) ((And.intro x_k_z5 (And.intro x_f_z5 x_t_z5))) ?_
  rotate_left
  · intro wq hSq
    go_simp
    exact rfl
  try simp only [Act.put, List.setIfInBounds_toArray, List.set_cons_zero, List.set_cons_succ]
  refine takeH 8 28 (v := ?vz8_8) rfl (by rfl) (by kernel_rfl) (by kernel_rfl) (by kernel_rfl) (fun _ _ _ h => h) (Or.inl ⟨by rfl, ?_⟩) ((And.intro x_k_z5 (And.intro x_f_z5 x_t_z5))) ?_
  rotate_left
  · intro wq hSq
    have cq := (hSq.2.2).c 0 _ p0
    have zq := lt_of_cell cq
    go_simp
    exact rfl
  try simp only [Act.put, List.setIfInBounds_toArray, List.set_cons_zero, List.set_cons_succ]
  refine takeH 9 29 (v := ?vz9_9) rfl (by rfl) (by kernel_rfl) (by kernel_rfl) (by kernel_rfl) (fun _ _ _ h => h) (Or.inl ⟨by rfl, ?_⟩) ((And.intro x_k_z5 (And.intro x_f_z5 x_t_z5))) ?_
  rotate_left
  · intro wq hSq
    go_simp
    exact rfl
  try simp only [Act.put, List.setIfInBounds_toArray, List.set_cons_zero, List.set_cons_succ]
  refine takeH 10 30 (v := ?vz10_10) rfl (by rfl) (by kernel_rfl) (by kernel_rfl) (by kernel_rfl) (fun _ _ _ h => h) (Or.inl ⟨by rfl, ?_⟩) ((And.intro x_k_z5 (And.intro x_f_z5 x_t_z5))) ?_
  rotate_left
  · intro wq hSq
    have cq := (hSq.2.2).c 2 _ p2
    have zq := lt_of_cell cq
    go_simp
    exact rfl
  try simp only [Act.put, List.setIfInBounds_toArray, List.set_cons_zero, List.set_cons_succ]
  refine takeH 6 26 (v := .agg (C).toArray) rfl (by rfl) (by kernel_rfl) (by kernel_rfl) (by kernel_rfl) (fun _ _ _ h => h) (yieldsIf_load_mid (by rfl) _ _ rfl _ _ rfl (C) _ (fun wq hq => Box.range (hq.1)) Tryd.underlying23 rfl SK.out) ((And.intro x_k_z5 (And.intro x_f_z5 x_t_z5))) ?_
  try simp only [Act.put, List.setIfInBounds_toArray, List.set_cons_zero, List.set_cons_succ]
  refine takeH 12 32 (v := .agg (P).toArray) rfl (by rfl) (by kernel_rfl) (by kernel_rfl) (by kernel_rfl) (fun _ _ _ h => h) (yieldsIf_load_mid (by rfl) _ _ rfl _ _ rfl (P) _ (fun wq hq => Box.range (hq.2.2)) Tryd.underlying30 rfl SP.out) ((And.intro x_k_z5 (And.intro x_f_z5 x_t_z5))) ?_
  try simp only [Act.put, List.setIfInBounds_toArray, List.set_cons_zero, List.set_cons_succ]
  refine wpAnyH_ready (rs := [11]) (by kernel_rfl) (by simp) (AllReadyH.cons rfl (fun K hK => ?_) AllReadyH.nil)
  go_simp
  refine (A _).mono ?_
  rintro e Wz11 ⟨rfl, hbz11⟩
  have x_k_z11 : Box Wz11 (w.heap.size) (C) := Box.below x_k_z5 hbz11
  have x_f_z11 : Box Wz11 (w.heap.size + 1) (V) := Box.below x_f_z5 hbz11
  have x_t_z11 : Box Wz11 (w0.heap.size) (P) := Box.below x_t_z5 hbz11
  have Bz11 := below_thru Bz5 hbz11
  clear x_k_z5 x_f_z5 x_t_z5 Bz5 hbz11
  refine hK.out _ _ (And.intro x_k_z11 (And.intro x_f_z11 x_t_z11)) (fun _ => ?_); clear hK K
  refine wpAnyH_ready (rs := [13]) (by kernel_rfl) (by simp) (AllReadyH.cons rfl (fun K hK => ?_) AllReadyH.nil)
  go_simp
  refine (B _).mono ?_
  rintro e Wz12 ⟨rfl, hbz12⟩
  have x_k_z12 : Box Wz12 (w.heap.size) (C) := Box.below x_k_z11 hbz12
  have x_f_z12 : Box Wz12 (w.heap.size + 1) (V) := Box.below x_f_z11 hbz12
  have x_t_z12 : Box Wz12 (w0.heap.size) (P) := Box.below x_t_z11 hbz12
  have Bz12 := below_thru Bz11 hbz12
  clear x_k_z11 x_f_z11 x_t_z11 Bz11 hbz12
  refine hK.out _ _ (And.intro x_k_z12 (And.intro x_f_z12 x_t_z12)) (fun _ => ?_); clear hK K
  refine takeH 14 34 (v := ?vz14_13) rfl (by rfl) (by kernel_rfl) (by kernel_rfl) (by kernel_rfl) (fun _ _ _ h => h) (Or.inl ⟨by rfl, ?_⟩) ((And.intro x_k_z12 (And.intro x_f_z12 x_t_z12))) ?_
  rotate_left
  · intro wq hSq
    go_simp
    exact rfl
  try simp only [Act.put, List.setIfInBounds_toArray, List.set_cons_zero, List.set_cons_succ]
  refine takeH 15 35 (v := ?vz15_14) rfl (by rfl) (by kernel_rfl) (by kernel_rfl) (by kernel_rfl) (fun _ _ _ h => h) (Or.inl ⟨by rfl, ?_⟩) ((And.intro x_k_z12 (And.intro x_f_z12 x_t_z12))) ?_
  rotate_left
  · intro wq hSq
    go_simp
    exact rfl
  try simp only [Act.put, List.setIfInBounds_toArray, List.set_cons_zero, List.set_cons_succ]
  refine takeH 16 4 (v := ?vz16_15) rfl (by rfl) (by kernel_rfl) (by kernel_rfl) (by kernel_rfl) (fun _ _ _ h => h) (Or.inl ⟨by rfl, ?_⟩) ((And.intro x_k_z12 (And.intro x_f_z12 x_t_z12))) ?_
  rotate_left
  · intro wq hSq
    go_simp
    exact rfl
  try simp only [Act.put, List.setIfInBounds_toArray, List.set_cons_zero, List.set_cons_succ]
  refine wpAnyH_done (by kernel_rfl) ?_ _
  go_wp2_with fail
  go_returns
  exact ⟨rfl, Bz12⟩

set_option maxRecDepth 100000 in
set_option maxHeartbeats 6400000 in
theorem rtrue_n {S : List Int} (f : Frm) (hS : S.length = 32)  (h0 : f.kd = 1) (h : ¬ HasKey f.r.k.t f.r.k.e) (w : World) : Calls Tryd.prog 39 #[(.agg (S.map (Value.int .u8)).toArray), (.agg (mcell f).toArray)] w fun e w' => e = .returned (.bool false) ∧ Below w.heap.size w w' := by
  have I := fun W => ris_is (b := false) (⟨fun g => (Bool.false_ne_true g).elim, fun g => absurd g h⟩) W
  have v0 : (mcell f)[0]? = some (.int .u8 1) := by rw [← h0]; rfl
  have DT := Lib.hid (mcell_t f)
  have SP := Lib.hid (size_tok f.r.k f.r.hg); have LP : Hid (zeroTk.length = (tcell f.r.k f.r.g).length) := Lib.hid (len_tok Nums.zero f.r.k zd32 f.r.hg); have OP := Lib.hid (tcell_one f.r.k f.r.g)
  have SK := Lib.hid (size_dig hS); have LK := Lib.hid (len_dig hS); have OK := Lib.hid (oneCell_ints (k := .u8) S)
  have SV := Lib.hid (size_frm f); have LV := Lib.hid (len_frm Frm.zero f); have OV := Lib.hid (one_frm f)
  have p0 : (tcell f.r.k f.r.g)[0]? = some (.int .u32 f.r.k.t) := rfl; have p2 : (tcell f.r.k f.r.g)[2]? = some (.int .u32 f.r.k.e) := rfl
  obtain ⟨R, hR⟩ : ∃ X, (Value.int .u16 f.r.ep :: .int .u32 f.r.co :: ccell f.c) = X := ⟨_, rfl⟩
  rw [hR] at DT
  clear hR
  obtain ⟨P, hP⟩ : ∃ X, tcell f.r.k f.r.g = X := ⟨_, rfl⟩
  rw [hP] at SP LP OP DT p0 p2
  clear hP
  obtain ⟨V, hV⟩ : ∃ X, mcell f = X := ⟨_, rfl⟩
  rw [hV] at SV LV OV DT v0 ⊢
  clear hV
  obtain ⟨C, hC⟩ : ∃ X, S.map (Value.int .u8) = X := ⟨_, rfl⟩
  rw [hC] at SK ⊢
  clear hC
  clear hS h h0 LV OV
  go_enter Tryd.func39, Tryd.ntmps39
  go_upto_region 1 with fail
  refine F_gen (F := fun W => Code.wp _ _ _ _ W) (J := fun W => Box W (w.heap.size) (C) ∧ Box W (w.heap.size + 1) (V) ∧ Below w.heap.size w W) (And.intro (Box.alloc (Box.newc rfl rfl) _) (And.intro (Box.newc rfl (by simp)) (by go_grown))) ?_
  intro w0 ⟨e_k, e_f, hB0⟩
  have hs0 := hB0.size
  have x_k0 := e_k; clear e_k
  have x_f0 := e_f; clear e_f
  have ca := (x_f0).c 0 _ v0
  have za := (x_f0).lt
  have d_t_k := (x_k0).lt
  have d_t_f := (x_f0).lt
  have d_t_0 := hs0
  go_upto_region 4 with (first
    | (refine wpList_load_rangew rfl _ _ rfl (Box.rangeMid x_f0 1 (P) (R) DT.out) rfl Tryd.underlying30 rfl SP.out ?_)
    | (refine wpList_store_box (cs := P) rfl _ _ _ rfl (Box.newc (l := zeroTk) rfl rfl) rfl rfl SP.out LP.out OP.out ?_; intro W0_0 hW0_0))
  have hN : Below w0.heap.size w0 W0_0 := (hW0_0.below _ _ (by omega) ((Below.refl _ w0).alloc (Nat.le_refl _) _))
  have x_t1 : Box W0_0 (w0.heap.size) (P) := hW0_0.box
  have hB1 : Below w.heap.size w W0_0 := below_thru hB0 hN
  have hs1 := hB1.size
  have x_k1 : Box W0_0 (w.heap.size) (C) := Box.below x_k0 hN
  have x_f1 : Box W0_0 (w.heap.size + 1) (V) := Box.below x_f0 hN
  clear hB0 hs0 x_k0 x_f0
  clear hN hW0_0
  clear ca za
  refine wp_region_held_drew (S := fun W => Box W (w.heap.size) (C) ∧ Box W (w.heap.size + 1) (V) ∧ Box W (w0.heap.size) (P)) (by kernel_rfl) (And.intro (x_k1).drew (And.intro (x_f1).drew (x_t1).drew)) (fun _ => ?_)
  refine F_drew (F := fun W => wpAnyH _ _ _ _ _ _ _ _ W) ?_
  intro Wz0 hbz0
  clear hs1
  have x_k_z0 : Box Wz0 (w.heap.size) (C) := Box.below x_k1 hbz0
  have x_f_z0 : Box Wz0 (w.heap.size + 1) (V) := Box.below x_f1 hbz0
  have x_t_z0 : Box Wz0 (w0.heap.size) (P) := Box.below x_t1 hbz0
  have Bz0 := below_thru hB1 hbz0
  clear x_k1 x_f1 x_t1 hB1 hbz0
  refine takeH 0 20 (v := ?vz0_1) rfl (by rfl) (by kernel_rfl) (by kernel_rfl) (by kernel_rfl) (fun _ _ _ h => h) (Or.inl ⟨by rfl, ?_⟩) ((And.intro x_k_z0 (And.intro x_f_z0 x_t_z0))) ?_
  rotate_left
  · intro wq hSq
    go_simp
    exact rfl
  try simp only [Act.put, List.setIfInBounds_toArray, List.set_cons_zero, List.set_cons_succ]
  refine takeH 1 21 (v := ?vz1_2) rfl (by rfl) (by kernel_rfl) (by kernel_rfl) (by kernel_rfl) (fun _ _ _ h => h) (Or.inl ⟨by rfl, ?_⟩) ((And.intro x_k_z0 (And.intro x_f_z0 x_t_z0))) ?_
  rotate_left
  · intro wq hSq
    have cq := (hSq.2.2).c 0 _ p0
    have zq := lt_of_cell cq
    go_simp
    exact rfl
  try simp only [Act.put, List.setIfInBounds_toArray, List.set_cons_zero, List.set_cons_succ]
  refine takeH 2 22 (v := ?vz2_3) rfl (by rfl) (by kernel_rfl) (by kernel_rfl) (by kernel_rfl) (fun _ _ _ h => h) (Or.inl ⟨by rfl, ?_⟩) ((And.intro x_k_z0 (And.intro x_f_z0 x_t_z0))) ?_
  rotate_left
  · intro wq hSq
    go_simp
    exact rfl
  try simp only [Act.put, List.setIfInBounds_toArray, List.set_cons_zero, List.set_cons_succ]
  refine takeH 3 23 (v := ?vz3_4) rfl (by rfl) (by kernel_rfl) (by kernel_rfl) (by kernel_rfl) (fun _ _ _ h => h) (Or.inl ⟨by rfl, ?_⟩) ((And.intro x_k_z0 (And.intro x_f_z0 x_t_z0))) ?_
  rotate_left
  · intro wq hSq
    have cq := (hSq.2.2).c 2 _ p2
    have zq := lt_of_cell cq
    go_simp
    exact rfl
  try simp only [Act.put, List.setIfInBounds_toArray, List.set_cons_zero, List.set_cons_succ]
  refine wpAnyH_ready (rs := [4]) (by kernel_rfl) (by simp) (AllReadyH.cons rfl (fun K hK => ?_) AllReadyH.nil)
  go_simp
  refine (I _).mono ?_
  rintro e Wz5 ⟨rfl, hbz5⟩
  have x_k_z5 : Box Wz5 (w.heap.size) (C) := Box.below x_k_z0 hbz5
  have x_f_z5 : Box Wz5 (w.heap.size + 1) (V) := Box.below x_f_z0 hbz5
  have x_t_z5 : Box Wz5 (w0.heap.size) (P) := Box.below x_t_z0 hbz5
  have Bz5 := below_thru Bz0 hbz5
  clear x_k_z0 x_f_z0 x_t_z0 Bz0 hbz5
  refine hK.out _ _ (And.intro x_k_z5 (And.intro x_f_z5 x_t_z5)) (fun _ => ?_); clear hK K
  refine takeH 5 25 (v := ?vz5_6) rfl (by rfl) (by kernel_rfl) (by kernel_rfl) (by kernel_rfl) (fun _ _ _ h => h) (Or.inl ⟨by rfl, ?_⟩) ((And.intro x_k_z5 (And.intro x_f_z5 x_t_z5))) ?_
  rotate_left
  · intro wq hSq
    go_simp
    exact rfl
  try simp only [Act.put, List.setIfInBounds_toArray, List.set_cons_zero, List.set_cons_succ]
  refine takeH 6 26 (v := undef) rfl (by rfl) (by kernel_rfl) (by kernel_rfl) (by kernel_rfl) (fun _ _ _ h => h) (Or.inr ⟨by rfl, rfl⟩) ((And.intro x_k_z5 (And.intro x_f_z5 x_t_z5))) ?_
  try simp only [Act.put, List.setIfInBounds_toArray, List.set_cons_zero, List.set_cons_succ]
  refine takeH 7 27 (v := undef) rfl (by rfl) (by kernel_rfl) (by kernel_rfl) (by kernel_rfl) (fun _ _ _ h => h) (Or.inr ⟨by rfl, rfl⟩) ((And.intro x_k_z5 (And.intro x_f_z5 x_t_z5))) ?_
  try simp only [Act.put, List.setIfInBounds_toArray, List.set_cons_zero, List.set_cons_succ]
  refine takeH 8 28 (v := undef) rfl (by rfl) (by kernel_rfl) (by kernel_rfl) (by kernel_rfl) (fun _ _ _ h => h) (Or.inr ⟨by rfl, rfl⟩) ((And.intro x_k_z5 (And.intro x_f_z5 x_t_z5))) ?_
  try simp only [Act.put, List.setIfInBounds_toArray, List.set_cons_zero, List.set_cons_succ]
  refine takeH 9 29 (v := undef) rfl (by rfl) (by kernel_rfl) (by kernel_rfl) (by kernel_rfl) (fun _ _ _ h => h) (Or.inr ⟨by rfl, rfl⟩) ((And.intro x_k_z5 (And.intro x_f_z5 x_t_z5))) ?_
  try simp only [Act.put, List.setIfInBounds_toArray, List.set_cons_zero, List.set_cons_succ]
  refine takeH 10 30 (v := undef) rfl (by rfl) (by kernel_rfl) (by kernel_rfl) (by kernel_rfl) (fun _ _ _ h => h) (Or.inr ⟨by rfl, rfl⟩) ((And.intro x_k_z5 (And.intro x_f_z5 x_t_z5))) ?_
  try simp only [Act.put, List.setIfInBounds_toArray, List.set_cons_zero, List.set_cons_succ]
  refine takeH 11 31 (v := undef) rfl (by rfl) (by kernel_rfl) (by kernel_rfl) (by kernel_rfl) (fun _ _ _ h => h) (Or.inr ⟨by rfl, rfl⟩) ((And.intro x_k_z5 (And.intro x_f_z5 x_t_z5))) ?_
  try simp only [Act.put, List.setIfInBounds_toArray, List.set_cons_zero, List.set_cons_succ]
  refine takeH 12 32 (v := undef) rfl (by rfl) (by kernel_rfl) (by kernel_rfl) (by kernel_rfl) (fun _ _ _ h => h) (Or.inr ⟨by rfl, rfl⟩) ((And.intro x_k_z5 (And.intro x_f_z5 x_t_z5))) ?_
  try simp only [Act.put, List.setIfInBounds_toArray, List.set_cons_zero, List.set_cons_succ]
  refine takeH 13 33 (v := undef) rfl (by rfl) (by kernel_rfl) (by kernel_rfl) (by kernel_rfl) (fun _ _ _ h => h) (Or.inr ⟨by rfl, rfl⟩) ((And.intro x_k_z5 (And.intro x_f_z5 x_t_z5))) ?_
  try simp only [Act.put, List.setIfInBounds_toArray, List.set_cons_zero, List.set_cons_succ]
  refine takeH 14 34 (v := undef) rfl (by rfl) (by kernel_rfl) (by kernel_rfl) (by kernel_rfl) (fun _ _ _ h => h) (Or.inr ⟨by rfl, rfl⟩) ((And.intro x_k_z5 (And.intro x_f_z5 x_t_z5))) ?_
  try simp only [Act.put, List.setIfInBounds_toArray, List.set_cons_zero, List.set_cons_succ]
  refine takeH 15 35 (v := ?vz15_7) rfl (by rfl) (by kernel_rfl) (by kernel_rfl) (by kernel_rfl) (fun _ _ _ h => h) (Or.inl ⟨by rfl, ?_⟩) ((And.intro x_k_z5 (And.intro x_f_z5 x_t_z5))) ?_
  rotate_left
  · intro wq hSq
    go_simp
    exact rfl
  try simp only [Act.put, List.setIfInBounds_toArray, List.set_cons_zero, List.set_cons_succ]
  refine takeH 16 4 (v := ?vz16_8) rfl (by rfl) (by kernel_rfl) (by kernel_rfl) (by kernel_rfl) (fun _ _ _ h => h) (Or.inl ⟨by rfl, ?_⟩) ((And.intro x_k_z5 (And.intro x_f_z5 x_t_z5))) ?_
  rotate_left
  · intro wq hSq
    go_simp
    exact rfl
  try simp only [Act.put, List.setIfInBounds_toArray, List.set_cons_zero, List.set_cons_succ]
  refine wpAnyH_done (by kernel_rfl) ?_ _
  go_wp2_with fail
  go_returns
  exact ⟨rfl, Bz5⟩

theorem rtrue_is {S : List Int} (f : Frm) (hS : S.length = 32) (hSb : Byts S) (h : f.Ok) {b : Bool} (hb : b = true ↔ Tru S f) (w : World) : Calls Tryd.prog 39 #[(.agg (S.map (Value.int .u8)).toArray), (.agg (mcell f).toArray)] w fun e w' => e = .returned (.bool b) ∧ Below w.heap.size w w' := by
  rcases id h with ⟨h0, _⟩ | ⟨h0, _⟩
  · have hb := hb.trans (Tru.of1 (by rw [h0]; decide))
    by_cases h1 : HasKey f.r.k.t f.r.k.e
    · by_cases h2 : minted S f.r.k = f.r.g
      · rw [hb.2 ⟨h1, h2⟩]
        exact rtrue_t f hS hSb h0 h1 h2 w
      · rw [show b = false by cases b; rfl; exact absurd (hb.1 rfl).2 h2]
        exact rtrue_f f hS hSb h0 h1 h2 w
    · rw [show b = false by cases b; rfl; exact absurd (hb.1 rfl).1 h1]
      exact rtrue_n f hS h0 h1 w
  · exact rtrue_2 f hS hSb h h0 (hb.trans (Tru.of2 h0)) w

set_option maxRecDepth 100000 in
set_option maxHeartbeats 6400000 in
theorem rright_t {S : List Int} (f : Frm) (hS : S.length = 32) (hSb : Byts S) (h : f.Ok) {b : Bool} (hb : b = true ↔ Tru S f) (w : World) : Calls Tryd.prog 21 #[(.agg (S.map (Value.int .u8)).toArray), (.agg (mcell f).toArray)] w fun e w' => e = .returned (.tuple #[.bool b, .int .i64 0]) ∧ Below w.heap.size w w' := by
  have CK := fun W => rchk_is f (q := 0) (Lib.hid (Or.inl ⟨rfl, h⟩)) W
  have A := fun (W : World) => rtrue_is f hS hSb h hb W
  have SK := Lib.hid (size_dig hS); have LK := Lib.hid (len_dig hS); have OK := Lib.hid (oneCell_ints (k := .u8) S)
  have SV := Lib.hid (size_frm f); have LV := Lib.hid (len_frm Frm.zero f); have OV := Lib.hid (one_frm f)
  obtain ⟨V, hV⟩ : ∃ X, mcell f = X := ⟨_, rfl⟩
  rw [hV] at SV LV OV CK A ⊢
  clear hV
  obtain ⟨C, hC⟩ : ∃ X, S.map (Value.int .u8) = X := ⟨_, rfl⟩
  rw [hC] at SK A ⊢
  clear hC
  clear hS h LV OV hSb hb
  go_enter Tryd.func21, Tryd.ntmps21
  go_upto_region 1 with fail
  refine F_gen (F := fun W => Code.wp _ _ _ _ W) (J := fun W => Box W (w.heap.size) (C) ∧ Box W (w.heap.size + 1) (V) ∧ Below w.heap.size w W) (And.intro (Box.alloc (Box.newc rfl rfl) _) (And.intro (Box.newc rfl (by simp)) (by go_grown))) ?_
  intro w0 ⟨e_k, e_f, hB0⟩
  have hs0 := hB0.size
  have x_k0 := e_k; clear e_k
  have x_f0 := e_f; clear e_f
  go_wp2_with (refine wpList_load_box9 rfl _ _ rfl x_f0 rfl Tryd.underlying46 rfl SV.out ?_)
  refine (CK _).mono ?_
  rintro e w1 ⟨rfl, hb⟩
  have hB1 : Below w.heap.size w w1 := below_thru hB0 hb
  have hs1 := hB1.size
  have x_k1 : Box w1 (w.heap.size) (C) := Box.below x_k0 hb
  have x_f1 : Box w1 (w.heap.size + 1) (V) := Box.below x_f0 hb
  clear hB0 hs0 x_k0 x_f0
  clear hb
  go_wp2_with (first
    | (refine wpList_load_box9 rfl _ _ rfl x_k1 rfl Tryd.underlying23 rfl SK.out ?_)
    | (refine wpList_load_box9 rfl _ _ rfl x_f1 rfl Tryd.underlying46 rfl SV.out ?_))
  refine (A _).mono ?_
  rintro e w2 ⟨rfl, hb⟩
  have hB2 : Below w.heap.size w w2 := below_thru hB1 hb
  have hs2 := hB2.size
  have x_k2 : Box w2 (w.heap.size) (C) := Box.below x_k1 hb
  have x_f2 : Box w2 (w.heap.size + 1) (V) := Box.below x_f1 hb
  clear hB1 hs1 x_k1 x_f1
  clear hb
  go_wp2_with fail
  go_returns
  exact ⟨rfl, hB2⟩

set_option maxRecDepth 100000 in
set_option maxHeartbeats 6400000 in
theorem rright_f {S : List Int} (f : Frm) (hS : S.length = 32) (h : ¬ f.Ok) (w : World) : Calls Tryd.prog 21 #[(.agg (S.map (Value.int .u8)).toArray), (.agg (mcell f).toArray)] w fun e w' => e = .returned (.tuple #[.bool false, .int .i64 8]) ∧ Below w.heap.size w w' := by
  have CK := fun W => rchk_is f (q := 8) (Lib.hid (Or.inr ⟨rfl, h⟩)) W
  have SK := Lib.hid (size_dig hS); have LK := Lib.hid (len_dig hS); have OK := Lib.hid (oneCell_ints (k := .u8) S)
  have SV := Lib.hid (size_frm f); have LV := Lib.hid (len_frm Frm.zero f); have OV := Lib.hid (one_frm f)
  obtain ⟨V, hV⟩ : ∃ X, mcell f = X := ⟨_, rfl⟩
  rw [hV] at SV LV OV CK ⊢
  clear hV
  obtain ⟨C, hC⟩ : ∃ X, S.map (Value.int .u8) = X := ⟨_, rfl⟩
  rw [hC] at SK ⊢
  clear hC
  clear hS h LV OV
  go_enter Tryd.func21, Tryd.ntmps21
  go_upto_region 1 with fail
  refine F_gen (F := fun W => Code.wp _ _ _ _ W) (J := fun W => Box W (w.heap.size) (C) ∧ Box W (w.heap.size + 1) (V) ∧ Below w.heap.size w W) (And.intro (Box.alloc (Box.newc rfl rfl) _) (And.intro (Box.newc rfl (by simp)) (by go_grown))) ?_
  intro w0 ⟨e_k, e_f, hB0⟩
  have hs0 := hB0.size
  have x_k0 := e_k; clear e_k
  have x_f0 := e_f; clear e_f
  go_wp2_with (refine wpList_load_box9 rfl _ _ rfl x_f0 rfl Tryd.underlying46 rfl SV.out ?_)
  refine (CK _).mono ?_
  rintro e w1 ⟨rfl, hb⟩
  have hB1 : Below w.heap.size w w1 := below_thru hB0 hb
  have hs1 := hB1.size
  have x_k1 : Box w1 (w.heap.size) (C) := Box.below x_k0 hb
  have x_f1 : Box w1 (w.heap.size + 1) (V) := Box.below x_f0 hb
  clear hB0 hs0 x_k0 x_f0
  clear hb
  go_wp2_with fail
  go_returns
  exact ⟨rfl, hB1⟩

theorem rright_is {S : List Int} (f : Frm) (hS : S.length = 32) (hSb : Byts S) {b : Bool} {q : Int} (h : RigOf S f b q) (w : World) : Calls Tryd.prog 21 #[(.agg (S.map (Value.int .u8)).toArray), (.agg (mcell f).toArray)] w fun e w' => e = .returned (.tuple #[.bool b, .int .i64 q]) ∧ Below w.heap.size w w' := by
  rcases h with ⟨rfl, h, hb⟩ | ⟨rfl, h, rfl⟩
  · exact rright_t f hS hSb h hb w
  · exact rright_f f hS h w

end Go.Proofs.YtofjpeplgagihaaDoor
