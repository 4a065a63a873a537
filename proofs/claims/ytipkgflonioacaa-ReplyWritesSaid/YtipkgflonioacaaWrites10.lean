/-
  ReplyWrites, walked.
-/
import Derived.Test.YtipkgflonioacaaRRpC
namespace Go.Proofs.Ytipkgflonioacaa
open Go.RowKit

theorem pwr_two (r : Rep) : ∃ (xs : List Int) (q : Int), ((q = 0 ∧ r.Ok ∧ xs = r.bs) ∨ (q = 8 ∧ ¬ r.Ok ∧ xs = [])) ∧ ChkE r q := by
  by_cases h : r.Ok
  · exact ⟨_, _, Or.inl ⟨rfl, h, rfl⟩, Or.inl ⟨rfl, h⟩⟩
  · exact ⟨_, _, Or.inr ⟨rfl, h, rfl⟩, Or.inr ⟨rfl, h⟩⟩
set_option maxRecDepth 100000 in
set_option maxHeartbeats 6400000 in
theorem writes10_is (r : Rep) (n : Int) (hn : 0 ≤ n ∧ n ≤ 255) (w : World) : Calls Try.prog 4 #[.agg r.v.toArray, .int .u8 n] w fun e w' => e = .returned (.bool true) ∧ Below w.heap.size w w' := by
  obtain ⟨XS, q, h1, h2⟩ := pwr_two r
  obtain ⟨G, qc, h3⟩ := CodeOf.two n hn
  have A1 := fun W => code_is n hn h3 W; have A2 := fun W => rcode_is n hn h3 W; have A3 := fun W => pwr_is r h1 W; have A4 := fun W => rpwr_is r h1 W; have A7 := fun W => chk_is r (Lib.hid h2) W; have A8 := fun W => rchk_is r (Lib.hid h2) W
  have SV := Lib.hid (size_rep r); have SG := Lib.hid (size_rep G); have LG := Lib.hid (len_rep Rep.zero G); have OG := Lib.hid (one_rep G); have EQ := fun W => eqp_t (rfl : G = G) W
  obtain ⟨V, hV⟩ : ∃ V, r.v = V := ⟨_, rfl⟩
  obtain ⟨U, hU⟩ : ∃ V, G.v = V := ⟨_, rfl⟩
  rw [hV] at SV A3 A4 A7 A8 ⊢
  rw [hU] at A1 A2 SG LG OG EQ
  clear hV hU h1 h2 h3
  go_enter Try.func4, Try.ntmps4
  go_upto_region 1 with fail
  refine F_gen (F := fun W => Code.wp _ _ _ _ W) (J := fun W => Box W (w.heap.size) (V) ∧ Below w.heap.size w W) (And.intro (Box.newc rfl rfl) (by go_grown)) ?_
  intro w0 ⟨e_r, hB0⟩
  have hs0 := hB0.size
  have x_r0 := e_r; clear e_r
  go_wp2_with fail
  refine (A1 _).mono ?_
  rintro e w1 ⟨rfl, hb⟩
  clear A1
  have hB1 : Below w.heap.size w w1 := below_thru hB0 hb
  have hs1 := hB1.size
  have x_r1 : Box w1 (w.heap.size) (V) := Box.below x_r0 hb
  clear hB0 hs0 x_r0
  clear hb
  have d_a_r := (x_r1).lt
  have d_a_0 := hs1
  go_upto_region 2 with (refine wpList_store_box (cs := U) rfl _ _ _ rfl (Box.newc (l := Rep.zero.v) rfl rfl) rfl rfl SG.out LG.out OG.out ?_; intro W1_0 hW1_0)
  have hN : Below w1.heap.size w1 W1_0 := (hW1_0.below _ _ (by omega) ((Below.refl _ w1).alloc (Nat.le_refl _) _))
  have x_a2 : Box W1_0 (w1.heap.size) (U) := hW1_0.box
  have hB2 : Below w.heap.size w W1_0 := below_thru hB1 hN
  have hs2 := hB2.size
  have x_r2 : Box W1_0 (w.heap.size) (V) := Box.below x_r1 hN
  clear hB1 hs1 x_r1
  clear hN hW1_0
  go_wp2_with fail
  refine (A2 _).mono ?_
  rintro e w3 ⟨rfl, hb⟩
  clear A2
  have hB3 : Below w.heap.size w w3 := below_thru hB2 hb
  have hs3 := hB3.size
  have x_r3 : Box w3 (w.heap.size) (V) := Box.below x_r2 hb
  have x_a3 : Box w3 (w1.heap.size) (U) := Box.below x_a2 hb
  clear hB2 hs2 x_r2 x_a2
  clear hb
  have d_b_r := (x_r3).lt
  have d_b_a := (x_a3).lt
  have d_b_0 := hs3
  go_upto_region 3 with (refine wpList_store_box (cs := U) rfl _ _ _ rfl (Box.newc (l := Rep.zero.v) rfl rfl) rfl rfl SG.out LG.out OG.out ?_; intro W3_0 hW3_0)
  have hN : Below w3.heap.size w3 W3_0 := (hW3_0.below _ _ (by omega) ((Below.refl _ w3).alloc (Nat.le_refl _) _))
  have x_b4 : Box W3_0 (w3.heap.size) (U) := hW3_0.box
  have hB4 : Below w.heap.size w W3_0 := below_thru hB3 hN
  have hs4 := hB4.size
  have x_r4 : Box W3_0 (w.heap.size) (V) := Box.below x_r3 hN
  have x_a4 : Box W3_0 (w1.heap.size) (U) := Box.below x_a3 hN
  clear hB3 hs3 x_r3 x_a3
  clear hN hW3_0
  go_wp2_with (refine wpList_load_box9 rfl _ _ rfl x_r4 rfl Try.underlying26 rfl SV.out ?_)
  refine (A3 _).mono ?_
  rintro e w5 ⟨va, rfl, hoa, hb⟩
  have hB5 : Below w.heap.size w w5 := below_thru hB4 hb
  have hs5 := hB5.size
  have x_r5 : Box w5 (w.heap.size) (V) := Box.below x_r4 hb
  have x_a5 : Box w5 (w1.heap.size) (U) := Box.below x_a4 hb
  have x_b5 : Box w5 (w3.heap.size) (U) := Box.below x_b4 hb
  clear hB4 hs4 x_r4 x_a4 x_b4
  clear hb
  have J_c5 : Hid (IsL w5 .u8 (va) XS) := Lib.hid (IsL.own hoa rfl)
  clear hoa A3
  go_wp2_with (refine wpList_load_box9 rfl _ _ rfl x_r5 rfl Try.underlying26 rfl SV.out ?_)
  refine (A4 _).mono ?_
  rintro e w6 ⟨vb, rfl, hoa, hb⟩
  have hB6 : Below w.heap.size w w6 := below_thru hB5 hb
  have hs6 := hB6.size
  have x_r6 : Box w6 (w.heap.size) (V) := Box.below x_r5 hb
  have x_a6 : Box w6 (w1.heap.size) (U) := Box.below x_a5 hb
  have x_b6 : Box w6 (w3.heap.size) (U) := Box.below x_b5 hb
  have J_c6 : Hid (IsL w6 .u8 (va) XS) := Lib.hid (IsL.below J_c5.out hb)
  clear hB5 hs5 x_r5 x_a5 x_b5 J_c5
  clear hb
  have J_d6 : Hid (IsL w6 .u8 (vb) XS) := Lib.hid (IsL.own hoa rfl)
  clear hoa A4
  go_upto_region 5 with fail
  refine wp_region_held_drew (S := fun W => Box W (w.heap.size) (V) ∧ Box W (w1.heap.size) (U) ∧ Box W (w3.heap.size) (U)) (by kernel_rfl) (And.intro (x_r6).drew (And.intro (x_a6).drew (x_b6).drew)) (fun _ => ?_)
  refine F_drew (F := fun W => wpAnyH _ _ _ _ _ _ _ _ W) ?_
  intro Wz0 hbz0
  clear hs6
  have x_r_z0 : Box Wz0 (w.heap.size) (V) := Box.below x_r6 hbz0
  have x_a_z0 : Box Wz0 (w1.heap.size) (U) := Box.below x_a6 hbz0
  have x_b_z0 : Box Wz0 (w3.heap.size) (U) := Box.below x_b6 hbz0
  have j_c_z0 := Lib.hid (IsL.below J_c6.out hbz0)
  have j_d_z0 := Lib.hid (IsL.below J_d6.out hbz0)
  have Bz0 := below_thru hB6 hbz0
  clear x_r6 x_a6 x_b6 J_c6 J_d6 hB6 hbz0
  refine takeH 0 33 (v := .agg (V).toArray) rfl (by rfl) (by kernel_rfl) (by kernel_rfl) (by kernel_rfl) (fun _ _ _ h => h) (yieldsIf_load_mid (by rfl) _ _ rfl _ _ rfl (V) _ (fun wq hq => Box.range (hq.1)) Try.underlying26 rfl SV.out) ((And.intro x_r_z0 (And.intro x_a_z0 x_b_z0))) ?_
  try simp only [Act.put, List.setIfInBounds_toArray, List.set_cons_zero, List.set_cons_succ]
  refine takeH 2 35 (v := .agg (V).toArray) rfl (by rfl) (by kernel_rfl) (by kernel_rfl) (by kernel_rfl) (fun _ _ _ h => h) (yieldsIf_load_mid (by rfl) _ _ rfl _ _ rfl (V) _ (fun wq hq => Box.range (hq.1)) Try.underlying26 rfl SV.out) ((And.intro x_r_z0 (And.intro x_a_z0 x_b_z0))) ?_
  try simp only [Act.put, List.setIfInBounds_toArray, List.set_cons_zero, List.set_cons_succ]
  refine wpAnyH_ready (rs := [1]) (by kernel_rfl) (by simp) (AllReadyH.cons rfl (fun K hK => ?_) AllReadyH.nil)
  go_simp
  refine (A7 _).mono ?_
  rintro e Wz1 ⟨rfl, hbz1⟩
  have x_r_z1 : Box Wz1 (w.heap.size) (V) := Box.below x_r_z0 hbz1
  have x_a_z1 : Box Wz1 (w1.heap.size) (U) := Box.below x_a_z0 hbz1
  have x_b_z1 : Box Wz1 (w3.heap.size) (U) := Box.below x_b_z0 hbz1
  have j_c_z1 := Lib.hid (IsL.below j_c_z0.out hbz1)
  have j_d_z1 := Lib.hid (IsL.below j_d_z0.out hbz1)
  have Bz1 := below_thru Bz0 hbz1
  clear x_r_z0 x_a_z0 x_b_z0 j_c_z0 j_d_z0 Bz0 hbz1
  refine hK.out _ _ (And.intro x_r_z1 (And.intro x_a_z1 x_b_z1)) (fun _ => ?_); clear hK K
  refine wpAnyH_ready (rs := [3]) (by kernel_rfl) (by simp) (AllReadyH.cons rfl (fun K hK => ?_) AllReadyH.nil)
  go_simp
  refine (A8 _).mono ?_
  rintro e Wz2 ⟨rfl, hbz2⟩
  have x_r_z2 : Box Wz2 (w.heap.size) (V) := Box.below x_r_z1 hbz2
  have x_a_z2 : Box Wz2 (w1.heap.size) (U) := Box.below x_a_z1 hbz2
  have x_b_z2 : Box Wz2 (w3.heap.size) (U) := Box.below x_b_z1 hbz2
  have j_c_z2 := Lib.hid (IsL.below j_c_z1.out hbz2)
  have j_d_z2 := Lib.hid (IsL.below j_d_z1.out hbz2)
  have Bz2 := below_thru Bz1 hbz2
  clear x_r_z1 x_a_z1 x_b_z1 j_c_z1 j_d_z1 Bz1 hbz2
  refine hK.out _ _ (And.intro x_r_z2 (And.intro x_a_z2 x_b_z2)) (fun _ => ?_); clear hK K
  refine takeH 4 37 (v := ?vz4_3) rfl (by rfl) (by kernel_rfl) (by kernel_rfl) (by kernel_rfl) (fun _ _ _ h => h) (Or.inl ⟨by rfl, ?_⟩) ((And.intro x_r_z2 (And.intro x_a_z2 x_b_z2))) ?_
  rotate_left
  · intro wq hSq
    go_simp
    exact rfl
  try simp only [Act.put, List.setIfInBounds_toArray, List.set_cons_zero, List.set_cons_succ]
  refine takeH 5 38 (v := ?vz5_4) rfl (by rfl) (by kernel_rfl) (by kernel_rfl) (by kernel_rfl) (fun _ _ _ h => h) (Or.inl ⟨by rfl, ?_⟩) ((And.intro x_r_z2 (And.intro x_a_z2 x_b_z2))) ?_
  rotate_left
  · intro wq hSq
    go_simp
    exact rfl
  try simp only [Act.put, List.setIfInBounds_toArray, List.set_cons_zero, List.set_cons_succ]
  refine takeH 6 39 (v := .agg (U).toArray) rfl (by rfl) (by kernel_rfl) (by kernel_rfl) (by kernel_rfl) (fun _ _ _ h => h) (yieldsIf_load_mid (by rfl) _ _ rfl _ _ rfl (U) _ (fun wq hq => Box.range (hq.2.1)) Try.underlying26 rfl SG.out) ((And.intro x_r_z2 (And.intro x_a_z2 x_b_z2))) ?_
  try simp only [Act.put, List.setIfInBounds_toArray, List.set_cons_zero, List.set_cons_succ]
  refine takeH 7 40 (v := .agg (U).toArray) rfl (by rfl) (by kernel_rfl) (by kernel_rfl) (by kernel_rfl) (fun _ _ _ h => h) (yieldsIf_load_mid (by rfl) _ _ rfl _ _ rfl (U) _ (fun wq hq => Box.range (hq.2.2)) Try.underlying26 rfl SG.out) ((And.intro x_r_z2 (And.intro x_a_z2 x_b_z2))) ?_
  try simp only [Act.put, List.setIfInBounds_toArray, List.set_cons_zero, List.set_cons_succ]
  refine takeH 8 41 (v := ?vz8_5) rfl (by rfl) (by kernel_rfl) (by kernel_rfl) (by kernel_rfl) (fun _ _ _ h => h) (Or.inl ⟨by rfl, ?_⟩) ((And.intro x_r_z2 (And.intro x_a_z2 x_b_z2))) ?_
  rotate_left
  · intro wq hSq
    go_simp
    exact rfl
  try simp only [Act.put, List.setIfInBounds_toArray, List.set_cons_zero, List.set_cons_succ]
  refine takeH 9 42 (v := ?vz9_6) rfl (by rfl) (by kernel_rfl) (by kernel_rfl) (by kernel_rfl) (fun _ _ _ h => h) (Or.inl ⟨by rfl, ?_⟩) ((And.intro x_r_z2 (And.intro x_a_z2 x_b_z2))) ?_
  rotate_left
  · intro wq hSq
    go_simp
    exact rfl
  try simp only [Act.put, List.setIfInBounds_toArray, List.set_cons_zero, List.set_cons_succ]
  refine takeH 10 43 (v := ?vz10_7) rfl (by rfl) (by kernel_rfl) (by kernel_rfl) (by kernel_rfl) (fun _ _ _ h => h) (Or.inl ⟨by rfl, ?_⟩) ((And.intro x_r_z2 (And.intro x_a_z2 x_b_z2))) ?_
  rotate_left
  · intro wq hSq
    go_simp
    exact rfl
  try simp only [Act.put, List.setIfInBounds_toArray, List.set_cons_zero, List.set_cons_succ]
  refine takeH 11 44 (v := ?vz11_8) rfl (by rfl) (by kernel_rfl) (by kernel_rfl) (by kernel_rfl) (fun _ _ _ h => h) (Or.inl ⟨by rfl, ?_⟩) ((And.intro x_r_z2 (And.intro x_a_z2 x_b_z2))) ?_
  rotate_left
  · intro wq hSq
    go_simp
    exact rfl
  try simp only [Act.put, List.setIfInBounds_toArray, List.set_cons_zero, List.set_cons_succ]
  refine takeH 12 45 (v := ?vz12_9) rfl (by rfl) (by kernel_rfl) (by kernel_rfl) (by kernel_rfl) (fun _ _ _ h => h) (Or.inl ⟨by rfl, ?_⟩) ((And.intro x_r_z2 (And.intro x_a_z2 x_b_z2))) ?_
  rotate_left
  · intro wq hSq
    go_simp
    exact rfl
  try simp only [Act.put, List.setIfInBounds_toArray, List.set_cons_zero, List.set_cons_succ]
  refine takeH 13 46 (v := ?vz13_10) rfl (by rfl) (by kernel_rfl) (by kernel_rfl) (by kernel_rfl) (fun _ _ _ h => h) (Or.inl ⟨by rfl, ?_⟩) ((And.intro x_r_z2 (And.intro x_a_z2 x_b_z2))) ?_
  rotate_left
  · intro wq hSq
    go_simp
    exact rfl
  try simp only [Act.put, List.setIfInBounds_toArray, List.set_cons_zero, List.set_cons_succ]
  refine takeH 14 47 (v := ?vz14_11) rfl (by rfl) (by kernel_rfl) (by kernel_rfl) (by kernel_rfl) (fun _ _ _ h => h) (Or.inl ⟨by rfl, ?_⟩) ((And.intro x_r_z2 (And.intro x_a_z2 x_b_z2))) ?_
  rotate_left
  · intro wq hSq
    go_simp
    exact rfl
  try simp only [Act.put, List.setIfInBounds_toArray, List.set_cons_zero, List.set_cons_succ]
  refine takeH 15 48 (v := ?vz15_12) rfl (by rfl) (by kernel_rfl) (by kernel_rfl) (by kernel_rfl) (fun _ _ _ h => h) (Or.inl ⟨by rfl, ?_⟩) ((And.intro x_r_z2 (And.intro x_a_z2 x_b_z2))) ?_
  rotate_left
  · intro wq hSq
    go_simp
    exact rfl
  try simp only [Act.put, List.setIfInBounds_toArray, List.set_cons_zero, List.set_cons_succ]
  refine takeH 16 49 (v := ?vz16_13) rfl (by rfl) (by kernel_rfl) (by kernel_rfl) (by kernel_rfl) (fun _ _ _ h => h) (Or.inl ⟨by rfl, ?_⟩) ((And.intro x_r_z2 (And.intro x_a_z2 x_b_z2))) ?_
  rotate_left
  · intro wq hSq
    go_simp
    exact rfl
  try simp only [Act.put, List.setIfInBounds_toArray, List.set_cons_zero, List.set_cons_succ]
  refine takeH 17 50 (v := ?vz17_14) rfl (by rfl) (by kernel_rfl) (by kernel_rfl) (by kernel_rfl) (fun _ _ _ h => h) (Or.inl ⟨by rfl, ?_⟩) ((And.intro x_r_z2 (And.intro x_a_z2 x_b_z2))) ?_
  rotate_left
  · intro wq hSq
    go_simp
    exact rfl
  try simp only [Act.put, List.setIfInBounds_toArray, List.set_cons_zero, List.set_cons_succ]
  refine wpAnyH_ready (rs := [18]) (by kernel_rfl) (by simp) (AllReadyH.cons rfl (fun K hK => ?_) AllReadyH.nil)
  go_simp
  refine (sameb_tt _ j_c_z2.out j_d_z2.out).mono ?_
  rintro e Wz15 ⟨rfl, hbz15⟩
  have x_r_z15 : Box Wz15 (w.heap.size) (V) := Box.below x_r_z2 hbz15
  have x_a_z15 : Box Wz15 (w1.heap.size) (U) := Box.below x_a_z2 hbz15
  have x_b_z15 : Box Wz15 (w3.heap.size) (U) := Box.below x_b_z2 hbz15
  have j_c_z15 := Lib.hid (IsL.below j_c_z2.out hbz15)
  have j_d_z15 := Lib.hid (IsL.below j_d_z2.out hbz15)
  have Bz15 := below_thru Bz2 hbz15
  clear x_r_z2 x_a_z2 x_b_z2 j_c_z2 j_d_z2 Bz2 hbz15
  refine hK.out _ _ (And.intro x_r_z15 (And.intro x_a_z15 x_b_z15)) (fun _ => ?_); clear hK K
  refine takeH 19 52 (v := ?vz19_16) rfl (by rfl) (by kernel_rfl) (by kernel_rfl) (by kernel_rfl) (fun _ _ _ h => h) (Or.inl ⟨by rfl, ?_⟩) ((And.intro x_r_z15 (And.intro x_a_z15 x_b_z15))) ?_
  rotate_left
  · intro wq hSq
    go_simp
    exact rfl
  try simp only [Act.put, List.setIfInBounds_toArray, List.set_cons_zero, List.set_cons_succ]
  refine takeH 20 53 (v := ?vz20_17) rfl (by rfl) (by kernel_rfl) (by kernel_rfl) (by kernel_rfl) (fun _ _ _ h => h) (Or.inl ⟨by rfl, ?_⟩) ((And.intro x_r_z15 (And.intro x_a_z15 x_b_z15))) ?_
  rotate_left
  · intro wq hSq
    go_simp
    exact rfl
  try simp only [Act.put, List.setIfInBounds_toArray, List.set_cons_zero, List.set_cons_succ]
  refine takeH 21 54 (v := ?vz21_18) rfl (by rfl) (by kernel_rfl) (by kernel_rfl) (by kernel_rfl) (fun _ _ _ h => h) (Or.inl ⟨by rfl, ?_⟩) ((And.intro x_r_z15 (And.intro x_a_z15 x_b_z15))) ?_
  rotate_left
  · intro wq hSq
    go_simp
    exact rfl
  try simp only [Act.put, List.setIfInBounds_toArray, List.set_cons_zero, List.set_cons_succ]
  refine takeH 22 55 (v := ?vz22_19) rfl (by rfl) (by kernel_rfl) (by kernel_rfl) (by kernel_rfl) (fun _ _ _ h => h) (Or.inl ⟨by rfl, ?_⟩) ((And.intro x_r_z15 (And.intro x_a_z15 x_b_z15))) ?_
  rotate_left
  · intro wq hSq
    go_simp
    exact rfl
  try simp only [Act.put, List.setIfInBounds_toArray, List.set_cons_zero, List.set_cons_succ]
  refine takeH 23 56 (v := ?vz23_20) rfl (by rfl) (by kernel_rfl) (by kernel_rfl) (by kernel_rfl) (fun _ _ _ h => h) (Or.inl ⟨by rfl, ?_⟩) ((And.intro x_r_z15 (And.intro x_a_z15 x_b_z15))) ?_
  rotate_left
  · intro wq hSq
    go_simp
    exact rfl
  try simp only [Act.put, List.setIfInBounds_toArray, List.set_cons_zero, List.set_cons_succ]
  refine takeH 24 57 (v := ?vz24_21) rfl (by rfl) (by kernel_rfl) (by kernel_rfl) (by kernel_rfl) (fun _ _ _ h => h) (Or.inl ⟨by rfl, ?_⟩) ((And.intro x_r_z15 (And.intro x_a_z15 x_b_z15))) ?_
  rotate_left
  · intro wq hSq
    go_simp
    exact rfl
  try simp only [Act.put, List.setIfInBounds_toArray, List.set_cons_zero, List.set_cons_succ]
  refine takeH 25 4 (v := ?vz25_22) rfl (by rfl) (by kernel_rfl) (by kernel_rfl) (by kernel_rfl) (fun _ _ _ h => h) (Or.inl ⟨by rfl, ?_⟩) ((And.intro x_r_z15 (And.intro x_a_z15 x_b_z15))) ?_
  rotate_left
  · intro wq hSq
    go_simp
    exact rfl
  try simp only [Act.put, List.setIfInBounds_toArray, List.set_cons_zero, List.set_cons_succ]
  refine wpAnyH_done (by kernel_rfl) ?_ _
  go_wp2_with fail
  go_returns
  exact ⟨rfl, Bz15⟩

end Go.Proofs.Ytipkgflonioacaa
