/-
  KeysMakes, walked.
-/
import Derived.Test.YtofjpeplgagihaaDoorRKyB
import Derived.Test.YtofjpeplgagihaaDoorGO1
namespace Go.Proofs.YtofjpeplgagihaaDoor
open Go.RowKit

set_option maxRecDepth 100000 in
set_option maxHeartbeats 6400000 in
theorem makes11_is (k : Nums) {S : List Int} (hS : S.length = 32) (hSb : Byts S) (w : World) (hL : Hid (LaidS w)) : Calls Tryd.prog 4 #[(.agg (S.map (Value.int .u8)).toArray), .int .u32 k.t, .int .u32 k.u, .int .u32 k.e, .int .u64 k.x] w fun e w' => e = .returned (.bool true) ∧ Below w.heap.size w w' := by
  obtain ⟨D, q, h1⟩ := TenOf.ex S k.t k.e
  obtain ⟨l, g, q2, h2⟩ := TokOf.ex S k
  have hDl := h1.len; have hgl := h2.len
  have A1 := fun (W : World) (h : Hid (LaidS W)) => ten_is hS hSb k.ht k.he h1 W h; have A2 := fun (W : World) => rten_is hS hSb k.ht k.he h1 W; have A3 := fun (W : World) (h : Hid (LaidS W)) => token_is k hS hSb h2 W h; have A4 := fun (W : World) => rtoken_is k hS hSb h2 W
  have A5 := fun (W : World) (h : Hid (LaidS W)) => ord_is hS hSb W h; have A6 := fun (W : World) => rord_is hS hSb W
  have E1 := fun (W : World) => eq_same (P := Tryd.prog) Tryd.underlying23 Tryd.underlying5 size_u8' D hDl W
  have E2 := fun (W : World) => eq_tok_self l hgl W
  have E3 := fun (W : World) => eq_same (P := Tryd.prog) Tryd.underlying23 Tryd.underlying5 size_u8' (ordL S) (ordL_len S) W
  have SK := Lib.hid (size_dig hS); have LK := Lib.hid (len_dig hS); have OK := Lib.hid (oneCell_ints (k := .u8) S)
  have SD := Lib.hid (size_dig hDl); have LD := Lib.hid (len_dig hDl); have OD := Lib.hid (oneCell_ints (k := .u8) D)
  have SV := Lib.hid (size_tok l hgl); have LV : Hid (zeroTk.length = (tcell l g).length) := Lib.hid (len_tok Nums.zero l zd32 hgl); have OV := Lib.hid (tcell_one l g)
  have b1 : (q == q) = true := beq_self_eq_true q; have b2 : (q2 == q2) = true := beq_self_eq_true q2
  obtain ⟨E, hE⟩ : ∃ X, D.map (Value.int .u8) = X := ⟨_, rfl⟩
  rw [hE] at A1 A2 E1 SD LD OD
  clear hE
  obtain ⟨V, hV⟩ : ∃ X, tcell l g = X := ⟨_, rfl⟩
  rw [hV] at A3 A4 E2 SV LV OV
  clear hV
  obtain ⟨Q, hQ⟩ : ∃ X, (ordL S).map (Value.int .u8) = X := ⟨_, rfl⟩
  rw [hQ] at A5 A6 E3
  clear hQ
  obtain ⟨C, hC⟩ : ∃ X, S.map (Value.int .u8) = X := ⟨_, rfl⟩
  rw [hC] at A1 A2 A3 A4 A5 A6 SK ⊢
  clear hC
  clear hS hSb h1 h2 hDl hgl
  go_enter Tryd.func4, Tryd.ntmps4
  go_upto_region 1 with fail
  refine F_gen (F := fun W => Code.wp _ _ _ _ W) (J := fun W => Box W (w.heap.size) (C) ∧ Below w.heap.size w W) (And.intro (Box.newc rfl rfl) (by go_grown)) ?_
  intro w0 ⟨e_s, hB0⟩
  have hs0 := hB0.size
  have x_s0 := e_s; clear e_s
  go_wp2_with (refine wpList_load_box9 rfl _ _ rfl x_s0 rfl Tryd.underlying23 rfl SK.out ?_)
  refine (A1 _ (Lib.hid (hL.out.below hB0))).mono ?_
  rintro e w1 ⟨rfl, hb⟩
  have hB1 : Below w.heap.size w w1 := below_thru hB0 hb
  have hs1 := hB1.size
  have x_s1 : Box w1 (w.heap.size) (C) := Box.below x_s0 hb
  clear hB0 hs0 x_s0
  clear hb
  have d_a_s := (x_s1).lt
  have d_a_0 := hs1
  go_upto_region 2 with (refine wpList_store_box (cs := E) rfl _ _ _ rfl (Box.newc (l := zero32) rfl rfl) rfl rfl SD.out LD.out OD.out ?_; intro W1_0 hW1_0)
  have hN : Below w1.heap.size w1 W1_0 := (hW1_0.below _ _ (by omega) ((Below.refl _ w1).alloc (Nat.le_refl _) _))
  have x_a2 : Box W1_0 (w1.heap.size) (E) := hW1_0.box
  have hB2 : Below w.heap.size w W1_0 := below_thru hB1 hN
  have hs2 := hB2.size
  have x_s2 : Box W1_0 (w.heap.size) (C) := Box.below x_s1 hN
  clear hB1 hs1 x_s1
  clear hN hW1_0
  go_wp2_with (refine wpList_load_box9 rfl _ _ rfl x_s2 rfl Tryd.underlying23 rfl SK.out ?_)
  refine (A2 _).mono ?_
  rintro e w3 ⟨rfl, hb⟩
  have hB3 : Below w.heap.size w w3 := below_thru hB2 hb
  have hs3 := hB3.size
  have x_s3 : Box w3 (w.heap.size) (C) := Box.below x_s2 hb
  have x_a3 : Box w3 (w1.heap.size) (E) := Box.below x_a2 hb
  clear hB2 hs2 x_s2 x_a2
  clear hb
  have d_b_s := (x_s3).lt
  have d_b_a := (x_a3).lt
  have d_b_0 := hs3
  go_upto_region 3 with (refine wpList_store_box (cs := E) rfl _ _ _ rfl (Box.newc (l := zero32) rfl rfl) rfl rfl SD.out LD.out OD.out ?_; intro W3_0 hW3_0)
  have hN : Below w3.heap.size w3 W3_0 := (hW3_0.below _ _ (by omega) ((Below.refl _ w3).alloc (Nat.le_refl _) _))
  have x_b4 : Box W3_0 (w3.heap.size) (E) := hW3_0.box
  have hB4 : Below w.heap.size w W3_0 := below_thru hB3 hN
  have hs4 := hB4.size
  have x_s4 : Box W3_0 (w.heap.size) (C) := Box.below x_s3 hN
  have x_a4 : Box W3_0 (w1.heap.size) (E) := Box.below x_a3 hN
  clear hB3 hs3 x_s3 x_a3
  clear hN hW3_0
  go_wp2_with (refine wpList_load_box9 rfl _ _ rfl x_s4 rfl Tryd.underlying23 rfl SK.out ?_)
  refine (A3 _ (Lib.hid (hL.out.below hB4))).mono ?_
  rintro e w5 ⟨rfl, hb⟩
  have hB5 : Below w.heap.size w w5 := below_thru hB4 hb
  have hs5 := hB5.size
  have x_s5 : Box w5 (w.heap.size) (C) := Box.below x_s4 hb
  have x_a5 : Box w5 (w1.heap.size) (E) := Box.below x_a4 hb
  have x_b5 : Box w5 (w3.heap.size) (E) := Box.below x_b4 hb
  clear hB4 hs4 x_s4 x_a4 x_b4
  clear hb
  have d_c_s := (x_s5).lt
  have d_c_a := (x_a5).lt
  have d_c_b := (x_b5).lt
  have d_c_0 := hs5
  go_upto_region 4 with (refine wpList_store_box (cs := V) rfl _ _ _ rfl (Box.newc (l := zeroTk) rfl rfl) rfl rfl SV.out LV.out OV.out ?_; intro W5_0 hW5_0)
  have hN : Below w5.heap.size w5 W5_0 := (hW5_0.below _ _ (by omega) ((Below.refl _ w5).alloc (Nat.le_refl _) _))
  have x_c6 : Box W5_0 (w5.heap.size) (V) := hW5_0.box
  have hB6 : Below w.heap.size w W5_0 := below_thru hB5 hN
  have hs6 := hB6.size
  have x_s6 : Box W5_0 (w.heap.size) (C) := Box.below x_s5 hN
  have x_a6 : Box W5_0 (w1.heap.size) (E) := Box.below x_a5 hN
  have x_b6 : Box W5_0 (w3.heap.size) (E) := Box.below x_b5 hN
  clear hB5 hs5 x_s5 x_a5 x_b5
  clear hN hW5_0
  go_wp2_with (refine wpList_load_box9 rfl _ _ rfl x_s6 rfl Tryd.underlying23 rfl SK.out ?_)
  refine (A4 _).mono ?_
  rintro e w7 ⟨rfl, hb⟩
  have hB7 : Below w.heap.size w w7 := below_thru hB6 hb
  have hs7 := hB7.size
  have x_s7 : Box w7 (w.heap.size) (C) := Box.below x_s6 hb
  have x_a7 : Box w7 (w1.heap.size) (E) := Box.below x_a6 hb
  have x_b7 : Box w7 (w3.heap.size) (E) := Box.below x_b6 hb
  have x_c7 : Box w7 (w5.heap.size) (V) := Box.below x_c6 hb
  clear hB6 hs6 x_s6 x_a6 x_b6 x_c6
  clear hb
  have d_d_s := (x_s7).lt
  have d_d_a := (x_a7).lt
  have d_d_b := (x_b7).lt
  have d_d_c := (x_c7).lt
  have d_d_0 := hs7
  go_upto_region 5 with (refine wpList_store_box (cs := V) rfl _ _ _ rfl (Box.newc (l := zeroTk) rfl rfl) rfl rfl SV.out LV.out OV.out ?_; intro W7_0 hW7_0)
  have hN : Below w7.heap.size w7 W7_0 := (hW7_0.below _ _ (by omega) ((Below.refl _ w7).alloc (Nat.le_refl _) _))
  have x_d8 : Box W7_0 (w7.heap.size) (V) := hW7_0.box
  have hB8 : Below w.heap.size w W7_0 := below_thru hB7 hN
  have hs8 := hB8.size
  have x_s8 : Box W7_0 (w.heap.size) (C) := Box.below x_s7 hN
  have x_a8 : Box W7_0 (w1.heap.size) (E) := Box.below x_a7 hN
  have x_b8 : Box W7_0 (w3.heap.size) (E) := Box.below x_b7 hN
  have x_c8 : Box W7_0 (w5.heap.size) (V) := Box.below x_c7 hN
  clear hB7 hs7 x_s7 x_a7 x_b7 x_c7
  clear hN hW7_0
  refine wp_region_held_drew (S := fun W => Box W (w.heap.size) (C) ∧ Box W (w1.heap.size) (E) ∧ Box W (w3.heap.size) (E) ∧ Box W (w5.heap.size) (V) ∧ Box W (w7.heap.size) (V)) (by kernel_rfl) (And.intro (x_s8).drew (And.intro (x_a8).drew (And.intro (x_b8).drew (And.intro (x_c8).drew (x_d8).drew)))) (fun _ => ?_)
  refine F_drew (F := fun W => wpAnyH _ _ _ _ _ _ _ _ W) ?_
  intro Wz0 hbz0
  clear hs8
  have x_s_z0 : Box Wz0 (w.heap.size) (C) := Box.below x_s8 hbz0
  have x_a_z0 : Box Wz0 (w1.heap.size) (E) := Box.below x_a8 hbz0
  have x_b_z0 : Box Wz0 (w3.heap.size) (E) := Box.below x_b8 hbz0
  have x_c_z0 : Box Wz0 (w5.heap.size) (V) := Box.below x_c8 hbz0
  have x_d_z0 : Box Wz0 (w7.heap.size) (V) := Box.below x_d8 hbz0
  have Bz0 := below_thru hB8 hbz0
  clear x_s8 x_a8 x_b8 x_c8 x_d8 hB8 hbz0
  refine takeH 0 51 (v := .agg (E).toArray) rfl (by rfl) (by kernel_rfl) (by kernel_rfl) (by kernel_rfl) (fun _ _ _ h => h) (yieldsIf_load_mid (by rfl) _ _ rfl _ _ rfl (E) _ (fun wq hq => Box.range (hq.2.1)) Tryd.underlying23 rfl SD.out) ((And.intro x_s_z0 (And.intro x_a_z0 (And.intro x_b_z0 (And.intro x_c_z0 x_d_z0))))) ?_
  try simp only [Act.put, List.setIfInBounds_toArray, List.set_cons_zero, List.set_cons_succ]
  refine takeH 1 52 (v := .agg (E).toArray) rfl (by rfl) (by kernel_rfl) (by kernel_rfl) (by kernel_rfl) (fun _ _ _ h => h) (yieldsIf_load_mid (by rfl) _ _ rfl _ _ rfl (E) _ (fun wq hq => Box.range (hq.2.2.1)) Tryd.underlying23 rfl SD.out) ((And.intro x_s_z0 (And.intro x_a_z0 (And.intro x_b_z0 (And.intro x_c_z0 x_d_z0))))) ?_
  try simp only [Act.put, List.setIfInBounds_toArray, List.set_cons_zero, List.set_cons_succ]
  refine takeH 2 53 (v := ?vz2_1) rfl (by rfl) (by kernel_rfl) (by kernel_rfl) (by kernel_rfl) (fun _ _ _ h => h) (Or.inl ⟨by rfl, ?_⟩) ((And.intro x_s_z0 (And.intro x_a_z0 (And.intro x_b_z0 (And.intro x_c_z0 x_d_z0))))) ?_
  rotate_left
  · intro wq hSq
    go_simp
    exact rfl
  try simp only [Act.put, List.setIfInBounds_toArray, List.set_cons_zero, List.set_cons_succ]
  refine takeH 3 54 (v := ?vz3_2) rfl (by rfl) (by kernel_rfl) (by kernel_rfl) (by kernel_rfl) (fun _ _ _ h => h) (Or.inl ⟨by rfl, ?_⟩) ((And.intro x_s_z0 (And.intro x_a_z0 (And.intro x_b_z0 (And.intro x_c_z0 x_d_z0))))) ?_
  rotate_left
  · intro wq hSq
    go_simp
    exact rfl
  try simp only [Act.put, List.setIfInBounds_toArray, List.set_cons_zero, List.set_cons_succ]
  refine takeH 4 55 (v := ?vz4_3) rfl (by rfl) (by kernel_rfl) (by kernel_rfl) (by kernel_rfl) (fun _ _ _ h => h) (Or.inl ⟨by rfl, ?_⟩) ((And.intro x_s_z0 (And.intro x_a_z0 (And.intro x_b_z0 (And.intro x_c_z0 x_d_z0))))) ?_
  rotate_left
  · intro wq hSq
    go_simp
    exact rfl
  try simp only [Act.put, List.setIfInBounds_toArray, List.set_cons_zero, List.set_cons_succ]
  refine takeH 5 56 (v := ?vz5_4) rfl (by rfl) (by kernel_rfl) (by kernel_rfl) (by kernel_rfl) (fun _ _ _ h => h) (Or.inl ⟨by rfl, ?_⟩) ((And.intro x_s_z0 (And.intro x_a_z0 (And.intro x_b_z0 (And.intro x_c_z0 x_d_z0))))) ?_
  rotate_left
  · intro wq hSq
    go_simp
    exact rfl
  try simp only [Act.put, List.setIfInBounds_toArray, List.set_cons_zero, List.set_cons_succ]
  refine takeH 6 57 (v := ?vz6_5) rfl (by rfl) (by kernel_rfl) (by kernel_rfl) (by kernel_rfl) (fun _ _ _ h => h) (Or.inl ⟨by rfl, ?_⟩) ((And.intro x_s_z0 (And.intro x_a_z0 (And.intro x_b_z0 (And.intro x_c_z0 x_d_z0))))) ?_
  rotate_left
  · intro wq hSq
    go_simp
    exact rfl
  try simp only [Act.put, List.setIfInBounds_toArray, List.set_cons_zero, List.set_cons_succ]
  refine takeH 7 58 (v := ?vz7_6) rfl (by rfl) (by kernel_rfl) (by kernel_rfl) (by kernel_rfl) (fun _ _ _ h => h) (Or.inl ⟨by rfl, ?_⟩) ((And.intro x_s_z0 (And.intro x_a_z0 (And.intro x_b_z0 (And.intro x_c_z0 x_d_z0))))) ?_
  rotate_left
  · intro wq hSq
    go_simp
    exact rfl
  try simp only [Act.put, List.setIfInBounds_toArray, List.set_cons_zero, List.set_cons_succ]
  refine takeH 8 59 (v := ?vz8_7) rfl (by rfl) (by kernel_rfl) (by kernel_rfl) (by kernel_rfl) (fun _ _ _ h => h) (Or.inl ⟨by rfl, ?_⟩) ((And.intro x_s_z0 (And.intro x_a_z0 (And.intro x_b_z0 (And.intro x_c_z0 x_d_z0))))) ?_
  rotate_left
  · intro wq hSq
    go_simp
    exact rfl
  try simp only [Act.put, List.setIfInBounds_toArray, List.set_cons_zero, List.set_cons_succ]
  refine takeH 9 60 (v := .agg (V).toArray) rfl (by rfl) (by kernel_rfl) (by kernel_rfl) (by kernel_rfl) (fun _ _ _ h => h) (yieldsIf_load_mid (by rfl) _ _ rfl _ _ rfl (V) _ (fun wq hq => Box.range (hq.2.2.2.1)) Tryd.underlying30 rfl SV.out) ((And.intro x_s_z0 (And.intro x_a_z0 (And.intro x_b_z0 (And.intro x_c_z0 x_d_z0))))) ?_
  try simp only [Act.put, List.setIfInBounds_toArray, List.set_cons_zero, List.set_cons_succ]
  refine takeH 10 61 (v := .agg (V).toArray) rfl (by rfl) (by kernel_rfl) (by kernel_rfl) (by kernel_rfl) (fun _ _ _ h => h) (yieldsIf_load_mid (by rfl) _ _ rfl _ _ rfl (V) _ (fun wq hq => Box.range (hq.2.2.2.2)) Tryd.underlying30 rfl SV.out) ((And.intro x_s_z0 (And.intro x_a_z0 (And.intro x_b_z0 (And.intro x_c_z0 x_d_z0))))) ?_
  try simp only [Act.put, List.setIfInBounds_toArray, List.set_cons_zero, List.set_cons_succ]
  refine takeH 11 62 (v := ?vz11_8) rfl (by rfl) (by kernel_rfl) (by kernel_rfl) (by kernel_rfl) (fun _ _ _ h => h) (Or.inl ⟨by rfl, ?_⟩) ((And.intro x_s_z0 (And.intro x_a_z0 (And.intro x_b_z0 (And.intro x_c_z0 x_d_z0))))) ?_
  rotate_left
  · intro wq hSq
    go_simp
    exact rfl
  try simp only [Act.put, List.setIfInBounds_toArray, List.set_cons_zero, List.set_cons_succ]
  refine takeH 12 63 (v := ?vz12_9) rfl (by rfl) (by kernel_rfl) (by kernel_rfl) (by kernel_rfl) (fun _ _ _ h => h) (Or.inl ⟨by rfl, ?_⟩) ((And.intro x_s_z0 (And.intro x_a_z0 (And.intro x_b_z0 (And.intro x_c_z0 x_d_z0))))) ?_
  rotate_left
  · intro wq hSq
    go_simp
    exact rfl
  try simp only [Act.put, List.setIfInBounds_toArray, List.set_cons_zero, List.set_cons_succ]
  refine takeH 13 64 (v := ?vz13_10) rfl (by rfl) (by kernel_rfl) (by kernel_rfl) (by kernel_rfl) (fun _ _ _ h => h) (Or.inl ⟨by rfl, ?_⟩) ((And.intro x_s_z0 (And.intro x_a_z0 (And.intro x_b_z0 (And.intro x_c_z0 x_d_z0))))) ?_
  rotate_left
  · intro wq hSq
    go_simp
    exact rfl
  try simp only [Act.put, List.setIfInBounds_toArray, List.set_cons_zero, List.set_cons_succ]
  refine takeH 14 65 (v := ?vz14_11) rfl (by rfl) (by kernel_rfl) (by kernel_rfl) (by kernel_rfl) (fun _ _ _ h => h) (Or.inl ⟨by rfl, ?_⟩) ((And.intro x_s_z0 (And.intro x_a_z0 (And.intro x_b_z0 (And.intro x_c_z0 x_d_z0))))) ?_
  rotate_left
  · intro wq hSq
    go_simp
    exact rfl
  try simp only [Act.put, List.setIfInBounds_toArray, List.set_cons_zero, List.set_cons_succ]
  refine takeH 15 66 (v := ?vz15_12) rfl (by rfl) (by kernel_rfl) (by kernel_rfl) (by kernel_rfl) (fun _ _ _ h => h) (Or.inl ⟨by rfl, ?_⟩) ((And.intro x_s_z0 (And.intro x_a_z0 (And.intro x_b_z0 (And.intro x_c_z0 x_d_z0))))) ?_
  rotate_left
  · intro wq hSq
    go_simp
    exact rfl
  try simp only [Act.put, List.setIfInBounds_toArray, List.set_cons_zero, List.set_cons_succ]
  refine takeH 16 67 (v := ?vz16_13) rfl (by rfl) (by kernel_rfl) (by kernel_rfl) (by kernel_rfl) (fun _ _ _ h => h) (Or.inl ⟨by rfl, ?_⟩) ((And.intro x_s_z0 (And.intro x_a_z0 (And.intro x_b_z0 (And.intro x_c_z0 x_d_z0))))) ?_
  rotate_left
  · intro wq hSq
    go_simp
    exact rfl
  try simp only [Act.put, List.setIfInBounds_toArray, List.set_cons_zero, List.set_cons_succ]
  refine takeH 17 68 (v := ?vz17_14) rfl (by rfl) (by kernel_rfl) (by kernel_rfl) (by kernel_rfl) (fun _ _ _ h => h) (Or.inl ⟨by rfl, ?_⟩) ((And.intro x_s_z0 (And.intro x_a_z0 (And.intro x_b_z0 (And.intro x_c_z0 x_d_z0))))) ?_
  rotate_left
  · intro wq hSq
    go_simp
    exact rfl
  try simp only [Act.put, List.setIfInBounds_toArray, List.set_cons_zero, List.set_cons_succ]
  refine takeH 18 69 (v := ?vz18_15) rfl (by rfl) (by kernel_rfl) (by kernel_rfl) (by kernel_rfl) (fun _ _ _ h => h) (Or.inl ⟨by rfl, ?_⟩) ((And.intro x_s_z0 (And.intro x_a_z0 (And.intro x_b_z0 (And.intro x_c_z0 x_d_z0))))) ?_
  rotate_left
  · intro wq hSq
    go_simp
    exact rfl
  try simp only [Act.put, List.setIfInBounds_toArray, List.set_cons_zero, List.set_cons_succ]
  refine takeH 19 70 (v := .agg (C).toArray) rfl (by rfl) (by kernel_rfl) (by kernel_rfl) (by kernel_rfl) (fun _ _ _ h => h) (yieldsIf_load_mid (by rfl) _ _ rfl _ _ rfl (C) _ (fun wq hq => Box.range (hq.1)) Tryd.underlying23 rfl SK.out) ((And.intro x_s_z0 (And.intro x_a_z0 (And.intro x_b_z0 (And.intro x_c_z0 x_d_z0))))) ?_
  try simp only [Act.put, List.setIfInBounds_toArray, List.set_cons_zero, List.set_cons_succ]
  refine takeH 21 72 (v := .agg (C).toArray) rfl (by rfl) (by kernel_rfl) (by kernel_rfl) (by kernel_rfl) (fun _ _ _ h => h) (yieldsIf_load_mid (by rfl) _ _ rfl _ _ rfl (C) _ (fun wq hq => Box.range (hq.1)) Tryd.underlying23 rfl SK.out) ((And.intro x_s_z0 (And.intro x_a_z0 (And.intro x_b_z0 (And.intro x_c_z0 x_d_z0))))) ?_
  try simp only [Act.put, List.setIfInBounds_toArray, List.set_cons_zero, List.set_cons_succ]
  refine wpAnyH_ready (rs := [20]) (by kernel_rfl) (by simp) (AllReadyH.cons rfl (fun K hK => ?_) AllReadyH.nil)
  go_simp
  refine (A5 _ (Lib.hid (hL.out.below Bz0))).mono ?_
  rintro e Wz16 ⟨rfl, hbz16⟩
  have x_s_z16 : Box Wz16 (w.heap.size) (C) := Box.below x_s_z0 hbz16
  have x_a_z16 : Box Wz16 (w1.heap.size) (E) := Box.below x_a_z0 hbz16
  have x_b_z16 : Box Wz16 (w3.heap.size) (E) := Box.below x_b_z0 hbz16
  have x_c_z16 : Box Wz16 (w5.heap.size) (V) := Box.below x_c_z0 hbz16
  have x_d_z16 : Box Wz16 (w7.heap.size) (V) := Box.below x_d_z0 hbz16
  have Bz16 := below_thru Bz0 hbz16
  clear x_s_z0 x_a_z0 x_b_z0 x_c_z0 x_d_z0 Bz0 hbz16
  refine hK.out _ _ (And.intro x_s_z16 (And.intro x_a_z16 (And.intro x_b_z16 (And.intro x_c_z16 x_d_z16)))) (fun _ => ?_); clear hK K
  refine wpAnyH_ready (rs := [22]) (by kernel_rfl) (by simp) (AllReadyH.cons rfl (fun K hK => ?_) AllReadyH.nil)
  go_simp
  refine (A6 _).mono ?_
  rintro e Wz17 ⟨rfl, hbz17⟩
  have x_s_z17 : Box Wz17 (w.heap.size) (C) := Box.below x_s_z16 hbz17
  have x_a_z17 : Box Wz17 (w1.heap.size) (E) := Box.below x_a_z16 hbz17
  have x_b_z17 : Box Wz17 (w3.heap.size) (E) := Box.below x_b_z16 hbz17
  have x_c_z17 : Box Wz17 (w5.heap.size) (V) := Box.below x_c_z16 hbz17
  have x_d_z17 : Box Wz17 (w7.heap.size) (V) := Box.below x_d_z16 hbz17
  have Bz17 := below_thru Bz16 hbz17
  clear x_s_z16 x_a_z16 x_b_z16 x_c_z16 x_d_z16 Bz16 hbz17
  refine hK.out _ _ (And.intro x_s_z17 (And.intro x_a_z17 (And.intro x_b_z17 (And.intro x_c_z17 x_d_z17)))) (fun _ => ?_); clear hK K
  refine takeH 23 74 (v := ?vz23_18) rfl (by rfl) (by kernel_rfl) (by kernel_rfl) (by kernel_rfl) (fun _ _ _ h => h) (Or.inl ⟨by rfl, ?_⟩) ((And.intro x_s_z17 (And.intro x_a_z17 (And.intro x_b_z17 (And.intro x_c_z17 x_d_z17))))) ?_
  rotate_left
  · intro wq hSq
    go_simp
    exact rfl
  try simp only [Act.put, List.setIfInBounds_toArray, List.set_cons_zero, List.set_cons_succ]
  refine takeH 24 75 (v := ?vz24_19) rfl (by rfl) (by kernel_rfl) (by kernel_rfl) (by kernel_rfl) (fun _ _ _ h => h) (Or.inl ⟨by rfl, ?_⟩) ((And.intro x_s_z17 (And.intro x_a_z17 (And.intro x_b_z17 (And.intro x_c_z17 x_d_z17))))) ?_
  rotate_left
  · intro wq hSq
    go_simp
    exact rfl
  try simp only [Act.put, List.setIfInBounds_toArray, List.set_cons_zero, List.set_cons_succ]
  refine takeH 25 10 (v := ?vz25_20) rfl (by rfl) (by kernel_rfl) (by kernel_rfl) (by kernel_rfl) (fun _ _ _ h => h) (Or.inl ⟨by rfl, ?_⟩) ((And.intro x_s_z17 (And.intro x_a_z17 (And.intro x_b_z17 (And.intro x_c_z17 x_d_z17))))) ?_
  rotate_left
  · intro wq hSq
    go_simp
    exact rfl
  try simp only [Act.put, List.setIfInBounds_toArray, List.set_cons_zero, List.set_cons_succ]
  refine wpAnyH_done (by kernel_rfl) ?_ _
  go_wp2_with fail
  go_returns
  exact ⟨rfl, Bz17⟩

end Go.Proofs.YtofjpeplgagihaaDoor
