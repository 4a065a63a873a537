/-
  TokenMints, walked.
-/
import Derived.Test.YtlbbedknldmcpaaDoorGRT
import Derived.Test.YtlbbedknldmcpaaDoorGT1
namespace Go.Proofs.YtlbbedknldmcpaaDoor
open Go.RowKit

set_option maxRecDepth 100000 in
set_option maxHeartbeats 6400000 in
theorem mints8_is (k : Nums) {g K : List Int} {t : Int} (hg : g.length = 32) (hK : K.length = 32) (hKb : Byts K) (ht : 0 ≤ t) (w : World) (hL : Hid (LaidS w)) : Calls Tryd.prog 4 #[.agg (K.map (Value.int .u8)).toArray, .agg (tcell k g).toArray, .int .u64 t] w fun e w' => e = .returned (.bool true) ∧ Below w.heap.size w w' := by
  obtain ⟨D, hD⟩ : ∃ D, tagL K k.msg = D := ⟨_, rfl⟩
  have hDl : D.length = 32 := by rw [← hD]; exact tagL_len _ _
  obtain ⟨q, hq⟩ : ∃ q, verN K k g = q := ⟨_, rfl⟩
  obtain ⟨r, hr⟩ : ∃ r, valN K k g t = r := ⟨_, rfl⟩
  have A1 := fun (W : World) => bytes_is k (g := g) W
  have A2 := fun (W : World) => rbytes20_is k hg W
  have A3 := fun (W : World) h => mint_is k hK hKb (Lib.hid hD) W h
  have A4 := fun (W : World) => rmint_is k hK hKb (Lib.hid hD) W
  have A5 := fun (W : World) h => verify_is k hg hK hKb (Lib.hid hq) W h
  have A6 := fun (W : World) => rverify_is k hg hK hKb (Lib.hid hq) W
  have A7 := fun (W : World) h => valid_is k hg hK hKb ht (Lib.hid hr) W h
  have A8 := fun (W : World) => rvalid_is k hg hK hKb ht (Lib.hid hr) W
  have EM := fun (W : World) => eq_same (P := Tryd.prog) Tryd.underlying36 Tryd.underlying5 size_u8' k.msg k.msg_len W
  have ET := fun (W : World) => eq_tok_self k hDl W
  have hqq := beq_self_eq_true q
  have hrr := beq_self_eq_true r
  have SK := Lib.hid (size_dig hK)
  have SV := Lib.hid (size_tok k hg)
  obtain ⟨M, hM⟩ : ∃ M, k.msg.map (Value.int .u8) = M := ⟨_, rfl⟩
  rw [hM] at A1 A2 EM
  obtain ⟨U, hU⟩ : ∃ U, tcell k D = U := ⟨_, rfl⟩
  rw [hU] at A3 A4 ET
  obtain ⟨V, hV⟩ : ∃ V, tcell k g = V := ⟨_, rfl⟩
  have v0 : V[0]? = some (.int .u32 k.t) := by rw [← hV]; rfl
  have v1 : V[1]? = some (.int .u32 k.u) := by rw [← hV]; rfl
  have v2 : V[2]? = some (.int .u32 k.e) := by rw [← hV]; rfl
  have v3 : V[3]? = some (.int .u64 k.x) := by rw [← hV]; rfl
  rw [hV] at A1 A2 A5 A6 A7 A8 SV ⊢
  obtain ⟨C, hC⟩ : ∃ C, K.map (Value.int .u8) = C := ⟨_, rfl⟩
  rw [hC] at A3 A4 A5 A6 A7 A8 SK ⊢
  clear hC hM hU hV hD hDl hq hr ht hg hK hKb
  have hx : Box ((w.alloc (.cells C.toArray 23)).alloc (.cells V.toArray 27)) w.heap.size C := Box.alloc (Box.newc rfl rfl) _
  have hv : Box ((w.alloc (.cells C.toArray 23)).alloc (.cells V.toArray 27)) (w.heap.size + 1) V := Box.newc rfl (by simp)
  have hB : Below w.heap.size w ((w.alloc (.cells C.toArray 23)).alloc (.cells V.toArray 27)) := by go_grown
  have h0 := And.intro hx hv
  clear hx hv
  go_enter Tryd.func4, Tryd.ntmps4
  go_upto_region 1 with fail
  refine wp_region_held_drew (S := fun W => Box W w.heap.size C ∧ Box W (w.heap.size + 1) V) (by kernel_rfl) ⟨h0.1.drew, h0.2.drew⟩ (fun _ => ?_)
  refine F_drew (F := fun W => wpAnyH _ _ _ _ _ _ _ _ W) ?_
  intro W0 hb0
  have hx0 := And.intro (h0.1.below hb0) (h0.2.below hb0); have hB0 := below_thru hB hb0
  clear h0 hB hb0
  refine takeH 0 7 (v := .agg V.toArray) rfl (by rfl) (by kernel_rfl) (by kernel_rfl) (by kernel_rfl) (fun _ _ _ h => h) (yieldsIf_load_mid (by rfl) _ _ rfl _ _ rfl V _ (fun wq hq => hq.2.range) Tryd.underlying27 rfl SV.out) (hx0) ?_
  try simp only [Act.put, List.setIfInBounds_toArray, List.set_cons_zero, List.set_cons_succ]
  refine takeH 2 9 (v := .agg V.toArray) rfl (by rfl) (by kernel_rfl) (by kernel_rfl) (by kernel_rfl) (fun _ _ _ h => h) (yieldsIf_load_mid (by rfl) _ _ rfl _ _ rfl V _ (fun wq hq => hq.2.range) Tryd.underlying27 rfl SV.out) (hx0) ?_
  try simp only [Act.put, List.setIfInBounds_toArray, List.set_cons_zero, List.set_cons_succ]
  refine wpAnyH_ready (rs := [1]) (by kernel_rfl) (by simp) (AllReadyH.cons rfl (fun K hK => ?_) AllReadyH.nil)
  go_simp
  refine (A1 _).mono ?_
  rintro e W1 ⟨rfl, hb1⟩
  have hx1 := And.intro (Box.below hx0.1 hb1) (Box.below hx0.2 hb1); have hB1 := below_thru hB0 hb1
  clear A1 hx0 hB0 hb1
  refine hK.out _ _ hx1 (fun _ => ?_); clear hK
  refine wpAnyH_ready (rs := [3]) (by kernel_rfl) (by simp) (AllReadyH.cons rfl (fun K hK => ?_) AllReadyH.nil)
  go_simp
  refine (A2 _).mono ?_
  rintro e W2 ⟨rfl, hb2⟩
  have hx2 := And.intro (Box.below hx1.1 hb2) (Box.below hx1.2 hb2); have hB2 := below_thru hB1 hb2
  clear A2 hx1 hB1 hb2
  refine hK.out _ _ hx2 (fun _ => ?_); clear hK
  refine takeH 4 11 (v := ?vm4_3) rfl (by rfl) (by kernel_rfl) (by kernel_rfl) (by kernel_rfl) (fun _ _ _ h => h) (Or.inl ⟨by rfl, ?_⟩) (hx2) ?_
  rotate_left
  · intro wq hSq
    go_simp
    exact rfl
  try simp only [Act.put, List.setIfInBounds_toArray, List.set_cons_zero, List.set_cons_succ]
  refine takeH 5 12 (v := ?vm5_4) rfl (by rfl) (by kernel_rfl) (by kernel_rfl) (by kernel_rfl) (fun _ _ _ h => h) (Or.inl ⟨by rfl, ?_⟩) (hx2) ?_
  rotate_left
  · intro wq hSq
    go_simp
    exact rfl
  try simp only [Act.put, List.setIfInBounds_toArray, List.set_cons_zero, List.set_cons_succ]
  refine takeH 7 14 (v := ?vm7_5) rfl (by rfl) (by kernel_rfl) (by kernel_rfl) (by kernel_rfl) (fun _ _ _ h => h) (Or.inl ⟨by rfl, ?_⟩) (hx2) ?_
  rotate_left
  · intro wq hSq
    go_simp
    exact rfl
  try simp only [Act.put, List.setIfInBounds_toArray, List.set_cons_zero, List.set_cons_succ]
  refine takeH 8 15 (v := ?vm8_6) rfl (by rfl) (by kernel_rfl) (by kernel_rfl) (by kernel_rfl) (fun _ _ _ h => h) (Or.inl ⟨by rfl, ?_⟩) (hx2) ?_
  rotate_left
  · intro wq hSq
    have cq := hSq.2.c 0 _ v0
    have zq := lt_of_cell cq
    go_simp
    exact rfl
  try simp only [Act.put, List.setIfInBounds_toArray, List.set_cons_zero, List.set_cons_succ]
  refine takeH 9 16 (v := ?vm9_7) rfl (by rfl) (by kernel_rfl) (by kernel_rfl) (by kernel_rfl) (fun _ _ _ h => h) (Or.inl ⟨by rfl, ?_⟩) (hx2) ?_
  rotate_left
  · intro wq hSq
    go_simp
    exact rfl
  try simp only [Act.put, List.setIfInBounds_toArray, List.set_cons_zero, List.set_cons_succ]
  refine takeH 10 17 (v := ?vm10_8) rfl (by rfl) (by kernel_rfl) (by kernel_rfl) (by kernel_rfl) (fun _ _ _ h => h) (Or.inl ⟨by rfl, ?_⟩) (hx2) ?_
  rotate_left
  · intro wq hSq
    have cq := hSq.2.c 1 _ v1
    have zq := lt_of_cell cq
    go_simp
    exact rfl
  try simp only [Act.put, List.setIfInBounds_toArray, List.set_cons_zero, List.set_cons_succ]
  refine takeH 11 18 (v := ?vm11_9) rfl (by rfl) (by kernel_rfl) (by kernel_rfl) (by kernel_rfl) (fun _ _ _ h => h) (Or.inl ⟨by rfl, ?_⟩) (hx2) ?_
  rotate_left
  · intro wq hSq
    go_simp
    exact rfl
  try simp only [Act.put, List.setIfInBounds_toArray, List.set_cons_zero, List.set_cons_succ]
  refine takeH 12 19 (v := ?vm12_10) rfl (by rfl) (by kernel_rfl) (by kernel_rfl) (by kernel_rfl) (fun _ _ _ h => h) (Or.inl ⟨by rfl, ?_⟩) (hx2) ?_
  rotate_left
  · intro wq hSq
    have cq := hSq.2.c 2 _ v2
    have zq := lt_of_cell cq
    go_simp
    exact rfl
  try simp only [Act.put, List.setIfInBounds_toArray, List.set_cons_zero, List.set_cons_succ]
  refine takeH 13 20 (v := ?vm13_11) rfl (by rfl) (by kernel_rfl) (by kernel_rfl) (by kernel_rfl) (fun _ _ _ h => h) (Or.inl ⟨by rfl, ?_⟩) (hx2) ?_
  rotate_left
  · intro wq hSq
    go_simp
    exact rfl
  try simp only [Act.put, List.setIfInBounds_toArray, List.set_cons_zero, List.set_cons_succ]
  refine takeH 14 21 (v := ?vm14_12) rfl (by rfl) (by kernel_rfl) (by kernel_rfl) (by kernel_rfl) (fun _ _ _ h => h) (Or.inl ⟨by rfl, ?_⟩) (hx2) ?_
  rotate_left
  · intro wq hSq
    have cq := hSq.2.c 3 _ v3
    have zq := lt_of_cell cq
    go_simp
    exact rfl
  try simp only [Act.put, List.setIfInBounds_toArray, List.set_cons_zero, List.set_cons_succ]
  refine takeH 17 24 (v := ?vm17_13) rfl (by rfl) (by kernel_rfl) (by kernel_rfl) (by kernel_rfl) (fun _ _ _ h => h) (Or.inl ⟨by rfl, ?_⟩) (hx2) ?_
  rotate_left
  · intro wq hSq
    go_simp
    exact rfl
  try simp only [Act.put, List.setIfInBounds_toArray, List.set_cons_zero, List.set_cons_succ]
  refine takeH 18 25 (v := ?vm18_14) rfl (by rfl) (by kernel_rfl) (by kernel_rfl) (by kernel_rfl) (fun _ _ _ h => h) (Or.inl ⟨by rfl, ?_⟩) (hx2) ?_
  rotate_left
  · intro wq hSq
    have cq := hSq.2.c 0 _ v0
    have zq := lt_of_cell cq
    go_simp
    exact rfl
  try simp only [Act.put, List.setIfInBounds_toArray, List.set_cons_zero, List.set_cons_succ]
  refine takeH 19 26 (v := ?vm19_15) rfl (by rfl) (by kernel_rfl) (by kernel_rfl) (by kernel_rfl) (fun _ _ _ h => h) (Or.inl ⟨by rfl, ?_⟩) (hx2) ?_
  rotate_left
  · intro wq hSq
    go_simp
    exact rfl
  try simp only [Act.put, List.setIfInBounds_toArray, List.set_cons_zero, List.set_cons_succ]
  refine takeH 20 27 (v := ?vm20_16) rfl (by rfl) (by kernel_rfl) (by kernel_rfl) (by kernel_rfl) (fun _ _ _ h => h) (Or.inl ⟨by rfl, ?_⟩) (hx2) ?_
  rotate_left
  · intro wq hSq
    have cq := hSq.2.c 1 _ v1
    have zq := lt_of_cell cq
    go_simp
    exact rfl
  try simp only [Act.put, List.setIfInBounds_toArray, List.set_cons_zero, List.set_cons_succ]
  refine takeH 21 28 (v := ?vm21_17) rfl (by rfl) (by kernel_rfl) (by kernel_rfl) (by kernel_rfl) (fun _ _ _ h => h) (Or.inl ⟨by rfl, ?_⟩) (hx2) ?_
  rotate_left
  · intro wq hSq
    go_simp
    exact rfl
  try simp only [Act.put, List.setIfInBounds_toArray, List.set_cons_zero, List.set_cons_succ]
  refine takeH 22 29 (v := ?vm22_18) rfl (by rfl) (by kernel_rfl) (by kernel_rfl) (by kernel_rfl) (fun _ _ _ h => h) (Or.inl ⟨by rfl, ?_⟩) (hx2) ?_
  rotate_left
  · intro wq hSq
    have cq := hSq.2.c 2 _ v2
    have zq := lt_of_cell cq
    go_simp
    exact rfl
  try simp only [Act.put, List.setIfInBounds_toArray, List.set_cons_zero, List.set_cons_succ]
  refine takeH 23 30 (v := ?vm23_19) rfl (by rfl) (by kernel_rfl) (by kernel_rfl) (by kernel_rfl) (fun _ _ _ h => h) (Or.inl ⟨by rfl, ?_⟩) (hx2) ?_
  rotate_left
  · intro wq hSq
    go_simp
    exact rfl
  try simp only [Act.put, List.setIfInBounds_toArray, List.set_cons_zero, List.set_cons_succ]
  refine takeH 24 31 (v := ?vm24_20) rfl (by rfl) (by kernel_rfl) (by kernel_rfl) (by kernel_rfl) (fun _ _ _ h => h) (Or.inl ⟨by rfl, ?_⟩) (hx2) ?_
  rotate_left
  · intro wq hSq
    have cq := hSq.2.c 3 _ v3
    have zq := lt_of_cell cq
    go_simp
    exact rfl
  try simp only [Act.put, List.setIfInBounds_toArray, List.set_cons_zero, List.set_cons_succ]
  refine takeH 6 13 (v := .agg C.toArray) rfl (by rfl) (by kernel_rfl) (by kernel_rfl) (by kernel_rfl) (fun _ _ _ h => h) (yieldsIf_load_mid (by rfl) _ _ rfl _ _ rfl C _ (fun wq hq => hq.1.range) Tryd.underlying23 rfl SK.out) (hx2) ?_
  try simp only [Act.put, List.setIfInBounds_toArray, List.set_cons_zero, List.set_cons_succ]
  refine takeH 16 23 (v := .agg C.toArray) rfl (by rfl) (by kernel_rfl) (by kernel_rfl) (by kernel_rfl) (fun _ _ _ h => h) (yieldsIf_load_mid (by rfl) _ _ rfl _ _ rfl C _ (fun wq hq => hq.1.range) Tryd.underlying23 rfl SK.out) (hx2) ?_
  try simp only [Act.put, List.setIfInBounds_toArray, List.set_cons_zero, List.set_cons_succ]
  refine wpAnyH_ready (rs := [15]) (by kernel_rfl) (by simp) (AllReadyH.cons rfl (fun K hK => ?_) AllReadyH.nil)
  go_simp
  refine (A3 _ (Lib.hid (hL.out.below hB2))).mono ?_
  rintro e W21 ⟨rfl, hb21⟩
  have hx21 := And.intro (Box.below hx2.1 hb21) (Box.below hx2.2 hb21); have hB21 := below_thru hB2 hb21
  clear A3 hx2 hB2 hb21
  refine hK.out _ _ hx21 (fun _ => ?_); clear hK
  refine wpAnyH_ready (rs := [25]) (by kernel_rfl) (by simp) (AllReadyH.cons rfl (fun K hK => ?_) AllReadyH.nil)
  go_simp
  refine (A4 _).mono ?_
  rintro e W22 ⟨rfl, hb22⟩
  have hx22 := And.intro (Box.below hx21.1 hb22) (Box.below hx21.2 hb22); have hB22 := below_thru hB21 hb22
  clear A4 hx21 hB21 hb22
  refine hK.out _ _ hx22 (fun _ => ?_); clear hK
  refine takeH 26 33 (v := ?vm26_23) rfl (by rfl) (by kernel_rfl) (by kernel_rfl) (by kernel_rfl) (fun _ _ _ h => h) (Or.inl ⟨by rfl, ?_⟩) (hx22) ?_
  rotate_left
  · intro wq hSq
    go_simp
    exact rfl
  try simp only [Act.put, List.setIfInBounds_toArray, List.set_cons_zero, List.set_cons_succ]
  refine takeH 27 34 (v := ?vm27_24) rfl (by rfl) (by kernel_rfl) (by kernel_rfl) (by kernel_rfl) (fun _ _ _ h => h) (Or.inl ⟨by rfl, ?_⟩) (hx22) ?_
  rotate_left
  · intro wq hSq
    go_simp
    exact rfl
  try simp only [Act.put, List.setIfInBounds_toArray, List.set_cons_zero, List.set_cons_succ]
  refine takeH 28 35 (v := ?vm28_25) rfl (by rfl) (by kernel_rfl) (by kernel_rfl) (by kernel_rfl) (fun _ _ _ h => h) (Or.inl ⟨by rfl, ?_⟩) (hx22) ?_
  rotate_left
  · intro wq hSq
    go_simp
    exact rfl
  try simp only [Act.put, List.setIfInBounds_toArray, List.set_cons_zero, List.set_cons_succ]
  refine takeH 29 36 (v := .agg C.toArray) rfl (by rfl) (by kernel_rfl) (by kernel_rfl) (by kernel_rfl) (fun _ _ _ h => h) (yieldsIf_load_mid (by rfl) _ _ rfl _ _ rfl C _ (fun wq hq => hq.1.range) Tryd.underlying23 rfl SK.out) (hx22) ?_
  try simp only [Act.put, List.setIfInBounds_toArray, List.set_cons_zero, List.set_cons_succ]
  refine takeH 30 37 (v := .agg V.toArray) rfl (by rfl) (by kernel_rfl) (by kernel_rfl) (by kernel_rfl) (fun _ _ _ h => h) (yieldsIf_load_mid (by rfl) _ _ rfl _ _ rfl V _ (fun wq hq => hq.2.range) Tryd.underlying27 rfl SV.out) (hx22) ?_
  try simp only [Act.put, List.setIfInBounds_toArray, List.set_cons_zero, List.set_cons_succ]
  refine takeH 32 39 (v := .agg C.toArray) rfl (by rfl) (by kernel_rfl) (by kernel_rfl) (by kernel_rfl) (fun _ _ _ h => h) (yieldsIf_load_mid (by rfl) _ _ rfl _ _ rfl C _ (fun wq hq => hq.1.range) Tryd.underlying23 rfl SK.out) (hx22) ?_
  try simp only [Act.put, List.setIfInBounds_toArray, List.set_cons_zero, List.set_cons_succ]
  refine takeH 33 40 (v := .agg V.toArray) rfl (by rfl) (by kernel_rfl) (by kernel_rfl) (by kernel_rfl) (fun _ _ _ h => h) (yieldsIf_load_mid (by rfl) _ _ rfl _ _ rfl V _ (fun wq hq => hq.2.range) Tryd.underlying27 rfl SV.out) (hx22) ?_
  try simp only [Act.put, List.setIfInBounds_toArray, List.set_cons_zero, List.set_cons_succ]
  refine wpAnyH_ready (rs := [31]) (by kernel_rfl) (by simp) (AllReadyH.cons rfl (fun K hK => ?_) AllReadyH.nil)
  go_simp
  refine (A5 _ (Lib.hid (hL.out.below hB22))).mono ?_
  rintro e W26 ⟨rfl, hb26⟩
  have hx26 := And.intro (Box.below hx22.1 hb26) (Box.below hx22.2 hb26); have hB26 := below_thru hB22 hb26
  clear A5 hx22 hB22 hb26
  refine hK.out _ _ hx26 (fun _ => ?_); clear hK
  refine wpAnyH_ready (rs := [34]) (by kernel_rfl) (by simp) (AllReadyH.cons rfl (fun K hK => ?_) AllReadyH.nil)
  go_simp
  refine (A6 _).mono ?_
  rintro e W27 ⟨rfl, hb27⟩
  have hx27 := And.intro (Box.below hx26.1 hb27) (Box.below hx26.2 hb27); have hB27 := below_thru hB26 hb27
  clear A6 hx26 hB26 hb27
  refine hK.out _ _ hx27 (fun _ => ?_); clear hK
  refine takeH 35 42 (v := ?vm35_28) rfl (by rfl) (by kernel_rfl) (by kernel_rfl) (by kernel_rfl) (fun _ _ _ h => h) (Or.inl ⟨by rfl, ?_⟩) (hx27) ?_
  rotate_left
  · intro wq hSq
    go_simp
    exact rfl
  try simp only [Act.put, List.setIfInBounds_toArray, List.set_cons_zero, List.set_cons_succ]
  refine takeH 36 43 (v := ?vm36_29) rfl (by rfl) (by kernel_rfl) (by kernel_rfl) (by kernel_rfl) (fun _ _ _ h => h) (Or.inl ⟨by rfl, ?_⟩) (hx27) ?_
  rotate_left
  · intro wq hSq
    go_simp
    exact rfl
  try simp only [Act.put, List.setIfInBounds_toArray, List.set_cons_zero, List.set_cons_succ]
  refine takeH 37 44 (v := ?vm37_30) rfl (by rfl) (by kernel_rfl) (by kernel_rfl) (by kernel_rfl) (fun _ _ _ h => h) (Or.inl ⟨by rfl, ?_⟩) (hx27) ?_
  rotate_left
  · intro wq hSq
    go_simp
    exact rfl
  try simp only [Act.put, List.setIfInBounds_toArray, List.set_cons_zero, List.set_cons_succ]
  refine takeH 40 47 (v := ?vm40_31) rfl (by rfl) (by kernel_rfl) (by kernel_rfl) (by kernel_rfl) (fun _ _ _ h => h) (Or.inl ⟨by rfl, ?_⟩) (hx27) ?_
  rotate_left
  · intro wq hSq
    go_simp
    exact rfl
  try simp only [Act.put, List.setIfInBounds_toArray, List.set_cons_zero, List.set_cons_succ]
  refine takeH 44 51 (v := ?vm44_32) rfl (by rfl) (by kernel_rfl) (by kernel_rfl) (by kernel_rfl) (fun _ _ _ h => h) (Or.inl ⟨by rfl, ?_⟩) (hx27) ?_
  rotate_left
  · intro wq hSq
    go_simp
    exact rfl
  try simp only [Act.put, List.setIfInBounds_toArray, List.set_cons_zero, List.set_cons_succ]
  refine takeH 38 45 (v := .agg C.toArray) rfl (by rfl) (by kernel_rfl) (by kernel_rfl) (by kernel_rfl) (fun _ _ _ h => h) (yieldsIf_load_mid (by rfl) _ _ rfl _ _ rfl C _ (fun wq hq => hq.1.range) Tryd.underlying23 rfl SK.out) (hx27) ?_
  try simp only [Act.put, List.setIfInBounds_toArray, List.set_cons_zero, List.set_cons_succ]
  refine takeH 39 46 (v := .agg V.toArray) rfl (by rfl) (by kernel_rfl) (by kernel_rfl) (by kernel_rfl) (fun _ _ _ h => h) (yieldsIf_load_mid (by rfl) _ _ rfl _ _ rfl V _ (fun wq hq => hq.2.range) Tryd.underlying27 rfl SV.out) (hx27) ?_
  try simp only [Act.put, List.setIfInBounds_toArray, List.set_cons_zero, List.set_cons_succ]
  refine takeH 42 49 (v := .agg C.toArray) rfl (by rfl) (by kernel_rfl) (by kernel_rfl) (by kernel_rfl) (fun _ _ _ h => h) (yieldsIf_load_mid (by rfl) _ _ rfl _ _ rfl C _ (fun wq hq => hq.1.range) Tryd.underlying23 rfl SK.out) (hx27) ?_
  try simp only [Act.put, List.setIfInBounds_toArray, List.set_cons_zero, List.set_cons_succ]
  refine takeH 43 50 (v := .agg V.toArray) rfl (by rfl) (by kernel_rfl) (by kernel_rfl) (by kernel_rfl) (fun _ _ _ h => h) (yieldsIf_load_mid (by rfl) _ _ rfl _ _ rfl V _ (fun wq hq => hq.2.range) Tryd.underlying27 rfl SV.out) (hx27) ?_
  try simp only [Act.put, List.setIfInBounds_toArray, List.set_cons_zero, List.set_cons_succ]
  refine wpAnyH_ready (rs := [41]) (by kernel_rfl) (by simp) (AllReadyH.cons rfl (fun K hK => ?_) AllReadyH.nil)
  go_simp
  refine (A7 _ (Lib.hid (hL.out.below hB27))).mono ?_
  rintro e W33 ⟨rfl, hb33⟩
  have hx33 := And.intro (Box.below hx27.1 hb33) (Box.below hx27.2 hb33); have hB33 := below_thru hB27 hb33
  clear A7 hx27 hB27 hb33
  refine hK.out _ _ hx33 (fun _ => ?_); clear hK
  refine wpAnyH_ready (rs := [45]) (by kernel_rfl) (by simp) (AllReadyH.cons rfl (fun K hK => ?_) AllReadyH.nil)
  go_simp
  refine (A8 _).mono ?_
  rintro e W34 ⟨rfl, hb34⟩
  have hx34 := And.intro (Box.below hx33.1 hb34) (Box.below hx33.2 hb34); have hB34 := below_thru hB33 hb34
  clear A8 hx33 hB33 hb34
  refine hK.out _ _ hx34 (fun _ => ?_); clear hK
  refine takeH 46 53 (v := ?vm46_35) rfl (by rfl) (by kernel_rfl) (by kernel_rfl) (by kernel_rfl) (fun _ _ _ h => h) (Or.inl ⟨by rfl, ?_⟩) (hx34) ?_
  rotate_left
  · intro wq hSq
    go_simp
    exact rfl
  try simp only [Act.put, List.setIfInBounds_toArray, List.set_cons_zero, List.set_cons_succ]
  refine takeH 47 54 (v := ?vm47_36) rfl (by rfl) (by kernel_rfl) (by kernel_rfl) (by kernel_rfl) (fun _ _ _ h => h) (Or.inl ⟨by rfl, ?_⟩) (hx34) ?_
  rotate_left
  · intro wq hSq
    go_simp
    exact rfl
  try simp only [Act.put, List.setIfInBounds_toArray, List.set_cons_zero, List.set_cons_succ]
  refine takeH 48 6 (v := ?vm48_37) rfl (by rfl) (by kernel_rfl) (by kernel_rfl) (by kernel_rfl) (fun _ _ _ h => h) (Or.inl ⟨by rfl, ?_⟩) (hx34) ?_
  rotate_left
  · intro wq hSq
    go_simp
    exact rfl
  try simp only [Act.put, List.setIfInBounds_toArray, List.set_cons_zero, List.set_cons_succ]
  refine wpAnyH_done (by kernel_rfl) ?_ _
  go_wp2_with fail
  go_returns
  exact ⟨rfl, hB34⟩


end Go.Proofs.YtlbbedknldmcpaaDoor
