/-
  TokenLate, walked.
-/
import Derived.Test.YtlbbedknldmcpaaDoorGT3
namespace Go.Proofs.YtlbbedknldmcpaaDoor
open Go.RowKit

set_option maxRecDepth 100000 in
set_option maxHeartbeats 6400000 in
theorem late8_a (k : Nums) {g K D : List Int} {a b : Int} (hg : g.length = 32) (hK : K.length = 32) (hKb : Byts K) (ha : 0 ≤ a) (hb : 0 ≤ b) (hD : tagL K k.msg = D) (hE : Hid (valN K k g a = 22)) (hF : Hid (valN K k g b = 22)) (hG : Hid (valN K k D a = 24)) (hV : Hid (verN K k g = 22)) (d2 : decide (a ≤ k.x) = false) (w : World) (hL : Hid (LaidS w)) :
    Calls Tryd.prog 8 #[.agg (K.map (Value.int .u8)).toArray, .agg (tcell k g).toArray, .int .u64 a, .int .u64 b] w fun e w' => e = .returned (.bool true) ∧ Below w.heap.size w w' := by
  have hDl : D.length = 32 := by rw [← hD]; exact tagL_len _ _
  have A1 := fun (W : World) h => valid_is k hg hK hKb ha hE W h
  have A2 := fun (W : World) h => valid_is k hg hK hKb hb hF W h
  have A3 := fun (W : World) h => mint_is k hK hKb (Lib.hid hD) W h
  have A4 := fun (W : World) h => valid_is k hDl hK hKb ha hG W h
  have A5 := fun (W : World) h => verify_is k hg hK hKb hV W h
  have SK := Lib.hid (size_dig hK)
  have SV := Lib.hid (size_tok k hg)
  have SU := Lib.hid (size_tok k hDl)
  have LU := Lib.hid (len_tok Nums.zero k zd32 hDl)
  have OU := Lib.hid (tcell_one k D)
  obtain ⟨V, hV⟩ : ∃ V, tcell k g = V := ⟨_, rfl⟩
  have v0 : V[0]? = some (.int .u32 k.t) := by rw [← hV]; rfl
  have v1 : V[1]? = some (.int .u32 k.u) := by rw [← hV]; rfl
  have v2 : V[2]? = some (.int .u32 k.e) := by rw [← hV]; rfl
  have v3 : V[3]? = some (.int .u64 k.x) := by rw [← hV]; rfl
  obtain ⟨U, hU⟩ : ∃ V, tcell k D = V := ⟨_, rfl⟩
  obtain ⟨C, hC⟩ : ∃ C, K.map (Value.int .u8) = C := ⟨_, rfl⟩
  rw [hV] at A1 A2 A5 SV ⊢
  rw [hU] at A3 A4 SU LU OU
  rw [hC] at A1 A2 A3 A4 A5 SK ⊢
  clear hV hU hC hg hK hKb ha hb hDl
  have hx : Box ((w.alloc (.cells C.toArray 23)).alloc (.cells V.toArray 27)) w.heap.size C := Box.alloc (Box.newc rfl rfl) _
  have hv : Box ((w.alloc (.cells C.toArray 23)).alloc (.cells V.toArray 27)) (w.heap.size + 1) V := Box.newc rfl (by simp)
  have hB : Below w.heap.size w ((w.alloc (.cells C.toArray 23)).alloc (.cells V.toArray 27)) := by go_grown
  go_enter Tryd.func8, Tryd.ntmps8
  go_upto_region 1 with fail
  have hB0 := hB
  have hs0 := hB0.size
  have x_K0 : Box ((w.alloc (.cells C.toArray 23)).alloc (.cells V.toArray 27)) (w.heap.size) (C) := hx
  have x_T0 : Box ((w.alloc (.cells C.toArray 23)).alloc (.cells V.toArray 27)) (w.heap.size + 1) (V) := hv
  clear hx hv hB
  refine wp_region_held_drew (S := fun W => Box W (w.heap.size) (C) ∧ Box W (w.heap.size + 1) (V)) (by kernel_rfl) (And.intro (x_K0).drew (x_T0).drew) (fun _ => ?_)
  refine F_drew (F := fun W => wpAnyH _ _ _ _ _ _ _ _ W) ?_
  intro Wm0 hbm0
  have hxm0 := (And.intro (Box.below x_K0 hbm0) (Box.below x_T0 hbm0))
  have hBm0 := below_thru hB0 hbm0
  clear x_K0 x_T0 hB0 hs0 hbm0
  refine takeH 2 15 (v := ?vm2_1) rfl (by rfl) (by kernel_rfl) (by kernel_rfl) (by kernel_rfl) (fun _ _ _ h => h) (Or.inl ⟨by rfl, ?_⟩) (hxm0) ?_
  rotate_left
  · intro wq hSq
    go_simp
    exact rfl
  try simp only [Act.put, List.setIfInBounds_toArray, List.set_cons_zero, List.set_cons_succ]
  refine takeH 6 19 (v := ?vm6_2) rfl (by rfl) (by kernel_rfl) (by kernel_rfl) (by kernel_rfl) (fun _ _ _ h => h) (Or.inl ⟨by rfl, ?_⟩) (hxm0) ?_
  rotate_left
  · intro wq hSq
    go_simp
    exact rfl
  try simp only [Act.put, List.setIfInBounds_toArray, List.set_cons_zero, List.set_cons_succ]
  refine takeH 0 13 (v := .agg (C).toArray) rfl (by rfl) (by kernel_rfl) (by kernel_rfl) (by kernel_rfl) (fun _ _ _ h => h) (yieldsIf_load_mid (by rfl) _ _ rfl _ _ rfl (C) _ (fun wq hq => Box.range (hq.1)) Tryd.underlying23 rfl SK.out) (hxm0) ?_
  try simp only [Act.put, List.setIfInBounds_toArray, List.set_cons_zero, List.set_cons_succ]
  refine takeH 1 14 (v := .agg (V).toArray) rfl (by rfl) (by kernel_rfl) (by kernel_rfl) (by kernel_rfl) (fun _ _ _ h => h) (yieldsIf_load_mid (by rfl) _ _ rfl _ _ rfl (V) _ (fun wq hq => Box.range (hq.2)) Tryd.underlying27 rfl SV.out) (hxm0) ?_
  try simp only [Act.put, List.setIfInBounds_toArray, List.set_cons_zero, List.set_cons_succ]
  refine takeH 4 17 (v := .agg (C).toArray) rfl (by rfl) (by kernel_rfl) (by kernel_rfl) (by kernel_rfl) (fun _ _ _ h => h) (yieldsIf_load_mid (by rfl) _ _ rfl _ _ rfl (C) _ (fun wq hq => Box.range (hq.1)) Tryd.underlying23 rfl SK.out) (hxm0) ?_
  try simp only [Act.put, List.setIfInBounds_toArray, List.set_cons_zero, List.set_cons_succ]
  refine takeH 5 18 (v := .agg (V).toArray) rfl (by rfl) (by kernel_rfl) (by kernel_rfl) (by kernel_rfl) (fun _ _ _ h => h) (yieldsIf_load_mid (by rfl) _ _ rfl _ _ rfl (V) _ (fun wq hq => Box.range (hq.2)) Tryd.underlying27 rfl SV.out) (hxm0) ?_
  try simp only [Act.put, List.setIfInBounds_toArray, List.set_cons_zero, List.set_cons_succ]
  refine wpAnyH_ready (rs := [3]) (by kernel_rfl) (by simp) (AllReadyH.cons rfl (fun K hK => ?_) AllReadyH.nil)
  go_simp
  refine (A1 _ (Lib.hid (hL.out.below hBm0))).mono ?_
  rintro e Wm3 ⟨rfl, hbm3⟩
  have hxm3 := (And.intro (Box.below hxm0.1 hbm3) (Box.below hxm0.2 hbm3))
  have hBm3 := below_thru hBm0 hbm3
  clear hxm0 hBm0
  clear hbm3
  refine hK.out _ _ hxm3 (fun _ => ?_); clear hK
  refine wpAnyH_ready (rs := [7]) (by kernel_rfl) (by simp) (AllReadyH.cons rfl (fun K hK => ?_) AllReadyH.nil)
  go_simp
  refine (A2 _ (Lib.hid (hL.out.below hBm3))).mono ?_
  rintro e Wm4 ⟨rfl, hbm4⟩
  have hxm4 := (And.intro (Box.below hxm3.1 hbm4) (Box.below hxm3.2 hbm4))
  have hBm4 := below_thru hBm3 hbm4
  clear hxm3 hBm3
  clear hbm4
  refine hK.out _ _ hxm4 (fun _ => ?_); clear hK
  refine takeH 8 9 (v := ?vm8_5) rfl (by rfl) (by kernel_rfl) (by kernel_rfl) (by kernel_rfl) (fun _ _ _ h => h) (Or.inl ⟨by rfl, ?_⟩) (hxm4) ?_
  rotate_left
  · intro wq hSq
    go_simp
    exact rfl
  try simp only [Act.put, List.setIfInBounds_toArray, List.set_cons_zero, List.set_cons_succ]
  refine takeH 9 10 (v := ?vm9_6) rfl (by rfl) (by kernel_rfl) (by kernel_rfl) (by kernel_rfl) (fun _ _ _ h => h) (Or.inl ⟨by rfl, ?_⟩) (hxm4) ?_
  rotate_left
  · intro wq hSq
    go_simp
    exact rfl
  try simp only [Act.put, List.setIfInBounds_toArray, List.set_cons_zero, List.set_cons_succ]
  refine wpAnyH_done (by kernel_rfl) ?_ _
  have x_K1 : Box Wm4 (w.heap.size) (C) := hxm4.1
  have x_T1 : Box Wm4 (w.heap.size + 1) (V) := hxm4.2
  have hB1 := hBm4
  have hs1 := hB1.size
  clear hxm4
  clear A1 A2
  go_upto_region 4 with fail
  have ct0 := (x_T1).c 0 _ v0
  have ct1 := (x_T1).c 1 _ v1
  have ct2 := (x_T1).c 2 _ v2
  have ct3 := (x_T1).c 3 _ v3
  have zt := (x_T1).lt
  go_wp2_with (refine wpList_load_boxw rfl _ _ rfl x_K1 rfl Tryd.underlying23 rfl SK.out ?_)
  refine (A3 _ (Lib.hid (hL.out.below hB1))).mono ?_
  rintro e w2 ⟨rfl, hb⟩
  clear A3 ct0 ct1 ct2 ct3 zt
  have hB2 : Below w.heap.size w w2 := below_thru hB1 hb
  have hs2 := hB2.size
  have x_K2 : Box w2 (w.heap.size) (C) := Box.below x_K1 hb
  have x_T2 : Box w2 (w.heap.size + 1) (V) := Box.below x_T1 hb
  clear hB1 hs1 x_K1 x_T1
  clear hb
  have d_U_K := (x_K2).lt
  have d_U_T := (x_T2).lt
  have d_U_0 := hs2
  go_upto_region 5 with (refine wpList_store_box (cs := U) rfl _ _ _ rfl (Box.newc (l := zeroTk) rfl rfl) rfl rfl SU.out LU.out OU.out ?_; intro W2_0 hW2_0)
  have hN : Below w2.heap.size w2 W2_0 := (hW2_0.below _ _ (by omega) ((Below.refl _ w2).alloc (Nat.le_refl _) _))
  have x_U3 : Box W2_0 (w2.heap.size) (U) := hW2_0.box
  have hB3 : Below w.heap.size w W2_0 := below_thru hB2 hN
  have hs3 := hB3.size
  have x_K3 : Box W2_0 (w.heap.size) (C) := Box.below x_K2 hN
  have x_T3 : Box W2_0 (w.heap.size + 1) (V) := Box.below x_T2 hN
  clear hB2 hs2 x_K2 x_T2
  clear hN hW2_0
  go_wp2_with (first
    | (refine wpList_load_boxw rfl _ _ rfl x_K3 rfl Tryd.underlying23 rfl SK.out ?_)
    | (refine wpList_load_boxw rfl _ _ rfl x_U3 rfl Tryd.underlying27 rfl SU.out ?_))
  refine (A4 _ (Lib.hid (hL.out.below hB3))).mono ?_
  rintro e w4 ⟨rfl, hb⟩
  clear A4
  have hB4 : Below w.heap.size w w4 := below_thru hB3 hb
  have hs4 := hB4.size
  have x_K4 : Box w4 (w.heap.size) (C) := Box.below x_K3 hb
  have x_T4 : Box w4 (w.heap.size + 1) (V) := Box.below x_T3 hb
  have x_U4 : Box w4 (w2.heap.size) (U) := Box.below x_U3 hb
  clear hB3 hs3 x_K3 x_T3 x_U3
  clear hb
  clear x_U4
  have ct0 := (x_T4).c 0 _ v0
  have ct1 := (x_T4).c 1 _ v1
  have ct2 := (x_T4).c 2 _ v2
  have ct3 := (x_T4).c 3 _ v3
  have zt := (x_T4).lt
  go_wp2_with (first
    | (refine wpList_load_boxw rfl _ _ rfl x_K4 rfl Tryd.underlying23 rfl SK.out ?_)
    | (refine wpList_load_boxw rfl _ _ rfl x_T4 rfl Tryd.underlying27 rfl SV.out ?_))
  refine (A5 _ (Lib.hid (hL.out.below hB4))).mono ?_
  rintro e w5 ⟨rfl, hb⟩
  clear A5 ct0 ct1 ct2 ct3 zt
  have hB5 : Below w.heap.size w w5 := below_thru hB4 hb
  have hs5 := hB5.size
  have x_K5 : Box w5 (w.heap.size) (C) := Box.below x_K4 hb
  have x_T5 : Box w5 (w.heap.size + 1) (V) := Box.below x_T4 hb
  clear hB4 hs4 x_K4 x_T4
  clear hb
  go_wp2_with fail
  refine (alive8_is _ (Lib.hid (hL.out.below hB5))).mono ?_
  rintro e w6 ⟨rfl, hb⟩
  have hB6 : Below w.heap.size w w6 := below_thru hB5 hb
  have hs6 := hB6.size
  have x_K6 : Box w6 (w.heap.size) (C) := Box.below x_K5 hb
  have x_T6 : Box w6 (w.heap.size + 1) (V) := Box.below x_T5 hb
  clear hB5 hs5 x_K5 x_T5
  clear hb
  go_wp2_with fail
  go_returns
  exact ⟨rfl, hB6⟩

set_option maxRecDepth 100000 in
set_option maxHeartbeats 6400000 in
theorem late8_b (k : Nums) {g K D : List Int} {a b : Int} (hg : g.length = 32) (hK : K.length = 32) (hKb : Byts K) (ha : 0 ≤ a) (hb : 0 ≤ b) (hD : tagL K k.msg = D) (hE : Hid (valN K k g a = 22)) (hF : Hid (valN K k g b = 22)) (hG : Hid (valN K k D a = 0)) (hV : Hid (verN K k g = 22)) (d2 : decide (a ≤ k.x) = true) (w : World) (hL : Hid (LaidS w)) :
    Calls Tryd.prog 8 #[.agg (K.map (Value.int .u8)).toArray, .agg (tcell k g).toArray, .int .u64 a, .int .u64 b] w fun e w' => e = .returned (.bool true) ∧ Below w.heap.size w w' := by
  have hDl : D.length = 32 := by rw [← hD]; exact tagL_len _ _
  have A1 := fun (W : World) h => valid_is k hg hK hKb ha hE W h
  have A2 := fun (W : World) h => valid_is k hg hK hKb hb hF W h
  have A3 := fun (W : World) h => mint_is k hK hKb (Lib.hid hD) W h
  have A4 := fun (W : World) h => valid_is k hDl hK hKb ha hG W h
  have A5 := fun (W : World) h => verify_is k hg hK hKb hV W h
  have SK := Lib.hid (size_dig hK)
  have SV := Lib.hid (size_tok k hg)
  have SU := Lib.hid (size_tok k hDl)
  have LU := Lib.hid (len_tok Nums.zero k zd32 hDl)
  have OU := Lib.hid (tcell_one k D)
  obtain ⟨V, hV⟩ : ∃ V, tcell k g = V := ⟨_, rfl⟩
  have v0 : V[0]? = some (.int .u32 k.t) := by rw [← hV]; rfl
  have v1 : V[1]? = some (.int .u32 k.u) := by rw [← hV]; rfl
  have v2 : V[2]? = some (.int .u32 k.e) := by rw [← hV]; rfl
  have v3 : V[3]? = some (.int .u64 k.x) := by rw [← hV]; rfl
  obtain ⟨U, hU⟩ : ∃ V, tcell k D = V := ⟨_, rfl⟩
  obtain ⟨C, hC⟩ : ∃ C, K.map (Value.int .u8) = C := ⟨_, rfl⟩
  rw [hV] at A1 A2 A5 SV ⊢
  rw [hU] at A3 A4 SU LU OU
  rw [hC] at A1 A2 A3 A4 A5 SK ⊢
  clear hV hU hC hg hK hKb ha hb hDl
  have hx : Box ((w.alloc (.cells C.toArray 23)).alloc (.cells V.toArray 27)) w.heap.size C := Box.alloc (Box.newc rfl rfl) _
  have hv : Box ((w.alloc (.cells C.toArray 23)).alloc (.cells V.toArray 27)) (w.heap.size + 1) V := Box.newc rfl (by simp)
  have hB : Below w.heap.size w ((w.alloc (.cells C.toArray 23)).alloc (.cells V.toArray 27)) := by go_grown
  go_enter Tryd.func8, Tryd.ntmps8
  go_upto_region 1 with fail
  have hB0 := hB
  have hs0 := hB0.size
  have x_K0 : Box ((w.alloc (.cells C.toArray 23)).alloc (.cells V.toArray 27)) (w.heap.size) (C) := hx
  have x_T0 : Box ((w.alloc (.cells C.toArray 23)).alloc (.cells V.toArray 27)) (w.heap.size + 1) (V) := hv
  clear hx hv hB
  refine wp_region_held_drew (S := fun W => Box W (w.heap.size) (C) ∧ Box W (w.heap.size + 1) (V)) (by kernel_rfl) (And.intro (x_K0).drew (x_T0).drew) (fun _ => ?_)
  refine F_drew (F := fun W => wpAnyH _ _ _ _ _ _ _ _ W) ?_
  intro Wm0 hbm0
  have hxm0 := (And.intro (Box.below x_K0 hbm0) (Box.below x_T0 hbm0))
  have hBm0 := below_thru hB0 hbm0
  clear x_K0 x_T0 hB0 hs0 hbm0
  refine takeH 2 15 (v := ?vm2_1) rfl (by rfl) (by kernel_rfl) (by kernel_rfl) (by kernel_rfl) (fun _ _ _ h => h) (Or.inl ⟨by rfl, ?_⟩) (hxm0) ?_
  rotate_left
  · intro wq hSq
    go_simp
    exact rfl
  try simp only [Act.put, List.setIfInBounds_toArray, List.set_cons_zero, List.set_cons_succ]
  refine takeH 6 19 (v := ?vm6_2) rfl (by rfl) (by kernel_rfl) (by kernel_rfl) (by kernel_rfl) (fun _ _ _ h => h) (Or.inl ⟨by rfl, ?_⟩) (hxm0) ?_
  rotate_left
  · intro wq hSq
    go_simp
    exact rfl
  try simp only [Act.put, List.setIfInBounds_toArray, List.set_cons_zero, List.set_cons_succ]
  refine takeH 0 13 (v := .agg (C).toArray) rfl (by rfl) (by kernel_rfl) (by kernel_rfl) (by kernel_rfl) (fun _ _ _ h => h) (yieldsIf_load_mid (by rfl) _ _ rfl _ _ rfl (C) _ (fun wq hq => Box.range (hq.1)) Tryd.underlying23 rfl SK.out) (hxm0) ?_
  try simp only [Act.put, List.setIfInBounds_toArray, List.set_cons_zero, List.set_cons_succ]
  refine takeH 1 14 (v := .agg (V).toArray) rfl (by rfl) (by kernel_rfl) (by kernel_rfl) (by kernel_rfl) (fun _ _ _ h => h) (yieldsIf_load_mid (by rfl) _ _ rfl _ _ rfl (V) _ (fun wq hq => Box.range (hq.2)) Tryd.underlying27 rfl SV.out) (hxm0) ?_
  try simp only [Act.put, List.setIfInBounds_toArray, List.set_cons_zero, List.set_cons_succ]
  refine takeH 4 17 (v := .agg (C).toArray) rfl (by rfl) (by kernel_rfl) (by kernel_rfl) (by kernel_rfl) (fun _ _ _ h => h) (yieldsIf_load_mid (by rfl) _ _ rfl _ _ rfl (C) _ (fun wq hq => Box.range (hq.1)) Tryd.underlying23 rfl SK.out) (hxm0) ?_
  try simp only [Act.put, List.setIfInBounds_toArray, List.set_cons_zero, List.set_cons_succ]
  refine takeH 5 18 (v := .agg (V).toArray) rfl (by rfl) (by kernel_rfl) (by kernel_rfl) (by kernel_rfl) (fun _ _ _ h => h) (yieldsIf_load_mid (by rfl) _ _ rfl _ _ rfl (V) _ (fun wq hq => Box.range (hq.2)) Tryd.underlying27 rfl SV.out) (hxm0) ?_
  try simp only [Act.put, List.setIfInBounds_toArray, List.set_cons_zero, List.set_cons_succ]
  refine wpAnyH_ready (rs := [3]) (by kernel_rfl) (by simp) (AllReadyH.cons rfl (fun K hK => ?_) AllReadyH.nil)
  go_simp
  refine (A1 _ (Lib.hid (hL.out.below hBm0))).mono ?_
  rintro e Wm3 ⟨rfl, hbm3⟩
  have hxm3 := (And.intro (Box.below hxm0.1 hbm3) (Box.below hxm0.2 hbm3))
  have hBm3 := below_thru hBm0 hbm3
  clear hxm0 hBm0
  clear hbm3
  refine hK.out _ _ hxm3 (fun _ => ?_); clear hK
  refine wpAnyH_ready (rs := [7]) (by kernel_rfl) (by simp) (AllReadyH.cons rfl (fun K hK => ?_) AllReadyH.nil)
  go_simp
  refine (A2 _ (Lib.hid (hL.out.below hBm3))).mono ?_
  rintro e Wm4 ⟨rfl, hbm4⟩
  have hxm4 := (And.intro (Box.below hxm3.1 hbm4) (Box.below hxm3.2 hbm4))
  have hBm4 := below_thru hBm3 hbm4
  clear hxm3 hBm3
  clear hbm4
  refine hK.out _ _ hxm4 (fun _ => ?_); clear hK
  refine takeH 8 9 (v := ?vm8_5) rfl (by rfl) (by kernel_rfl) (by kernel_rfl) (by kernel_rfl) (fun _ _ _ h => h) (Or.inl ⟨by rfl, ?_⟩) (hxm4) ?_
  rotate_left
  · intro wq hSq
    go_simp
    exact rfl
  try simp only [Act.put, List.setIfInBounds_toArray, List.set_cons_zero, List.set_cons_succ]
  refine takeH 9 10 (v := ?vm9_6) rfl (by rfl) (by kernel_rfl) (by kernel_rfl) (by kernel_rfl) (fun _ _ _ h => h) (Or.inl ⟨by rfl, ?_⟩) (hxm4) ?_
  rotate_left
  · intro wq hSq
    go_simp
    exact rfl
  try simp only [Act.put, List.setIfInBounds_toArray, List.set_cons_zero, List.set_cons_succ]
  refine wpAnyH_done (by kernel_rfl) ?_ _
  have x_K1 : Box Wm4 (w.heap.size) (C) := hxm4.1
  have x_T1 : Box Wm4 (w.heap.size + 1) (V) := hxm4.2
  have hB1 := hBm4
  have hs1 := hB1.size
  clear hxm4
  clear A1 A2
  go_upto_region 4 with fail
  have ct0 := (x_T1).c 0 _ v0
  have ct1 := (x_T1).c 1 _ v1
  have ct2 := (x_T1).c 2 _ v2
  have ct3 := (x_T1).c 3 _ v3
  have zt := (x_T1).lt
  go_wp2_with (refine wpList_load_boxw rfl _ _ rfl x_K1 rfl Tryd.underlying23 rfl SK.out ?_)
  refine (A3 _ (Lib.hid (hL.out.below hB1))).mono ?_
  rintro e w2 ⟨rfl, hb⟩
  clear A3 ct0 ct1 ct2 ct3 zt
  have hB2 : Below w.heap.size w w2 := below_thru hB1 hb
  have hs2 := hB2.size
  have x_K2 : Box w2 (w.heap.size) (C) := Box.below x_K1 hb
  have x_T2 : Box w2 (w.heap.size + 1) (V) := Box.below x_T1 hb
  clear hB1 hs1 x_K1 x_T1
  clear hb
  have d_U_K := (x_K2).lt
  have d_U_T := (x_T2).lt
  have d_U_0 := hs2
  go_upto_region 5 with (refine wpList_store_box (cs := U) rfl _ _ _ rfl (Box.newc (l := zeroTk) rfl rfl) rfl rfl SU.out LU.out OU.out ?_; intro W2_0 hW2_0)
  have hN : Below w2.heap.size w2 W2_0 := (hW2_0.below _ _ (by omega) ((Below.refl _ w2).alloc (Nat.le_refl _) _))
  have x_U3 : Box W2_0 (w2.heap.size) (U) := hW2_0.box
  have hB3 : Below w.heap.size w W2_0 := below_thru hB2 hN
  have hs3 := hB3.size
  have x_K3 : Box W2_0 (w.heap.size) (C) := Box.below x_K2 hN
  have x_T3 : Box W2_0 (w.heap.size + 1) (V) := Box.below x_T2 hN
  clear hB2 hs2 x_K2 x_T2
  clear hN hW2_0
  go_wp2_with (first
    | (refine wpList_load_boxw rfl _ _ rfl x_K3 rfl Tryd.underlying23 rfl SK.out ?_)
    | (refine wpList_load_boxw rfl _ _ rfl x_U3 rfl Tryd.underlying27 rfl SU.out ?_))
  refine (A4 _ (Lib.hid (hL.out.below hB3))).mono ?_
  rintro e w4 ⟨rfl, hb⟩
  clear A4
  have hB4 : Below w.heap.size w w4 := below_thru hB3 hb
  have hs4 := hB4.size
  have x_K4 : Box w4 (w.heap.size) (C) := Box.below x_K3 hb
  have x_T4 : Box w4 (w.heap.size + 1) (V) := Box.below x_T3 hb
  have x_U4 : Box w4 (w2.heap.size) (U) := Box.below x_U3 hb
  clear hB3 hs3 x_K3 x_T3 x_U3
  clear hb
  clear x_U4
  have ct0 := (x_T4).c 0 _ v0
  have ct1 := (x_T4).c 1 _ v1
  have ct2 := (x_T4).c 2 _ v2
  have ct3 := (x_T4).c 3 _ v3
  have zt := (x_T4).lt
  go_wp2_with (first
    | (refine wpList_load_boxw rfl _ _ rfl x_K4 rfl Tryd.underlying23 rfl SK.out ?_)
    | (refine wpList_load_boxw rfl _ _ rfl x_T4 rfl Tryd.underlying27 rfl SV.out ?_))
  refine (A5 _ (Lib.hid (hL.out.below hB4))).mono ?_
  rintro e w5 ⟨rfl, hb⟩
  clear A5 ct0 ct1 ct2 ct3 zt
  have hB5 : Below w.heap.size w w5 := below_thru hB4 hb
  have hs5 := hB5.size
  have x_K5 : Box w5 (w.heap.size) (C) := Box.below x_K4 hb
  have x_T5 : Box w5 (w.heap.size + 1) (V) := Box.below x_T4 hb
  clear hB4 hs4 x_K4 x_T4
  clear hb
  go_wp2_with fail
  refine (alive8_is _ (Lib.hid (hL.out.below hB5))).mono ?_
  rintro e w6 ⟨rfl, hb⟩
  have hB6 : Below w.heap.size w w6 := below_thru hB5 hb
  have hs6 := hB6.size
  have x_K6 : Box w6 (w.heap.size) (C) := Box.below x_K5 hb
  have x_T6 : Box w6 (w.heap.size + 1) (V) := Box.below x_T5 hb
  clear hB5 hs5 x_K5 x_T5
  clear hb
  go_wp2_with fail
  go_returns
  exact ⟨rfl, hB6⟩

set_option maxRecDepth 100000 in
set_option maxHeartbeats 6400000 in
theorem late8_c (k : Nums) {g K D : List Int} {a b f : Int} (hg : g.length = 32) (hK : K.length = 32) (hKb : Byts K) (ha : 0 ≤ a) (hb : 0 ≤ b) (hD : tagL K k.msg = D) (hE : Hid (valN K k g a = 24)) (hF : Hid (valN K k g b = f)) (hG : Hid (valN K k D a = 24)) (hV : Hid (verN K k g = 0)) (d2 : decide (a ≤ k.x) = false) (w : World) (hL : Hid (LaidS w)) :
    Calls Tryd.prog 8 #[.agg (K.map (Value.int .u8)).toArray, .agg (tcell k g).toArray, .int .u64 a, .int .u64 b] w fun e w' => e = .returned (.bool true) ∧ Below w.heap.size w w' := by
  have hDl : D.length = 32 := by rw [← hD]; exact tagL_len _ _
  have A1 := fun (W : World) h => valid_is k hg hK hKb ha hE W h
  have A2 := fun (W : World) h => valid_is k hg hK hKb hb hF W h
  have A3 := fun (W : World) h => mint_is k hK hKb (Lib.hid hD) W h
  have A4 := fun (W : World) h => valid_is k hDl hK hKb ha hG W h
  have A5 := fun (W : World) h => verify_is k hg hK hKb hV W h
  have SK := Lib.hid (size_dig hK)
  have SV := Lib.hid (size_tok k hg)
  have SU := Lib.hid (size_tok k hDl)
  have LU := Lib.hid (len_tok Nums.zero k zd32 hDl)
  have OU := Lib.hid (tcell_one k D)
  obtain ⟨V, hV⟩ : ∃ V, tcell k g = V := ⟨_, rfl⟩
  have v0 : V[0]? = some (.int .u32 k.t) := by rw [← hV]; rfl
  have v1 : V[1]? = some (.int .u32 k.u) := by rw [← hV]; rfl
  have v2 : V[2]? = some (.int .u32 k.e) := by rw [← hV]; rfl
  have v3 : V[3]? = some (.int .u64 k.x) := by rw [← hV]; rfl
  obtain ⟨U, hU⟩ : ∃ V, tcell k D = V := ⟨_, rfl⟩
  obtain ⟨C, hC⟩ : ∃ C, K.map (Value.int .u8) = C := ⟨_, rfl⟩
  rw [hV] at A1 A2 A5 SV ⊢
  rw [hU] at A3 A4 SU LU OU
  rw [hC] at A1 A2 A3 A4 A5 SK ⊢
  clear hV hU hC hg hK hKb ha hb hDl
  have hx : Box ((w.alloc (.cells C.toArray 23)).alloc (.cells V.toArray 27)) w.heap.size C := Box.alloc (Box.newc rfl rfl) _
  have hv : Box ((w.alloc (.cells C.toArray 23)).alloc (.cells V.toArray 27)) (w.heap.size + 1) V := Box.newc rfl (by simp)
  have hB : Below w.heap.size w ((w.alloc (.cells C.toArray 23)).alloc (.cells V.toArray 27)) := by go_grown
  go_enter Tryd.func8, Tryd.ntmps8
  go_upto_region 1 with fail
  have hB0 := hB
  have hs0 := hB0.size
  have x_K0 : Box ((w.alloc (.cells C.toArray 23)).alloc (.cells V.toArray 27)) (w.heap.size) (C) := hx
  have x_T0 : Box ((w.alloc (.cells C.toArray 23)).alloc (.cells V.toArray 27)) (w.heap.size + 1) (V) := hv
  clear hx hv hB
  refine wp_region_held_drew (S := fun W => Box W (w.heap.size) (C) ∧ Box W (w.heap.size + 1) (V)) (by kernel_rfl) (And.intro (x_K0).drew (x_T0).drew) (fun _ => ?_)
  refine F_drew (F := fun W => wpAnyH _ _ _ _ _ _ _ _ W) ?_
  intro Wm0 hbm0
  have hxm0 := (And.intro (Box.below x_K0 hbm0) (Box.below x_T0 hbm0))
  have hBm0 := below_thru hB0 hbm0
  clear x_K0 x_T0 hB0 hs0 hbm0
  refine takeH 2 15 (v := ?vm2_1) rfl (by rfl) (by kernel_rfl) (by kernel_rfl) (by kernel_rfl) (fun _ _ _ h => h) (Or.inl ⟨by rfl, ?_⟩) (hxm0) ?_
  rotate_left
  · intro wq hSq
    go_simp
    exact rfl
  try simp only [Act.put, List.setIfInBounds_toArray, List.set_cons_zero, List.set_cons_succ]
  refine takeH 6 19 (v := ?vm6_2) rfl (by rfl) (by kernel_rfl) (by kernel_rfl) (by kernel_rfl) (fun _ _ _ h => h) (Or.inl ⟨by rfl, ?_⟩) (hxm0) ?_
  rotate_left
  · intro wq hSq
    go_simp
    exact rfl
  try simp only [Act.put, List.setIfInBounds_toArray, List.set_cons_zero, List.set_cons_succ]
  refine takeH 0 13 (v := .agg (C).toArray) rfl (by rfl) (by kernel_rfl) (by kernel_rfl) (by kernel_rfl) (fun _ _ _ h => h) (yieldsIf_load_mid (by rfl) _ _ rfl _ _ rfl (C) _ (fun wq hq => Box.range (hq.1)) Tryd.underlying23 rfl SK.out) (hxm0) ?_
  try simp only [Act.put, List.setIfInBounds_toArray, List.set_cons_zero, List.set_cons_succ]
  refine takeH 1 14 (v := .agg (V).toArray) rfl (by rfl) (by kernel_rfl) (by kernel_rfl) (by kernel_rfl) (fun _ _ _ h => h) (yieldsIf_load_mid (by rfl) _ _ rfl _ _ rfl (V) _ (fun wq hq => Box.range (hq.2)) Tryd.underlying27 rfl SV.out) (hxm0) ?_
  try simp only [Act.put, List.setIfInBounds_toArray, List.set_cons_zero, List.set_cons_succ]
  refine takeH 4 17 (v := .agg (C).toArray) rfl (by rfl) (by kernel_rfl) (by kernel_rfl) (by kernel_rfl) (fun _ _ _ h => h) (yieldsIf_load_mid (by rfl) _ _ rfl _ _ rfl (C) _ (fun wq hq => Box.range (hq.1)) Tryd.underlying23 rfl SK.out) (hxm0) ?_
  try simp only [Act.put, List.setIfInBounds_toArray, List.set_cons_zero, List.set_cons_succ]
  refine takeH 5 18 (v := .agg (V).toArray) rfl (by rfl) (by kernel_rfl) (by kernel_rfl) (by kernel_rfl) (fun _ _ _ h => h) (yieldsIf_load_mid (by rfl) _ _ rfl _ _ rfl (V) _ (fun wq hq => Box.range (hq.2)) Tryd.underlying27 rfl SV.out) (hxm0) ?_
  try simp only [Act.put, List.setIfInBounds_toArray, List.set_cons_zero, List.set_cons_succ]
  refine wpAnyH_ready (rs := [3]) (by kernel_rfl) (by simp) (AllReadyH.cons rfl (fun K hK => ?_) AllReadyH.nil)
  go_simp
  refine (A1 _ (Lib.hid (hL.out.below hBm0))).mono ?_
  rintro e Wm3 ⟨rfl, hbm3⟩
  have hxm3 := (And.intro (Box.below hxm0.1 hbm3) (Box.below hxm0.2 hbm3))
  have hBm3 := below_thru hBm0 hbm3
  clear hxm0 hBm0
  clear hbm3
  refine hK.out _ _ hxm3 (fun _ => ?_); clear hK
  refine wpAnyH_ready (rs := [7]) (by kernel_rfl) (by simp) (AllReadyH.cons rfl (fun K hK => ?_) AllReadyH.nil)
  go_simp
  refine (A2 _ (Lib.hid (hL.out.below hBm3))).mono ?_
  rintro e Wm4 ⟨rfl, hbm4⟩
  have hxm4 := (And.intro (Box.below hxm3.1 hbm4) (Box.below hxm3.2 hbm4))
  have hBm4 := below_thru hBm3 hbm4
  clear hxm3 hBm3
  clear hbm4
  refine hK.out _ _ hxm4 (fun _ => ?_); clear hK
  refine takeH 8 9 (v := ?vm8_5) rfl (by rfl) (by kernel_rfl) (by kernel_rfl) (by kernel_rfl) (fun _ _ _ h => h) (Or.inl ⟨by rfl, ?_⟩) (hxm4) ?_
  rotate_left
  · intro wq hSq
    go_simp
    exact rfl
  try simp only [Act.put, List.setIfInBounds_toArray, List.set_cons_zero, List.set_cons_succ]
  refine takeH 9 10 (v := ?vm9_6) rfl (by rfl) (by kernel_rfl) (by kernel_rfl) (by kernel_rfl) (fun _ _ _ h => h) (Or.inl ⟨by rfl, ?_⟩) (hxm4) ?_
  rotate_left
  · intro wq hSq
    go_simp
    exact rfl
  try simp only [Act.put, List.setIfInBounds_toArray, List.set_cons_zero, List.set_cons_succ]
  refine wpAnyH_done (by kernel_rfl) ?_ _
  have x_K1 : Box Wm4 (w.heap.size) (C) := hxm4.1
  have x_T1 : Box Wm4 (w.heap.size + 1) (V) := hxm4.2
  have hB1 := hBm4
  have hs1 := hB1.size
  clear hxm4
  clear A1 A2
  go_upto_region 4 with fail
  have ct0 := (x_T1).c 0 _ v0
  have ct1 := (x_T1).c 1 _ v1
  have ct2 := (x_T1).c 2 _ v2
  have ct3 := (x_T1).c 3 _ v3
  have zt := (x_T1).lt
  go_wp2_with (refine wpList_load_boxw rfl _ _ rfl x_K1 rfl Tryd.underlying23 rfl SK.out ?_)
  refine (A3 _ (Lib.hid (hL.out.below hB1))).mono ?_
  rintro e w2 ⟨rfl, hb⟩
  clear A3 ct0 ct1 ct2 ct3 zt
  have hB2 : Below w.heap.size w w2 := below_thru hB1 hb
  have hs2 := hB2.size
  have x_K2 : Box w2 (w.heap.size) (C) := Box.below x_K1 hb
  have x_T2 : Box w2 (w.heap.size + 1) (V) := Box.below x_T1 hb
  clear hB1 hs1 x_K1 x_T1
  clear hb
  have d_U_K := (x_K2).lt
  have d_U_T := (x_T2).lt
  have d_U_0 := hs2
  go_upto_region 5 with (refine wpList_store_box (cs := U) rfl _ _ _ rfl (Box.newc (l := zeroTk) rfl rfl) rfl rfl SU.out LU.out OU.out ?_; intro W2_0 hW2_0)
  have hN : Below w2.heap.size w2 W2_0 := (hW2_0.below _ _ (by omega) ((Below.refl _ w2).alloc (Nat.le_refl _) _))
  have x_U3 : Box W2_0 (w2.heap.size) (U) := hW2_0.box
  have hB3 : Below w.heap.size w W2_0 := below_thru hB2 hN
  have hs3 := hB3.size
  have x_K3 : Box W2_0 (w.heap.size) (C) := Box.below x_K2 hN
  have x_T3 : Box W2_0 (w.heap.size + 1) (V) := Box.below x_T2 hN
  clear hB2 hs2 x_K2 x_T2
  clear hN hW2_0
  go_wp2_with (first
    | (refine wpList_load_boxw rfl _ _ rfl x_K3 rfl Tryd.underlying23 rfl SK.out ?_)
    | (refine wpList_load_boxw rfl _ _ rfl x_U3 rfl Tryd.underlying27 rfl SU.out ?_))
  refine (A4 _ (Lib.hid (hL.out.below hB3))).mono ?_
  rintro e w4 ⟨rfl, hb⟩
  clear A4
  have hB4 : Below w.heap.size w w4 := below_thru hB3 hb
  have hs4 := hB4.size
  have x_K4 : Box w4 (w.heap.size) (C) := Box.below x_K3 hb
  have x_T4 : Box w4 (w.heap.size + 1) (V) := Box.below x_T3 hb
  have x_U4 : Box w4 (w2.heap.size) (U) := Box.below x_U3 hb
  clear hB3 hs3 x_K3 x_T3 x_U3
  clear hb
  clear x_U4
  have ct0 := (x_T4).c 0 _ v0
  have ct1 := (x_T4).c 1 _ v1
  have ct2 := (x_T4).c 2 _ v2
  have ct3 := (x_T4).c 3 _ v3
  have zt := (x_T4).lt
  go_wp2_with (first
    | (refine wpList_load_boxw rfl _ _ rfl x_K4 rfl Tryd.underlying23 rfl SK.out ?_)
    | (refine wpList_load_boxw rfl _ _ rfl x_T4 rfl Tryd.underlying27 rfl SV.out ?_))
  refine (A5 _ (Lib.hid (hL.out.below hB4))).mono ?_
  rintro e w5 ⟨rfl, hb⟩
  clear A5 ct0 ct1 ct2 ct3 zt
  have hB5 : Below w.heap.size w w5 := below_thru hB4 hb
  have hs5 := hB5.size
  have x_K5 : Box w5 (w.heap.size) (C) := Box.below x_K4 hb
  have x_T5 : Box w5 (w.heap.size + 1) (V) := Box.below x_T4 hb
  clear hB4 hs4 x_K4 x_T4
  clear hb
  go_wp2_with fail
  refine (alive8_is _ (Lib.hid (hL.out.below hB5))).mono ?_
  rintro e w6 ⟨rfl, hb⟩
  have hB6 : Below w.heap.size w w6 := below_thru hB5 hb
  have hs6 := hB6.size
  have x_K6 : Box w6 (w.heap.size) (C) := Box.below x_K5 hb
  have x_T6 : Box w6 (w.heap.size + 1) (V) := Box.below x_T5 hb
  clear hB5 hs5 x_K5 x_T5
  clear hb
  go_wp2_with fail
  go_returns
  exact ⟨rfl, hB6⟩

set_option maxRecDepth 100000 in
set_option maxHeartbeats 6400000 in
theorem late8_d (k : Nums) {g K D : List Int} {a b : Int} (hg : g.length = 32) (hK : K.length = 32) (hKb : Byts K) (ha : 0 ≤ a) (hb : 0 ≤ b) (hD : tagL K k.msg = D) (hE : Hid (valN K k g a = 0)) (hF : Hid (valN K k g b = 0)) (hG : Hid (valN K k D a = 0)) (hV : Hid (verN K k g = 0)) (d1 : decide (b ≤ a) = true) (d2 : decide (a ≤ k.x) = true) (w : World) (hL : Hid (LaidS w)) :
    Calls Tryd.prog 8 #[.agg (K.map (Value.int .u8)).toArray, .agg (tcell k g).toArray, .int .u64 a, .int .u64 b] w fun e w' => e = .returned (.bool true) ∧ Below w.heap.size w w' := by
  have hDl : D.length = 32 := by rw [← hD]; exact tagL_len _ _
  have A1 := fun (W : World) h => valid_is k hg hK hKb ha hE W h
  have A2 := fun (W : World) h => valid_is k hg hK hKb hb hF W h
  have A3 := fun (W : World) h => mint_is k hK hKb (Lib.hid hD) W h
  have A4 := fun (W : World) h => valid_is k hDl hK hKb ha hG W h
  have A5 := fun (W : World) h => verify_is k hg hK hKb hV W h
  have SK := Lib.hid (size_dig hK)
  have SV := Lib.hid (size_tok k hg)
  have SU := Lib.hid (size_tok k hDl)
  have LU := Lib.hid (len_tok Nums.zero k zd32 hDl)
  have OU := Lib.hid (tcell_one k D)
  obtain ⟨V, hV⟩ : ∃ V, tcell k g = V := ⟨_, rfl⟩
  have v0 : V[0]? = some (.int .u32 k.t) := by rw [← hV]; rfl
  have v1 : V[1]? = some (.int .u32 k.u) := by rw [← hV]; rfl
  have v2 : V[2]? = some (.int .u32 k.e) := by rw [← hV]; rfl
  have v3 : V[3]? = some (.int .u64 k.x) := by rw [← hV]; rfl
  obtain ⟨U, hU⟩ : ∃ V, tcell k D = V := ⟨_, rfl⟩
  obtain ⟨C, hC⟩ : ∃ C, K.map (Value.int .u8) = C := ⟨_, rfl⟩
  rw [hV] at A1 A2 A5 SV ⊢
  rw [hU] at A3 A4 SU LU OU
  rw [hC] at A1 A2 A3 A4 A5 SK ⊢
  clear hV hU hC hg hK hKb ha hb hDl
  have hx : Box ((w.alloc (.cells C.toArray 23)).alloc (.cells V.toArray 27)) w.heap.size C := Box.alloc (Box.newc rfl rfl) _
  have hv : Box ((w.alloc (.cells C.toArray 23)).alloc (.cells V.toArray 27)) (w.heap.size + 1) V := Box.newc rfl (by simp)
  have hB : Below w.heap.size w ((w.alloc (.cells C.toArray 23)).alloc (.cells V.toArray 27)) := by go_grown
  go_enter Tryd.func8, Tryd.ntmps8
  go_upto_region 1 with fail
  have hB0 := hB
  have hs0 := hB0.size
  have x_K0 : Box ((w.alloc (.cells C.toArray 23)).alloc (.cells V.toArray 27)) (w.heap.size) (C) := hx
  have x_T0 : Box ((w.alloc (.cells C.toArray 23)).alloc (.cells V.toArray 27)) (w.heap.size + 1) (V) := hv
  clear hx hv hB
  refine wp_region_held_drew (S := fun W => Box W (w.heap.size) (C) ∧ Box W (w.heap.size + 1) (V)) (by kernel_rfl) (And.intro (x_K0).drew (x_T0).drew) (fun _ => ?_)
  refine F_drew (F := fun W => wpAnyH _ _ _ _ _ _ _ _ W) ?_
  intro Wm0 hbm0
  have hxm0 := (And.intro (Box.below x_K0 hbm0) (Box.below x_T0 hbm0))
  have hBm0 := below_thru hB0 hbm0
  clear x_K0 x_T0 hB0 hs0 hbm0
  refine takeH 2 15 (v := ?vm2_1) rfl (by rfl) (by kernel_rfl) (by kernel_rfl) (by kernel_rfl) (fun _ _ _ h => h) (Or.inl ⟨by rfl, ?_⟩) (hxm0) ?_
  rotate_left
  · intro wq hSq
    go_simp
    exact rfl
  try simp only [Act.put, List.setIfInBounds_toArray, List.set_cons_zero, List.set_cons_succ]
  refine takeH 6 19 (v := ?vm6_2) rfl (by rfl) (by kernel_rfl) (by kernel_rfl) (by kernel_rfl) (fun _ _ _ h => h) (Or.inl ⟨by rfl, ?_⟩) (hxm0) ?_
  rotate_left
  · intro wq hSq
    go_simp
    exact rfl
  try simp only [Act.put, List.setIfInBounds_toArray, List.set_cons_zero, List.set_cons_succ]
  refine takeH 0 13 (v := .agg (C).toArray) rfl (by rfl) (by kernel_rfl) (by kernel_rfl) (by kernel_rfl) (fun _ _ _ h => h) (yieldsIf_load_mid (by rfl) _ _ rfl _ _ rfl (C) _ (fun wq hq => Box.range (hq.1)) Tryd.underlying23 rfl SK.out) (hxm0) ?_
  try simp only [Act.put, List.setIfInBounds_toArray, List.set_cons_zero, List.set_cons_succ]
  refine takeH 1 14 (v := .agg (V).toArray) rfl (by rfl) (by kernel_rfl) (by kernel_rfl) (by kernel_rfl) (fun _ _ _ h => h) (yieldsIf_load_mid (by rfl) _ _ rfl _ _ rfl (V) _ (fun wq hq => Box.range (hq.2)) Tryd.underlying27 rfl SV.out) (hxm0) ?_
  try simp only [Act.put, List.setIfInBounds_toArray, List.set_cons_zero, List.set_cons_succ]
  refine takeH 4 17 (v := .agg (C).toArray) rfl (by rfl) (by kernel_rfl) (by kernel_rfl) (by kernel_rfl) (fun _ _ _ h => h) (yieldsIf_load_mid (by rfl) _ _ rfl _ _ rfl (C) _ (fun wq hq => Box.range (hq.1)) Tryd.underlying23 rfl SK.out) (hxm0) ?_
  try simp only [Act.put, List.setIfInBounds_toArray, List.set_cons_zero, List.set_cons_succ]
  refine takeH 5 18 (v := .agg (V).toArray) rfl (by rfl) (by kernel_rfl) (by kernel_rfl) (by kernel_rfl) (fun _ _ _ h => h) (yieldsIf_load_mid (by rfl) _ _ rfl _ _ rfl (V) _ (fun wq hq => Box.range (hq.2)) Tryd.underlying27 rfl SV.out) (hxm0) ?_
  try simp only [Act.put, List.setIfInBounds_toArray, List.set_cons_zero, List.set_cons_succ]
  refine wpAnyH_ready (rs := [3]) (by kernel_rfl) (by simp) (AllReadyH.cons rfl (fun K hK => ?_) AllReadyH.nil)
  go_simp
  refine (A1 _ (Lib.hid (hL.out.below hBm0))).mono ?_
  rintro e Wm3 ⟨rfl, hbm3⟩
  have hxm3 := (And.intro (Box.below hxm0.1 hbm3) (Box.below hxm0.2 hbm3))
  have hBm3 := below_thru hBm0 hbm3
  clear hxm0 hBm0
  clear hbm3
  refine hK.out _ _ hxm3 (fun _ => ?_); clear hK
  refine wpAnyH_ready (rs := [7]) (by kernel_rfl) (by simp) (AllReadyH.cons rfl (fun K hK => ?_) AllReadyH.nil)
  go_simp
  refine (A2 _ (Lib.hid (hL.out.below hBm3))).mono ?_
  rintro e Wm4 ⟨rfl, hbm4⟩
  have hxm4 := (And.intro (Box.below hxm3.1 hbm4) (Box.below hxm3.2 hbm4))
  have hBm4 := below_thru hBm3 hbm4
  clear hxm3 hBm3
  clear hbm4
  refine hK.out _ _ hxm4 (fun _ => ?_); clear hK
  refine takeH 8 9 (v := ?vm8_5) rfl (by rfl) (by kernel_rfl) (by kernel_rfl) (by kernel_rfl) (fun _ _ _ h => h) (Or.inl ⟨by rfl, ?_⟩) (hxm4) ?_
  rotate_left
  · intro wq hSq
    go_simp
    exact rfl
  try simp only [Act.put, List.setIfInBounds_toArray, List.set_cons_zero, List.set_cons_succ]
  refine takeH 9 10 (v := ?vm9_6) rfl (by rfl) (by kernel_rfl) (by kernel_rfl) (by kernel_rfl) (fun _ _ _ h => h) (Or.inl ⟨by rfl, ?_⟩) (hxm4) ?_
  rotate_left
  · intro wq hSq
    go_simp
    exact rfl
  try simp only [Act.put, List.setIfInBounds_toArray, List.set_cons_zero, List.set_cons_succ]
  refine wpAnyH_done (by kernel_rfl) ?_ _
  have x_K1 : Box Wm4 (w.heap.size) (C) := hxm4.1
  have x_T1 : Box Wm4 (w.heap.size + 1) (V) := hxm4.2
  have hB1 := hBm4
  have hs1 := hB1.size
  clear hxm4
  clear A1 A2
  go_upto_region 4 with fail
  have ct0 := (x_T1).c 0 _ v0
  have ct1 := (x_T1).c 1 _ v1
  have ct2 := (x_T1).c 2 _ v2
  have ct3 := (x_T1).c 3 _ v3
  have zt := (x_T1).lt
  go_wp2_with (refine wpList_load_boxw rfl _ _ rfl x_K1 rfl Tryd.underlying23 rfl SK.out ?_)
  refine (A3 _ (Lib.hid (hL.out.below hB1))).mono ?_
  rintro e w2 ⟨rfl, hb⟩
  clear A3 ct0 ct1 ct2 ct3 zt
  have hB2 : Below w.heap.size w w2 := below_thru hB1 hb
  have hs2 := hB2.size
  have x_K2 : Box w2 (w.heap.size) (C) := Box.below x_K1 hb
  have x_T2 : Box w2 (w.heap.size + 1) (V) := Box.below x_T1 hb
  clear hB1 hs1 x_K1 x_T1
  clear hb
  have d_U_K := (x_K2).lt
  have d_U_T := (x_T2).lt
  have d_U_0 := hs2
  go_upto_region 5 with (refine wpList_store_box (cs := U) rfl _ _ _ rfl (Box.newc (l := zeroTk) rfl rfl) rfl rfl SU.out LU.out OU.out ?_; intro W2_0 hW2_0)
  have hN : Below w2.heap.size w2 W2_0 := (hW2_0.below _ _ (by omega) ((Below.refl _ w2).alloc (Nat.le_refl _) _))
  have x_U3 : Box W2_0 (w2.heap.size) (U) := hW2_0.box
  have hB3 : Below w.heap.size w W2_0 := below_thru hB2 hN
  have hs3 := hB3.size
  have x_K3 : Box W2_0 (w.heap.size) (C) := Box.below x_K2 hN
  have x_T3 : Box W2_0 (w.heap.size + 1) (V) := Box.below x_T2 hN
  clear hB2 hs2 x_K2 x_T2
  clear hN hW2_0
  go_wp2_with (first
    | (refine wpList_load_boxw rfl _ _ rfl x_K3 rfl Tryd.underlying23 rfl SK.out ?_)
    | (refine wpList_load_boxw rfl _ _ rfl x_U3 rfl Tryd.underlying27 rfl SU.out ?_))
  refine (A4 _ (Lib.hid (hL.out.below hB3))).mono ?_
  rintro e w4 ⟨rfl, hb⟩
  clear A4
  have hB4 : Below w.heap.size w w4 := below_thru hB3 hb
  have hs4 := hB4.size
  have x_K4 : Box w4 (w.heap.size) (C) := Box.below x_K3 hb
  have x_T4 : Box w4 (w.heap.size + 1) (V) := Box.below x_T3 hb
  have x_U4 : Box w4 (w2.heap.size) (U) := Box.below x_U3 hb
  clear hB3 hs3 x_K3 x_T3 x_U3
  clear hb
  clear x_U4
  have ct0 := (x_T4).c 0 _ v0
  have ct1 := (x_T4).c 1 _ v1
  have ct2 := (x_T4).c 2 _ v2
  have ct3 := (x_T4).c 3 _ v3
  have zt := (x_T4).lt
  go_wp2_with (first
    | (refine wpList_load_boxw rfl _ _ rfl x_K4 rfl Tryd.underlying23 rfl SK.out ?_)
    | (refine wpList_load_boxw rfl _ _ rfl x_T4 rfl Tryd.underlying27 rfl SV.out ?_))
  refine (A5 _ (Lib.hid (hL.out.below hB4))).mono ?_
  rintro e w5 ⟨rfl, hb⟩
  clear A5 ct0 ct1 ct2 ct3 zt
  have hB5 : Below w.heap.size w w5 := below_thru hB4 hb
  have hs5 := hB5.size
  have x_K5 : Box w5 (w.heap.size) (C) := Box.below x_K4 hb
  have x_T5 : Box w5 (w.heap.size + 1) (V) := Box.below x_T4 hb
  clear hB4 hs4 x_K4 x_T4
  clear hb
  go_wp2_with fail
  refine (alive8_is _ (Lib.hid (hL.out.below hB5))).mono ?_
  rintro e w6 ⟨rfl, hb⟩
  have hB6 : Below w.heap.size w w6 := below_thru hB5 hb
  have hs6 := hB6.size
  have x_K6 : Box w6 (w.heap.size) (C) := Box.below x_K5 hb
  have x_T6 : Box w6 (w.heap.size + 1) (V) := Box.below x_T5 hb
  clear hB5 hs5 x_K5 x_T5
  clear hb
  go_wp2_with fail
  go_returns
  exact ⟨rfl, hB6⟩

set_option maxRecDepth 100000 in
set_option maxHeartbeats 6400000 in
theorem late8_e (k : Nums) {g K D : List Int} {a b f : Int} (hg : g.length = 32) (hK : K.length = 32) (hKb : Byts K) (ha : 0 ≤ a) (hb : 0 ≤ b) (hD : tagL K k.msg = D) (hE : Hid (valN K k g a = 0)) (hF : Hid (valN K k g b = f)) (hG : Hid (valN K k D a = 0)) (hV : Hid (verN K k g = 0)) (d1 : decide (b ≤ a) = false) (d2 : decide (a ≤ k.x) = true) (w : World) (hL : Hid (LaidS w)) :
    Calls Tryd.prog 8 #[.agg (K.map (Value.int .u8)).toArray, .agg (tcell k g).toArray, .int .u64 a, .int .u64 b] w fun e w' => e = .returned (.bool true) ∧ Below w.heap.size w w' := by
  have hDl : D.length = 32 := by rw [← hD]; exact tagL_len _ _
  have A1 := fun (W : World) h => valid_is k hg hK hKb ha hE W h
  have A2 := fun (W : World) h => valid_is k hg hK hKb hb hF W h
  have A3 := fun (W : World) h => mint_is k hK hKb (Lib.hid hD) W h
  have A4 := fun (W : World) h => valid_is k hDl hK hKb ha hG W h
  have A5 := fun (W : World) h => verify_is k hg hK hKb hV W h
  have SK := Lib.hid (size_dig hK)
  have SV := Lib.hid (size_tok k hg)
  have SU := Lib.hid (size_tok k hDl)
  have LU := Lib.hid (len_tok Nums.zero k zd32 hDl)
  have OU := Lib.hid (tcell_one k D)
  obtain ⟨V, hV⟩ : ∃ V, tcell k g = V := ⟨_, rfl⟩
  have v0 : V[0]? = some (.int .u32 k.t) := by rw [← hV]; rfl
  have v1 : V[1]? = some (.int .u32 k.u) := by rw [← hV]; rfl
  have v2 : V[2]? = some (.int .u32 k.e) := by rw [← hV]; rfl
  have v3 : V[3]? = some (.int .u64 k.x) := by rw [← hV]; rfl
  obtain ⟨U, hU⟩ : ∃ V, tcell k D = V := ⟨_, rfl⟩
  obtain ⟨C, hC⟩ : ∃ C, K.map (Value.int .u8) = C := ⟨_, rfl⟩
  rw [hV] at A1 A2 A5 SV ⊢
  rw [hU] at A3 A4 SU LU OU
  rw [hC] at A1 A2 A3 A4 A5 SK ⊢
  clear hV hU hC hg hK hKb ha hb hDl
  have hx : Box ((w.alloc (.cells C.toArray 23)).alloc (.cells V.toArray 27)) w.heap.size C := Box.alloc (Box.newc rfl rfl) _
  have hv : Box ((w.alloc (.cells C.toArray 23)).alloc (.cells V.toArray 27)) (w.heap.size + 1) V := Box.newc rfl (by simp)
  have hB : Below w.heap.size w ((w.alloc (.cells C.toArray 23)).alloc (.cells V.toArray 27)) := by go_grown
  go_enter Tryd.func8, Tryd.ntmps8
  go_upto_region 1 with fail
  have hB0 := hB
  have hs0 := hB0.size
  have x_K0 : Box ((w.alloc (.cells C.toArray 23)).alloc (.cells V.toArray 27)) (w.heap.size) (C) := hx
  have x_T0 : Box ((w.alloc (.cells C.toArray 23)).alloc (.cells V.toArray 27)) (w.heap.size + 1) (V) := hv
  clear hx hv hB
  refine wp_region_held_drew (S := fun W => Box W (w.heap.size) (C) ∧ Box W (w.heap.size + 1) (V)) (by kernel_rfl) (And.intro (x_K0).drew (x_T0).drew) (fun _ => ?_)
  refine F_drew (F := fun W => wpAnyH _ _ _ _ _ _ _ _ W) ?_
  intro Wm0 hbm0
  have hxm0 := (And.intro (Box.below x_K0 hbm0) (Box.below x_T0 hbm0))
  have hBm0 := below_thru hB0 hbm0
  clear x_K0 x_T0 hB0 hs0 hbm0
  refine takeH 2 15 (v := ?vm2_1) rfl (by rfl) (by kernel_rfl) (by kernel_rfl) (by kernel_rfl) (fun _ _ _ h => h) (Or.inl ⟨by rfl, ?_⟩) (hxm0) ?_
  rotate_left
  · intro wq hSq
    go_simp
    exact rfl
  try simp only [Act.put, List.setIfInBounds_toArray, List.set_cons_zero, List.set_cons_succ]
  refine takeH 6 19 (v := ?vm6_2) rfl (by rfl) (by kernel_rfl) (by kernel_rfl) (by kernel_rfl) (fun _ _ _ h => h) (Or.inl ⟨by rfl, ?_⟩) (hxm0) ?_
  rotate_left
  · intro wq hSq
    go_simp
    exact rfl
  try simp only [Act.put, List.setIfInBounds_toArray, List.set_cons_zero, List.set_cons_succ]
  refine takeH 0 13 (v := .agg (C).toArray) rfl (by rfl) (by kernel_rfl) (by kernel_rfl) (by kernel_rfl) (fun _ _ _ h => h) (yieldsIf_load_mid (by rfl) _ _ rfl _ _ rfl (C) _ (fun wq hq => Box.range (hq.1)) Tryd.underlying23 rfl SK.out) (hxm0) ?_
  try simp only [Act.put, List.setIfInBounds_toArray, List.set_cons_zero, List.set_cons_succ]
  refine takeH 1 14 (v := .agg (V).toArray) rfl (by rfl) (by kernel_rfl) (by kernel_rfl) (by kernel_rfl) (fun _ _ _ h => h) (yieldsIf_load_mid (by rfl) _ _ rfl _ _ rfl (V) _ (fun wq hq => Box.range (hq.2)) Tryd.underlying27 rfl SV.out) (hxm0) ?_
  try simp only [Act.put, List.setIfInBounds_toArray, List.set_cons_zero, List.set_cons_succ]
  refine takeH 4 17 (v := .agg (C).toArray) rfl (by rfl) (by kernel_rfl) (by kernel_rfl) (by kernel_rfl) (fun _ _ _ h => h) (yieldsIf_load_mid (by rfl) _ _ rfl _ _ rfl (C) _ (fun wq hq => Box.range (hq.1)) Tryd.underlying23 rfl SK.out) (hxm0) ?_
  try simp only [Act.put, List.setIfInBounds_toArray, List.set_cons_zero, List.set_cons_succ]
  refine takeH 5 18 (v := .agg (V).toArray) rfl (by rfl) (by kernel_rfl) (by kernel_rfl) (by kernel_rfl) (fun _ _ _ h => h) (yieldsIf_load_mid (by rfl) _ _ rfl _ _ rfl (V) _ (fun wq hq => Box.range (hq.2)) Tryd.underlying27 rfl SV.out) (hxm0) ?_
  try simp only [Act.put, List.setIfInBounds_toArray, List.set_cons_zero, List.set_cons_succ]
  refine wpAnyH_ready (rs := [3]) (by kernel_rfl) (by simp) (AllReadyH.cons rfl (fun K hK => ?_) AllReadyH.nil)
  go_simp
  refine (A1 _ (Lib.hid (hL.out.below hBm0))).mono ?_
  rintro e Wm3 ⟨rfl, hbm3⟩
  have hxm3 := (And.intro (Box.below hxm0.1 hbm3) (Box.below hxm0.2 hbm3))
  have hBm3 := below_thru hBm0 hbm3
  clear hxm0 hBm0
  clear hbm3
  refine hK.out _ _ hxm3 (fun _ => ?_); clear hK
  refine wpAnyH_ready (rs := [7]) (by kernel_rfl) (by simp) (AllReadyH.cons rfl (fun K hK => ?_) AllReadyH.nil)
  go_simp
  refine (A2 _ (Lib.hid (hL.out.below hBm3))).mono ?_
  rintro e Wm4 ⟨rfl, hbm4⟩
  have hxm4 := (And.intro (Box.below hxm3.1 hbm4) (Box.below hxm3.2 hbm4))
  have hBm4 := below_thru hBm3 hbm4
  clear hxm3 hBm3
  clear hbm4
  refine hK.out _ _ hxm4 (fun _ => ?_); clear hK
  refine takeH 8 9 (v := ?vm8_5) rfl (by rfl) (by kernel_rfl) (by kernel_rfl) (by kernel_rfl) (fun _ _ _ h => h) (Or.inl ⟨by rfl, ?_⟩) (hxm4) ?_
  rotate_left
  · intro wq hSq
    go_simp
    exact rfl
  try simp only [Act.put, List.setIfInBounds_toArray, List.set_cons_zero, List.set_cons_succ]
  refine takeH 9 10 (v := ?vm9_6) rfl (by rfl) (by kernel_rfl) (by kernel_rfl) (by kernel_rfl) (fun _ _ _ h => h) (Or.inl ⟨by rfl, ?_⟩) (hxm4) ?_
  rotate_left
  · intro wq hSq
    go_simp
    exact rfl
  try simp only [Act.put, List.setIfInBounds_toArray, List.set_cons_zero, List.set_cons_succ]
  refine wpAnyH_done (by kernel_rfl) ?_ _
  have x_K1 : Box Wm4 (w.heap.size) (C) := hxm4.1
  have x_T1 : Box Wm4 (w.heap.size + 1) (V) := hxm4.2
  have hB1 := hBm4
  have hs1 := hB1.size
  clear hxm4
  clear A1 A2
  go_upto_region 4 with fail
  have ct0 := (x_T1).c 0 _ v0
  have ct1 := (x_T1).c 1 _ v1
  have ct2 := (x_T1).c 2 _ v2
  have ct3 := (x_T1).c 3 _ v3
  have zt := (x_T1).lt
  go_wp2_with (refine wpList_load_boxw rfl _ _ rfl x_K1 rfl Tryd.underlying23 rfl SK.out ?_)
  refine (A3 _ (Lib.hid (hL.out.below hB1))).mono ?_
  rintro e w2 ⟨rfl, hb⟩
  clear A3 ct0 ct1 ct2 ct3 zt
  have hB2 : Below w.heap.size w w2 := below_thru hB1 hb
  have hs2 := hB2.size
  have x_K2 : Box w2 (w.heap.size) (C) := Box.below x_K1 hb
  have x_T2 : Box w2 (w.heap.size + 1) (V) := Box.below x_T1 hb
  clear hB1 hs1 x_K1 x_T1
  clear hb
  have d_U_K := (x_K2).lt
  have d_U_T := (x_T2).lt
  have d_U_0 := hs2
  go_upto_region 5 with (refine wpList_store_box (cs := U) rfl _ _ _ rfl (Box.newc (l := zeroTk) rfl rfl) rfl rfl SU.out LU.out OU.out ?_; intro W2_0 hW2_0)
  have hN : Below w2.heap.size w2 W2_0 := (hW2_0.below _ _ (by omega) ((Below.refl _ w2).alloc (Nat.le_refl _) _))
  have x_U3 : Box W2_0 (w2.heap.size) (U) := hW2_0.box
  have hB3 : Below w.heap.size w W2_0 := below_thru hB2 hN
  have hs3 := hB3.size
  have x_K3 : Box W2_0 (w.heap.size) (C) := Box.below x_K2 hN
  have x_T3 : Box W2_0 (w.heap.size + 1) (V) := Box.below x_T2 hN
  clear hB2 hs2 x_K2 x_T2
  clear hN hW2_0
  go_wp2_with (first
    | (refine wpList_load_boxw rfl _ _ rfl x_K3 rfl Tryd.underlying23 rfl SK.out ?_)
    | (refine wpList_load_boxw rfl _ _ rfl x_U3 rfl Tryd.underlying27 rfl SU.out ?_))
  refine (A4 _ (Lib.hid (hL.out.below hB3))).mono ?_
  rintro e w4 ⟨rfl, hb⟩
  clear A4
  have hB4 : Below w.heap.size w w4 := below_thru hB3 hb
  have hs4 := hB4.size
  have x_K4 : Box w4 (w.heap.size) (C) := Box.below x_K3 hb
  have x_T4 : Box w4 (w.heap.size + 1) (V) := Box.below x_T3 hb
  have x_U4 : Box w4 (w2.heap.size) (U) := Box.below x_U3 hb
  clear hB3 hs3 x_K3 x_T3 x_U3
  clear hb
  clear x_U4
  have ct0 := (x_T4).c 0 _ v0
  have ct1 := (x_T4).c 1 _ v1
  have ct2 := (x_T4).c 2 _ v2
  have ct3 := (x_T4).c 3 _ v3
  have zt := (x_T4).lt
  go_wp2_with (first
    | (refine wpList_load_boxw rfl _ _ rfl x_K4 rfl Tryd.underlying23 rfl SK.out ?_)
    | (refine wpList_load_boxw rfl _ _ rfl x_T4 rfl Tryd.underlying27 rfl SV.out ?_))
  refine (A5 _ (Lib.hid (hL.out.below hB4))).mono ?_
  rintro e w5 ⟨rfl, hb⟩
  clear A5 ct0 ct1 ct2 ct3 zt
  have hB5 : Below w.heap.size w w5 := below_thru hB4 hb
  have hs5 := hB5.size
  have x_K5 : Box w5 (w.heap.size) (C) := Box.below x_K4 hb
  have x_T5 : Box w5 (w.heap.size + 1) (V) := Box.below x_T4 hb
  clear hB4 hs4 x_K4 x_T4
  clear hb
  go_wp2_with fail
  refine (alive8_is _ (Lib.hid (hL.out.below hB5))).mono ?_
  rintro e w6 ⟨rfl, hb⟩
  have hB6 : Below w.heap.size w w6 := below_thru hB5 hb
  have hs6 := hB6.size
  have x_K6 : Box w6 (w.heap.size) (C) := Box.below x_K5 hb
  have x_T6 : Box w6 (w.heap.size + 1) (V) := Box.below x_T5 hb
  clear hB5 hs5 x_K5 x_T5
  clear hb
  go_wp2_with fail
  go_returns
  exact ⟨rfl, hB6⟩


theorem late8_is (k : Nums) {g K : List Int} {a b : Int} (hg : g.length = 32) (hK : K.length = 32) (hKb : Byts K) (ha : 0 ≤ a) (hb : 0 ≤ b) (w : World) (hL : Hid (LaidS w)) :
    Calls Tryd.prog 8 #[.agg (K.map (Value.int .u8)).toArray, .agg (tcell k g).toArray, .int .u64 a, .int .u64 b] w fun e w' => e = .returned (.bool true) ∧ Below w.heap.size w w' := by
  obtain ⟨D, hD⟩ : ∃ D, tagL K k.msg = D := ⟨_, rfl⟩
  by_cases hx : k.x < a
  · have d2 : decide (a ≤ k.x) = false := decide_eq_false (by omega)
    by_cases hq : tagL K k.msg = g
    · exact late8_c k hg hK hKb ha hb hD (Lib.hid (valN_l hq hx)) (Lib.hid rfl) (Lib.hid (valN_l hD hx)) (Lib.hid (verN_t hq)) d2 w hL
    · exact late8_a k hg hK hKb ha hb hD (Lib.hid (valN_f hq)) (Lib.hid (valN_f hq)) (Lib.hid (valN_l hD hx)) (Lib.hid (verN_f hq)) d2 w hL
  · have d2 : decide (a ≤ k.x) = true := decide_eq_true (by omega)
    by_cases hq : tagL K k.msg = g
    · by_cases hba : b ≤ a
      · exact late8_d k hg hK hKb ha hb hD (Lib.hid (valN_t hq (by omega))) (Lib.hid (valN_t hq (by omega))) (Lib.hid (valN_t hD (by omega))) (Lib.hid (verN_t hq)) (decide_eq_true hba) d2 w hL
      · exact late8_e k hg hK hKb ha hb hD (Lib.hid (valN_t hq (by omega))) (Lib.hid rfl) (Lib.hid (valN_t hD (by omega))) (Lib.hid (verN_t hq)) (decide_eq_false hba) d2 w hL
    · exact late8_b k hg hK hKb ha hb hD (Lib.hid (valN_f hq)) (Lib.hid (valN_f hq)) (Lib.hid (valN_t hD (by omega))) (Lib.hid (verN_f hq)) d2 w hL

end Go.Proofs.YtlbbedknldmcpaaDoor
