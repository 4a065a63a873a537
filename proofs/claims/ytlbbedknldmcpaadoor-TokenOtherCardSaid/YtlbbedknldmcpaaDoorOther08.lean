/-
  TokenOther, walked.
-/
import Derived.Test.YtlbbedknldmcpaaDoorGT3
namespace Go.Proofs.YtlbbedknldmcpaaDoor
open Go.RowKit

set_option maxRecDepth 100000 in
set_option maxHeartbeats 6400000 in
theorem other8_same (k : Nums) {g h K : List Int} (hg : g.length = 32) (hh : h.length = 32) (hK : K.length = 32) (hKb : Byts K) (w : World) (hL : Hid (LaidS w)) : Calls Tryd.prog 6 #[.agg (tcell k g).toArray, .agg (tcell k h).toArray, .agg (K.map (Value.int .u8)).toArray] w fun e w' => e = .returned (.bool true) ∧ Below w.heap.size w w' := by
  obtain ⟨D, hD⟩ : ∃ D, tagL K k.msg = D := ⟨_, rfl⟩
  have hDl : D.length = 32 := by rw [← hD]; exact tagL_len _ _
  have SV := Lib.hid (size_tok k hg)
  have SU := Lib.hid (size_tok k hh)
  have SK := Lib.hid (size_dig hK)
  have A1 := fun (W : World) => bytes_is k (g := g) W
  have A2 := fun (W : World) => bytes_is k (g := h) W
  have A3 := fun (W : World) h => mint_is k hK hKb (Lib.hid hD) W h
  have SP := Lib.hid (size_tok k hDl)
  have LP := Lib.hid (len_tok Nums.zero k zd32 hDl)
  have OP := Lib.hid (tcell_one k D)
  have EM := fun (W : World) => eq_same (P := Tryd.prog) Tryd.underlying36 Tryd.underlying5 size_u8' k.msg k.msg_len W
  have ET := fun (W : World) => eq_tok_self k hDl W
  have n0 := beq_self_eq_true k.t
  have n1 := beq_self_eq_true k.u
  have n2 := beq_self_eq_true k.e
  have n3 := beq_self_eq_true k.x
  obtain ⟨M, hM⟩ : ∃ M, k.msg.map (Value.int .u8) = M := ⟨_, rfl⟩
  rw [hM] at A1 A2 EM
  obtain ⟨V, hV⟩ : ∃ V, tcell k g = V := ⟨_, rfl⟩
  have v0 : V[0]? = some (.int .u32 k.t) := by rw [← hV]; rfl
  have v1 : V[1]? = some (.int .u32 k.u) := by rw [← hV]; rfl
  have v2 : V[2]? = some (.int .u32 k.e) := by rw [← hV]; rfl
  have v3 : V[3]? = some (.int .u64 k.x) := by rw [← hV]; rfl
  obtain ⟨U, hU⟩ : ∃ V, tcell k h = V := ⟨_, rfl⟩
  have u0 : U[0]? = some (.int .u32 k.t) := by rw [← hU]; rfl
  have u1 : U[1]? = some (.int .u32 k.u) := by rw [← hU]; rfl
  have u2 : U[2]? = some (.int .u32 k.e) := by rw [← hU]; rfl
  have u3 : U[3]? = some (.int .u64 k.x) := by rw [← hU]; rfl
  obtain ⟨C, hC⟩ : ∃ C, K.map (Value.int .u8) = C := ⟨_, rfl⟩
  obtain ⟨P, hP⟩ : ∃ V, tcell k D = V := ⟨_, rfl⟩
  rw [hV] at A1 SV ⊢
  rw [hU] at A2 SU ⊢
  rw [hC] at A3 SK ⊢
  rw [hP] at A3 SP LP OP ET
  clear hM hV hU hC hP hD hDl hg hh hK hKb
  have hx : Box (((w.alloc (.cells V.toArray 27)).alloc (.cells U.toArray 27)).alloc (.cells C.toArray 23)) w.heap.size V := Box.alloc (Box.alloc (Box.newc rfl rfl) _) _
  have hv : Box (((w.alloc (.cells V.toArray 27)).alloc (.cells U.toArray 27)).alloc (.cells C.toArray 23)) (w.heap.size + 1) U := Box.alloc (Box.newc rfl (by simp)) _
  have ho : Box (((w.alloc (.cells V.toArray 27)).alloc (.cells U.toArray 27)).alloc (.cells C.toArray 23)) (w.heap.size + 2) C := Box.newc rfl (by simp)
  have hB : Below w.heap.size w (((w.alloc (.cells V.toArray 27)).alloc (.cells U.toArray 27)).alloc (.cells C.toArray 23)) := by go_grown
  go_enter Tryd.func6, Tryd.ntmps6
  have hB0 := hB
  have hs0 := hB0.size
  have x_T0 : Box (((w.alloc (.cells V.toArray 27)).alloc (.cells U.toArray 27)).alloc (.cells C.toArray 23)) (w.heap.size) (V) := hx
  have x_U0 : Box (((w.alloc (.cells V.toArray 27)).alloc (.cells U.toArray 27)).alloc (.cells C.toArray 23)) (w.heap.size + 1) (U) := hv
  have x_K0 : Box (((w.alloc (.cells V.toArray 27)).alloc (.cells U.toArray 27)).alloc (.cells C.toArray 23)) (w.heap.size + 2) (C) := ho
  clear hx hv ho hB
  have ct0 := (x_T0).c 0 _ v0
  have ct1 := (x_T0).c 1 _ v1
  have ct2 := (x_T0).c 2 _ v2
  have ct3 := (x_T0).c 3 _ v3
  have zt := (x_T0).lt
  have cu0 := (x_U0).c 0 _ u0
  have cu1 := (x_U0).c 1 _ u1
  have cu2 := (x_U0).c 2 _ u2
  have cu3 := (x_U0).c 3 _ u3
  have zu := (x_U0).lt
  go_upto_region 2 with fail
  clear ct0 ct1 ct2 ct3 zt cu0 cu1 cu2 cu3 zu
  refine wp_region_held_drew (S := fun W => Box W (w.heap.size) (V) ∧ Box W (w.heap.size + 1) (U) ∧ Box W (w.heap.size + 2) (C)) (by kernel_rfl) (And.intro (x_T0).drew (And.intro (x_U0).drew (x_K0).drew)) (fun _ => ?_)
  refine F_drew (F := fun W => wpAnyH _ _ _ _ _ _ _ _ W) ?_
  intro Wm0 hbm0
  have hxm0 := (And.intro (Box.below x_T0 hbm0) (And.intro (Box.below x_U0 hbm0) (Box.below x_K0 hbm0)))
  have hBm0 := below_thru hB0 hbm0
  clear x_T0 x_U0 x_K0 hB0 hs0 hbm0
  refine takeH 5 41 (v := ?vm5_1) rfl (by rfl) (by kernel_rfl) (by kernel_rfl) (by kernel_rfl) (fun _ _ _ h => h) (Or.inl ⟨by rfl, ?_⟩) (hxm0) ?_
  rotate_left
  · intro wq hSq
    go_simp
    exact rfl
  try simp only [Act.put, List.setIfInBounds_toArray, List.set_cons_zero, List.set_cons_succ]
  refine takeH 0 36 (v := .agg (V).toArray) rfl (by rfl) (by kernel_rfl) (by kernel_rfl) (by kernel_rfl) (fun _ _ _ h => h) (yieldsIf_load_mid (by rfl) _ _ rfl _ _ rfl (V) _ (fun wq hq => Box.range (hq.1)) Tryd.underlying27 rfl SV.out) (hxm0) ?_
  try simp only [Act.put, List.setIfInBounds_toArray, List.set_cons_zero, List.set_cons_succ]
  refine takeH 2 38 (v := .agg (U).toArray) rfl (by rfl) (by kernel_rfl) (by kernel_rfl) (by kernel_rfl) (fun _ _ _ h => h) (yieldsIf_load_mid (by rfl) _ _ rfl _ _ rfl (U) _ (fun wq hq => Box.range (hq.2.1)) Tryd.underlying27 rfl SU.out) (hxm0) ?_
  try simp only [Act.put, List.setIfInBounds_toArray, List.set_cons_zero, List.set_cons_succ]
  refine wpAnyH_ready (rs := [1]) (by kernel_rfl) (by simp) (AllReadyH.cons rfl (fun K hK => ?_) AllReadyH.nil)
  go_simp
  refine (A1 _).mono ?_
  rintro e Wm2 ⟨rfl, hbm2⟩
  have hxm2 := (And.intro (Box.below hxm0.1 hbm2) (And.intro (Box.below hxm0.2.1 hbm2) (Box.below hxm0.2.2 hbm2)))
  have hBm2 := below_thru hBm0 hbm2
  clear hxm0 hBm0
  clear hbm2
  refine hK.out _ _ hxm2 (fun _ => ?_); clear hK
  refine wpAnyH_ready (rs := [3]) (by kernel_rfl) (by simp) (AllReadyH.cons rfl (fun K hK => ?_) AllReadyH.nil)
  go_simp
  refine (A2 _).mono ?_
  rintro e Wm3 ⟨rfl, hbm3⟩
  have hxm3 := (And.intro (Box.below hxm2.1 hbm3) (And.intro (Box.below hxm2.2.1 hbm3) (Box.below hxm2.2.2 hbm3)))
  have hBm3 := below_thru hBm2 hbm3
  clear hxm2 hBm2
  clear hbm3
  refine hK.out _ _ hxm3 (fun _ => ?_); clear hK
  refine takeH 4 40 (v := ?vm4_4) rfl (by rfl) (by kernel_rfl) (by kernel_rfl) (by kernel_rfl) (fun _ _ _ h => h) (Or.inl ⟨by rfl, ?_⟩) (hxm3) ?_
  rotate_left
  · intro wq hSq
    go_simp
    exact rfl
  try simp only [Act.put, List.setIfInBounds_toArray, List.set_cons_zero, List.set_cons_succ]
  refine takeH 6 42 (v := ?vm6_5) rfl (by rfl) (by kernel_rfl) (by kernel_rfl) (by kernel_rfl) (fun _ _ _ h => h) (Or.inl ⟨by rfl, ?_⟩) (hxm3) ?_
  rotate_left
  · intro wq hSq
    go_simp
    exact rfl
  try simp only [Act.put, List.setIfInBounds_toArray, List.set_cons_zero, List.set_cons_succ]
  refine wpAnyH_done (by kernel_rfl) ?_ _
  have x_T1 : Box Wm3 (w.heap.size) (V) := hxm3.1
  have x_U1 : Box Wm3 (w.heap.size + 1) (U) := hxm3.2.1
  have x_K1 : Box Wm3 (w.heap.size + 2) (C) := hxm3.2.2
  have hB1 := hBm3
  have hs1 := hB1.size
  clear hxm3
  clear A1 A2
  go_upto_region 4 with fail
  have ct0 := (x_T1).c 0 _ v0
  have ct1 := (x_T1).c 1 _ v1
  have ct2 := (x_T1).c 2 _ v2
  have ct3 := (x_T1).c 3 _ v3
  have zt := (x_T1).lt
  go_wp2_with (refine wpList_load_boxw rfl _ _ rfl x_K1 rfl Tryd.underlying23 rfl SK.out ?_)
  refine (A3 _ (Lib.hid (hL.out.below hB1))).mono ?_
  rintro e w2 ⟨rfl, hb⟩
  clear ct0 ct1 ct2 ct3 zt
  have hB2 : Below w.heap.size w w2 := below_thru hB1 hb
  have hs2 := hB2.size
  have x_T2 : Box w2 (w.heap.size) (V) := Box.below x_T1 hb
  have x_U2 : Box w2 (w.heap.size + 1) (U) := Box.below x_U1 hb
  have x_K2 : Box w2 (w.heap.size + 2) (C) := Box.below x_K1 hb
  clear hB1 hs1 x_T1 x_U1 x_K1
  clear hb
  have d_P_T := (x_T2).lt
  have d_P_U := (x_U2).lt
  have d_P_K := (x_K2).lt
  have d_P_0 := hs2
  go_upto_region 5 with (refine wpList_store_box (cs := P) rfl _ _ _ rfl (Box.newc (l := zeroTk) rfl rfl) rfl rfl SP.out LP.out OP.out ?_; intro W2_0 hW2_0)
  have hN : Below w2.heap.size w2 W2_0 := (hW2_0.below _ _ (by omega) ((Below.refl _ w2).alloc (Nat.le_refl _) _))
  have x_P3 : Box W2_0 (w2.heap.size) (P) := hW2_0.box
  have hB3 : Below w.heap.size w W2_0 := below_thru hB2 hN
  have hs3 := hB3.size
  have x_T3 : Box W2_0 (w.heap.size) (V) := Box.below x_T2 hN
  have x_U3 : Box W2_0 (w.heap.size + 1) (U) := Box.below x_U2 hN
  have x_K3 : Box W2_0 (w.heap.size + 2) (C) := Box.below x_K2 hN
  clear hB2 hs2 x_T2 x_U2 x_K2
  clear hN hW2_0
  have cu0 := (x_U3).c 0 _ u0
  have cu1 := (x_U3).c 1 _ u1
  have cu2 := (x_U3).c 2 _ u2
  have cu3 := (x_U3).c 3 _ u3
  have zu := (x_U3).lt
  go_wp2_with (refine wpList_load_boxw rfl _ _ rfl x_K3 rfl Tryd.underlying23 rfl SK.out ?_)
  refine (A3 _ (Lib.hid (hL.out.below hB3))).mono ?_
  rintro e w4 ⟨rfl, hb⟩
  clear cu0 cu1 cu2 cu3 zu
  have hB4 : Below w.heap.size w w4 := below_thru hB3 hb
  have hs4 := hB4.size
  have x_T4 : Box w4 (w.heap.size) (V) := Box.below x_T3 hb
  have x_U4 : Box w4 (w.heap.size + 1) (U) := Box.below x_U3 hb
  have x_K4 : Box w4 (w.heap.size + 2) (C) := Box.below x_K3 hb
  have x_P4 : Box w4 (w2.heap.size) (P) := Box.below x_P3 hb
  clear hB3 hs3 x_T3 x_U3 x_K3 x_P3
  clear hb
  have d_Q_T := (x_T4).lt
  have d_Q_U := (x_U4).lt
  have d_Q_K := (x_K4).lt
  have d_Q_P := (x_P4).lt
  have d_Q_0 := hs4
  go_upto_region 6 with (refine wpList_store_box (cs := P) rfl _ _ _ rfl (Box.newc (l := zeroTk) rfl rfl) rfl rfl SP.out LP.out OP.out ?_; intro W4_0 hW4_0)
  have hN : Below w4.heap.size w4 W4_0 := (hW4_0.below _ _ (by omega) ((Below.refl _ w4).alloc (Nat.le_refl _) _))
  have x_Q5 : Box W4_0 (w4.heap.size) (P) := hW4_0.box
  have hB5 : Below w.heap.size w W4_0 := below_thru hB4 hN
  have hs5 := hB5.size
  have x_T5 : Box W4_0 (w.heap.size) (V) := Box.below x_T4 hN
  have x_U5 : Box W4_0 (w.heap.size + 1) (U) := Box.below x_U4 hN
  have x_K5 : Box W4_0 (w.heap.size + 2) (C) := Box.below x_K4 hN
  have x_P5 : Box W4_0 (w2.heap.size) (P) := Box.below x_P4 hN
  clear hB4 hs4 x_T4 x_U4 x_K4 x_P4
  clear hN hW4_0
  go_wp2_with (first
    | (refine wpList_load_boxw rfl _ _ rfl x_P5 rfl Tryd.underlying27 rfl SP.out ?_)
    | (refine wpList_load_boxw rfl _ _ rfl x_Q5 rfl Tryd.underlying27 rfl SP.out ?_))
  refine (alive8_is _ (Lib.hid (hL.out.below hB5))).mono ?_
  rintro e w6 ⟨rfl, hb⟩
  have hB6 : Below w.heap.size w w6 := below_thru hB5 hb
  have hs6 := hB6.size
  have x_T6 : Box w6 (w.heap.size) (V) := Box.below x_T5 hb
  have x_U6 : Box w6 (w.heap.size + 1) (U) := Box.below x_U5 hb
  have x_K6 : Box w6 (w.heap.size + 2) (C) := Box.below x_K5 hb
  have x_P6 : Box w6 (w2.heap.size) (P) := Box.below x_P5 hb
  have x_Q6 : Box w6 (w4.heap.size) (P) := Box.below x_Q5 hb
  clear hB5 hs5 x_T5 x_U5 x_K5 x_P5 x_Q5
  clear hb
  go_wp2_with fail
  go_returns
  exact ⟨rfl, hB6⟩


set_option maxRecDepth 100000 in
set_option maxHeartbeats 6400000 in
theorem other8_else (k l : Nums) {g h K : List Int} (hkl : k ≠ l) (hg : g.length = 32) (hh : h.length = 32) (hK : K.length = 32) (hKb : Byts K) (w : World) (hL : Hid (LaidS w)) : Calls Tryd.prog 6 #[.agg (tcell k g).toArray, .agg (tcell l h).toArray, .agg (K.map (Value.int .u8)).toArray] w fun e w' => e = .returned (.bool true) ∧ Below w.heap.size w w' := by
  obtain ⟨D, hD⟩ : ∃ D, tagL K k.msg = D := ⟨_, rfl⟩
  have hDl : D.length = 32 := by rw [← hD]; exact tagL_len _ _
  obtain ⟨F, hF⟩ : ∃ D, tagL K l.msg = D := ⟨_, rfl⟩
  have hFl : F.length = 32 := by rw [← hF]; exact tagL_len _ _
  have SV := Lib.hid (size_tok k hg)
  have SU := Lib.hid (size_tok l hh)
  have SK := Lib.hid (size_dig hK)
  have A1 := fun (W : World) => bytes_is k (g := g) W
  have A2 := fun (W : World) => bytes_is l (g := h) W
  have A3 := fun (W : World) h => mint_is k hK hKb (Lib.hid hD) W h
  have SP := Lib.hid (size_tok k hDl)
  have LP := Lib.hid (len_tok Nums.zero k zd32 hDl)
  have OP := Lib.hid (tcell_one k D)
  have A4 := fun (W : World) h => mint_is l hK hKb (Lib.hid hF) W h
  have SQ := Lib.hid (size_tok l hFl)
  have LQ := Lib.hid (len_tok Nums.zero l zd32 hFl)
  have OQ := Lib.hid (tcell_one l F)
  have EM := fun (W : World) => eq_ints (P := Tryd.prog) W 9998 Tryd.underlying36 Tryd.underlying5 size_u8' k.msg l.msg k.msg_len l.msg_len
  rw [show (9998 : Nat) + 2 = 10000 from rfl, decide_eq_false (fun q => hkl (Nums.msg_inj q))] at EM
  have hne : (k.t == l.t) = false ∨ ((k.t == l.t) = true ∧ (k.u == l.u) = false) ∨ ((k.t == l.t) = true ∧ (k.u == l.u) = true ∧ (k.e == l.e) = false) ∨ ((k.t == l.t) = true ∧ (k.u == l.u) = true ∧ (k.e == l.e) = true ∧ (k.x == l.x) = false) := by
    cases h0 : (k.t == l.t)
    · exact Or.inl rfl
    · cases h1 : (k.u == l.u)
      · exact Or.inr (Or.inl ⟨rfl, rfl⟩)
      · cases h2 : (k.e == l.e)
        · exact Or.inr (Or.inr (Or.inl ⟨rfl, rfl, rfl⟩))
        · cases h3 : (k.x == l.x)
          · exact Or.inr (Or.inr (Or.inr ⟨rfl, rfl, rfl, rfl⟩))
          · exact absurd (Nums.ext' (eq_of_beq h0) (eq_of_beq h1) (eq_of_beq h2) (eq_of_beq h3)) hkl
  have HNE := Lib.hid hne
  obtain ⟨M, hM⟩ : ∃ M, k.msg.map (Value.int .u8) = M := ⟨_, rfl⟩
  obtain ⟨N, hN⟩ : ∃ M, l.msg.map (Value.int .u8) = M := ⟨_, rfl⟩
  rw [hM] at A1 EM
  rw [hN] at A2 EM
  obtain ⟨V, hV⟩ : ∃ V, tcell k g = V := ⟨_, rfl⟩
  have v0 : V[0]? = some (.int .u32 k.t) := by rw [← hV]; rfl
  have v1 : V[1]? = some (.int .u32 k.u) := by rw [← hV]; rfl
  have v2 : V[2]? = some (.int .u32 k.e) := by rw [← hV]; rfl
  have v3 : V[3]? = some (.int .u64 k.x) := by rw [← hV]; rfl
  obtain ⟨U, hU⟩ : ∃ V, tcell l h = V := ⟨_, rfl⟩
  have u0 : U[0]? = some (.int .u32 l.t) := by rw [← hU]; rfl
  have u1 : U[1]? = some (.int .u32 l.u) := by rw [← hU]; rfl
  have u2 : U[2]? = some (.int .u32 l.e) := by rw [← hU]; rfl
  have u3 : U[3]? = some (.int .u64 l.x) := by rw [← hU]; rfl
  obtain ⟨C, hC⟩ : ∃ C, K.map (Value.int .u8) = C := ⟨_, rfl⟩
  obtain ⟨P, hP⟩ : ∃ V, tcell k D = V := ⟨_, rfl⟩
  obtain ⟨Q, hQ⟩ : ∃ V, tcell l F = V := ⟨_, rfl⟩
  rw [hV] at A1 SV ⊢
  rw [hU] at A2 SU ⊢
  rw [hC] at A3 A4 SK ⊢
  rw [hP] at A3 SP LP OP
  rw [hQ] at A4 SQ LQ OQ
  clear hM hN hV hU hC hP hQ hD hDl hF hFl hg hh hK hKb hne hkl
  have hx : Box (((w.alloc (.cells V.toArray 27)).alloc (.cells U.toArray 27)).alloc (.cells C.toArray 23)) w.heap.size V := Box.alloc (Box.alloc (Box.newc rfl rfl) _) _
  have hv : Box (((w.alloc (.cells V.toArray 27)).alloc (.cells U.toArray 27)).alloc (.cells C.toArray 23)) (w.heap.size + 1) U := Box.alloc (Box.newc rfl (by simp)) _
  have ho : Box (((w.alloc (.cells V.toArray 27)).alloc (.cells U.toArray 27)).alloc (.cells C.toArray 23)) (w.heap.size + 2) C := Box.newc rfl (by simp)
  have hB : Below w.heap.size w (((w.alloc (.cells V.toArray 27)).alloc (.cells U.toArray 27)).alloc (.cells C.toArray 23)) := by go_grown
  go_enter Tryd.func6, Tryd.ntmps6
  have hB0 := hB
  have hs0 := hB0.size
  have x_T0 : Box (((w.alloc (.cells V.toArray 27)).alloc (.cells U.toArray 27)).alloc (.cells C.toArray 23)) (w.heap.size) (V) := hx
  have x_U0 : Box (((w.alloc (.cells V.toArray 27)).alloc (.cells U.toArray 27)).alloc (.cells C.toArray 23)) (w.heap.size + 1) (U) := hv
  have x_K0 : Box (((w.alloc (.cells V.toArray 27)).alloc (.cells U.toArray 27)).alloc (.cells C.toArray 23)) (w.heap.size + 2) (C) := ho
  clear hx hv ho hB
  go_upto_region 1 with fail
  go_cut [7] (fun p wx => p = .bool false ∧ Box wx (w.heap.size) (V) ∧ Box wx (w.heap.size + 1) (U) ∧ Box wx (w.heap.size + 2) (C) ∧ Below w.heap.size w wx)
  case first =>
    have ct0 := (x_T0).c 0 _ v0
    have ct1 := (x_T0).c 1 _ v1
    have ct2 := (x_T0).c 2 _ v2
    have ct3 := (x_T0).c 3 _ v3
    have zt := (x_T0).lt
    have cu0 := (x_U0).c 0 _ u0
    have cu1 := (x_U0).c 1 _ u1
    have cu2 := (x_U0).c 2 _ u2
    have cu3 := (x_U0).c 3 _ u3
    have zu := (x_U0).lt
    rcases HNE.out with h0 | ⟨h0, h1⟩ | ⟨h0, h1, h2⟩ | ⟨h0, h1, h2, h3⟩
    · go_wp2_with fail
      go_meet
      exact ⟨rfl, x_T0, x_U0, x_K0, hB0⟩
    · go_wp2_with fail
      go_meet
      exact ⟨rfl, x_T0, x_U0, x_K0, hB0⟩
    · go_wp2_with fail
      go_meet
      exact ⟨rfl, x_T0, x_U0, x_K0, hB0⟩
    · go_wp2_with fail
      go_meet
      exact ⟨rfl, x_T0, x_U0, x_K0, hB0⟩
  case rest =>
    clear hB0 hs0 x_T0 x_U0 x_K0
    obtain ⟨rfl, y_T, y_U, y_K, y_B⟩ := hcut
    obtain ⟨W1, rfl⟩ : ∃ u : World, u = wc := ⟨_, rfl⟩
    have x_T1 : Box W1 (w.heap.size) (V) := y_T
    have x_U1 : Box W1 (w.heap.size + 1) (U) := y_U
    have x_K1 : Box W1 (w.heap.size + 2) (C) := y_K
    have hB1 : Below w.heap.size w W1 := y_B
    have hs1 := hB1.size
    clear y_B y_T y_U y_K
    go_upto_region 2 with fail
    refine wp_region_held_drew (S := fun W => Box W (w.heap.size) (V) ∧ Box W (w.heap.size + 1) (U) ∧ Box W (w.heap.size + 2) (C)) (by kernel_rfl) (And.intro (x_T1).drew (And.intro (x_U1).drew (x_K1).drew)) (fun _ => ?_)
    refine F_drew (F := fun W => wpAnyH _ _ _ _ _ _ _ _ W) ?_
    intro Wm0 hbm0
    have hxm0 := (And.intro (Box.below x_T1 hbm0) (And.intro (Box.below x_U1 hbm0) (Box.below x_K1 hbm0)))
    have hBm0 := below_thru hB1 hbm0
    clear x_T1 x_U1 x_K1 hB1 hs1 hbm0
    refine takeH 5 41 (v := ?vm5_1) rfl (by rfl) (by kernel_rfl) (by kernel_rfl) (by kernel_rfl) (fun _ _ _ h => h) (Or.inl ⟨by rfl, ?_⟩) (hxm0) ?_
    rotate_left
    · intro wq hSq
      go_simp
      exact rfl
    try simp only [Act.put, List.setIfInBounds_toArray, List.set_cons_zero, List.set_cons_succ]
    refine takeH 0 36 (v := .agg (V).toArray) rfl (by rfl) (by kernel_rfl) (by kernel_rfl) (by kernel_rfl) (fun _ _ _ h => h) (yieldsIf_load_mid (by rfl) _ _ rfl _ _ rfl (V) _ (fun wq hq => Box.range (hq.1)) Tryd.underlying27 rfl SV.out) (hxm0) ?_
    try simp only [Act.put, List.setIfInBounds_toArray, List.set_cons_zero, List.set_cons_succ]
    refine takeH 2 38 (v := .agg (U).toArray) rfl (by rfl) (by kernel_rfl) (by kernel_rfl) (by kernel_rfl) (fun _ _ _ h => h) (yieldsIf_load_mid (by rfl) _ _ rfl _ _ rfl (U) _ (fun wq hq => Box.range (hq.2.1)) Tryd.underlying27 rfl SU.out) (hxm0) ?_
    try simp only [Act.put, List.setIfInBounds_toArray, List.set_cons_zero, List.set_cons_succ]
    refine wpAnyH_ready (rs := [1]) (by kernel_rfl) (by simp) (AllReadyH.cons rfl (fun K hK => ?_) AllReadyH.nil)
    go_simp
    refine (A1 _).mono ?_
    rintro e Wm2 ⟨rfl, hbm2⟩
    have hxm2 := (And.intro (Box.below hxm0.1 hbm2) (And.intro (Box.below hxm0.2.1 hbm2) (Box.below hxm0.2.2 hbm2)))
    have hBm2 := below_thru hBm0 hbm2
    clear hxm0 hBm0
    clear hbm2
    refine hK.out _ _ hxm2 (fun _ => ?_); clear hK
    refine wpAnyH_ready (rs := [3]) (by kernel_rfl) (by simp) (AllReadyH.cons rfl (fun K hK => ?_) AllReadyH.nil)
    go_simp
    refine (A2 _).mono ?_
    rintro e Wm3 ⟨rfl, hbm3⟩
    have hxm3 := (And.intro (Box.below hxm2.1 hbm3) (And.intro (Box.below hxm2.2.1 hbm3) (Box.below hxm2.2.2 hbm3)))
    have hBm3 := below_thru hBm2 hbm3
    clear hxm2 hBm2
    clear hbm3
    refine hK.out _ _ hxm3 (fun _ => ?_); clear hK
    refine takeH 4 40 (v := ?vm4_4) rfl (by rfl) (by kernel_rfl) (by kernel_rfl) (by kernel_rfl) (fun _ _ _ h => h) (Or.inl ⟨by rfl, ?_⟩) (hxm3) ?_
    rotate_left
    · intro wq hSq
      go_simp
      exact rfl
    try simp only [Act.put, List.setIfInBounds_toArray, List.set_cons_zero, List.set_cons_succ]
    refine takeH 6 42 (v := ?vm6_5) rfl (by rfl) (by kernel_rfl) (by kernel_rfl) (by kernel_rfl) (fun _ _ _ h => h) (Or.inl ⟨by rfl, ?_⟩) (hxm3) ?_
    rotate_left
    · intro wq hSq
      go_simp
      exact rfl
    try simp only [Act.put, List.setIfInBounds_toArray, List.set_cons_zero, List.set_cons_succ]
    refine wpAnyH_done (by kernel_rfl) ?_ _
    have x_T2 : Box Wm3 (w.heap.size) (V) := hxm3.1
    have x_U2 : Box Wm3 (w.heap.size + 1) (U) := hxm3.2.1
    have x_K2 : Box Wm3 (w.heap.size + 2) (C) := hxm3.2.2
    have hB2 := hBm3
    have hs2 := hB2.size
    clear hxm3
    clear A1 A2
    go_upto_region 4 with fail
    have ct0 := (x_T2).c 0 _ v0
    have ct1 := (x_T2).c 1 _ v1
    have ct2 := (x_T2).c 2 _ v2
    have ct3 := (x_T2).c 3 _ v3
    have zt := (x_T2).lt
    go_wp2_with (refine wpList_load_boxw rfl _ _ rfl x_K2 rfl Tryd.underlying23 rfl SK.out ?_)
    refine (A3 _ (Lib.hid (hL.out.below hB2))).mono ?_
    rintro e w3 ⟨rfl, hb⟩
    clear ct0 ct1 ct2 ct3 zt
    have hB3 : Below w.heap.size w w3 := below_thru hB2 hb
    have hs3 := hB3.size
    have x_T3 : Box w3 (w.heap.size) (V) := Box.below x_T2 hb
    have x_U3 : Box w3 (w.heap.size + 1) (U) := Box.below x_U2 hb
    have x_K3 : Box w3 (w.heap.size + 2) (C) := Box.below x_K2 hb
    clear hB2 hs2 x_T2 x_U2 x_K2
    clear hb
    have d_P_T := (x_T3).lt
    have d_P_U := (x_U3).lt
    have d_P_K := (x_K3).lt
    have d_P_0 := hs3
    go_upto_region 5 with (refine wpList_store_box (cs := P) rfl _ _ _ rfl (Box.newc (l := zeroTk) rfl rfl) rfl rfl SP.out LP.out OP.out ?_; intro W3_0 hW3_0)
    have hN : Below w3.heap.size w3 W3_0 := (hW3_0.below _ _ (by omega) ((Below.refl _ w3).alloc (Nat.le_refl _) _))
    have x_P4 : Box W3_0 (w3.heap.size) (P) := hW3_0.box
    have hB4 : Below w.heap.size w W3_0 := below_thru hB3 hN
    have hs4 := hB4.size
    have x_T4 : Box W3_0 (w.heap.size) (V) := Box.below x_T3 hN
    have x_U4 : Box W3_0 (w.heap.size + 1) (U) := Box.below x_U3 hN
    have x_K4 : Box W3_0 (w.heap.size + 2) (C) := Box.below x_K3 hN
    clear hB3 hs3 x_T3 x_U3 x_K3
    clear hN hW3_0
    have cu0 := (x_U4).c 0 _ u0
    have cu1 := (x_U4).c 1 _ u1
    have cu2 := (x_U4).c 2 _ u2
    have cu3 := (x_U4).c 3 _ u3
    have zu := (x_U4).lt
    go_wp2_with (refine wpList_load_boxw rfl _ _ rfl x_K4 rfl Tryd.underlying23 rfl SK.out ?_)
    refine (A4 _ (Lib.hid (hL.out.below hB4))).mono ?_
    rintro e w5 ⟨rfl, hb⟩
    clear cu0 cu1 cu2 cu3 zu
    have hB5 : Below w.heap.size w w5 := below_thru hB4 hb
    have hs5 := hB5.size
    have x_T5 : Box w5 (w.heap.size) (V) := Box.below x_T4 hb
    have x_U5 : Box w5 (w.heap.size + 1) (U) := Box.below x_U4 hb
    have x_K5 : Box w5 (w.heap.size + 2) (C) := Box.below x_K4 hb
    have x_P5 : Box w5 (w3.heap.size) (P) := Box.below x_P4 hb
    clear hB4 hs4 x_T4 x_U4 x_K4 x_P4
    clear hb
    have d_Q_T := (x_T5).lt
    have d_Q_U := (x_U5).lt
    have d_Q_K := (x_K5).lt
    have d_Q_P := (x_P5).lt
    have d_Q_0 := hs5
    go_upto_region 6 with (refine wpList_store_box (cs := Q) rfl _ _ _ rfl (Box.newc (l := zeroTk) rfl rfl) rfl rfl SQ.out LQ.out OQ.out ?_; intro W5_0 hW5_0)
    have hN : Below w5.heap.size w5 W5_0 := (hW5_0.below _ _ (by omega) ((Below.refl _ w5).alloc (Nat.le_refl _) _))
    have x_Q6 : Box W5_0 (w5.heap.size) (Q) := hW5_0.box
    have hB6 : Below w.heap.size w W5_0 := below_thru hB5 hN
    have hs6 := hB6.size
    have x_T6 : Box W5_0 (w.heap.size) (V) := Box.below x_T5 hN
    have x_U6 : Box W5_0 (w.heap.size + 1) (U) := Box.below x_U5 hN
    have x_K6 : Box W5_0 (w.heap.size + 2) (C) := Box.below x_K5 hN
    have x_P6 : Box W5_0 (w3.heap.size) (P) := Box.below x_P5 hN
    clear hB5 hs5 x_T5 x_U5 x_K5 x_P5
    clear hN hW5_0
    go_wp2_with (first
      | (refine wpList_load_boxw rfl _ _ rfl x_P6 rfl Tryd.underlying27 rfl SP.out ?_)
      | (refine wpList_load_boxw rfl _ _ rfl x_Q6 rfl Tryd.underlying27 rfl SQ.out ?_))
    refine (alive8_is _ (Lib.hid (hL.out.below hB6))).mono ?_
    rintro e w7 ⟨rfl, hb⟩
    have hB7 : Below w.heap.size w w7 := below_thru hB6 hb
    have hs7 := hB7.size
    have x_T7 : Box w7 (w.heap.size) (V) := Box.below x_T6 hb
    have x_U7 : Box w7 (w.heap.size + 1) (U) := Box.below x_U6 hb
    have x_K7 : Box w7 (w.heap.size + 2) (C) := Box.below x_K6 hb
    have x_P7 : Box w7 (w3.heap.size) (P) := Box.below x_P6 hb
    have x_Q7 : Box w7 (w5.heap.size) (Q) := Box.below x_Q6 hb
    clear hB6 hs6 x_T6 x_U6 x_K6 x_P6 x_Q6
    clear hb
    go_wp2_with fail
    go_returns
    exact ⟨rfl, hB7⟩


theorem other8_is (k l : Nums) {g h K : List Int} (hg : g.length = 32) (hh : h.length = 32) (hK : K.length = 32) (hKb : Byts K) (w : World) (hL : Hid (LaidS w)) : Calls Tryd.prog 6 #[.agg (tcell k g).toArray, .agg (tcell l h).toArray, .agg (K.map (Value.int .u8)).toArray] w fun e w' => e = .returned (.bool true) ∧ Below w.heap.size w w' := by
  by_cases q : k = l
  · subst q
    exact other8_same k hg hh hK hKb w hL
  · exact other8_else k l q hg hh hK hKb w hL

end Go.Proofs.YtlbbedknldmcpaaDoor
