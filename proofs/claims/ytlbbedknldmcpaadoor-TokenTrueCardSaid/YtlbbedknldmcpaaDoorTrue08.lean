/-
  TokenTrue, walked.
-/
import Derived.Test.YtlbbedknldmcpaaDoorGT3
namespace Go.Proofs.YtlbbedknldmcpaaDoor
open Go.RowKit

theorem ver_bool {D g : List Int} {q : Int} {b : Bool} (hq : (if D = g then 0 else 22) = q) (hb : decide (g = D) = b) : (q == 0) = b := by
  subst hq hb
  by_cases h : D = g
  · rw [if_pos h, decide_eq_true h.symm]
    rfl
  · rw [if_neg h, decide_eq_false (fun q => h q.symm)]
    rfl

set_option maxRecDepth 100000 in
set_option maxHeartbeats 12800000 in
theorem true8_is (k : Nums) {g K Q : List Int} (hg : g.length = 32) (hK : K.length = 32) (hKb : Byts K) (hQ : Q.length = 32) (w : World) (hL : Hid (LaidS w)) : Calls Tryd.prog 5 #[.agg (K.map (Value.int .u8)).toArray, .agg (tcell k g).toArray, .agg (Q.map (Value.int .u8)).toArray] w fun e w' => e = .returned (.bool true) ∧ Below w.heap.size w w' := by
  obtain ⟨D, hD⟩ : ∃ D, tagL K k.msg = D := ⟨_, rfl⟩
  have hDl : D.length = 32 := by rw [← hD]; exact tagL_len _ _
  obtain ⟨q, hq⟩ : ∃ q, verN K k g = q := ⟨_, rfl⟩
  obtain ⟨q2, hq2⟩ : ∃ q, verN K k Q = q := ⟨_, rfl⟩
  obtain ⟨b, hb⟩ : ∃ b, decide (g = D) = b := ⟨_, rfl⟩
  obtain ⟨b2, hb2⟩ : ∃ b, decide (Q = D) = b := ⟨_, rfl⟩
  have qb := ver_bool (show (if D = g then 0 else 22) = q by rw [← hD]; exact hq) hb
  have qb2 := ver_bool (show (if D = Q then 0 else 22) = q2 by rw [← hD]; exact hq2) hb2
  have A1 := fun (W : World) h => mint_is k hK hKb (Lib.hid hD) W h
  have A2 := fun (W : World) => bytes_is k (g := g) W
  have A3 := fun (W : World) (v u : Value) (h1 : IsL W .u8 v K) (h2 : IsL W .u8 u k.msg) (h : Hid (LaidS W)) => tag_ok W (Lib.hid h1) (Lib.hid h2) (by rw [hK]; omega) (by rw [k.msg_len]; omega) (Lib.hid hKb.l) (Lib.hid k.msg_byts.l) (Lib.hid hD) h
  have A4 := fun (W : World) h => verify_is k (g := D) (q := 0) hDl hK hKb (Lib.hid (verN_t hD)) W h
  have A5 := fun (W : World) h => verify_is k hg hK hKb (Lib.hid hq) W h
  have A6 := fun (W : World) h => verify_is k hQ hK hKb (Lib.hid hq2) W h
  have ED := fun (W : World) => eq_same (P := Tryd.prog) Tryd.underlying23 Tryd.underlying5 size_u8' D hDl W
  have EG := fun (W : World) => eq_ints (P := Tryd.prog) W 9998 Tryd.underlying23 Tryd.underlying5 size_u8' g D hg hDl
  have EQ := fun (W : World) => eq_ints (P := Tryd.prog) W 9998 Tryd.underlying23 Tryd.underlying5 size_u8' Q D hQ hDl
  rw [show (9998 : Nat) + 2 = 10000 from rfl, hb] at EG
  rw [show (9998 : Nat) + 2 = 10000 from rfl, hb2] at EQ
  have SK := Lib.hid (size_dig hK)
  have SQ := Lib.hid (size_dig hQ)
  have SG := Lib.hid (size_dig hg)
  have SD := Lib.hid (size_dig hDl)
  have LD := Lib.hid (len_dig hDl)
  have SV := Lib.hid (size_tok k hg)
  have SU := Lib.hid (size_tok k hDl)
  have LU := Lib.hid (len_tok Nums.zero k zd32 hDl)
  have OU := Lib.hid (tcell_one k D)
  have SV2 := Lib.hid (size_tok k hQ)
  have HV := Lib.hid (tcell_drop k g)
  have HU := Lib.hid (tcell_drop k D)
  have P1 := Lib.hid (show 4 + (Q.map (Value.int .u8)).length ≤ (tcell k g).length by rw [List.length_map, hQ, tcell_len k hg]; omega)
  have P2 := Lib.hid (show tcell k Q = (tcell k g).take 4 ++ Q.map (Value.int .u8) ++ (tcell k g).drop (4 + (Q.map (Value.int .u8)).length) by
    rw [List.drop_eq_nil_of_le (by rw [tcell_len k hg, List.length_map, hQ]; omega), List.append_nil]
    rfl)
  have hml := k.msg_len
  have SM := Lib.hid (size_msg hml)
  have LM := Lib.hid (len_msg hml)
  have OM := Lib.hid (oneCell_ints (k := .u8) k.msg)
  have OD := Lib.hid (oneCell_ints (k := .u8) D)
  have OQ := Lib.hid (oneCell_ints (k := .u8) Q)
  have HK := Lib.hid hK
  have HM := Lib.hid hml
  have LK := Lib.hid (fun (W : World) (b : Nat) (h : Box W b (K.map (Value.int .u8))) => IsL.boxed 32 hK h (by omega))
  have LMM := Lib.hid (fun (W : World) (b : Nat) (h : Box W b (k.msg.map (Value.int .u8))) => IsL.boxed 20 hml h (by omega))
  obtain ⟨V, hV⟩ : ∃ V, tcell k g = V := ⟨_, rfl⟩
  have v0 : V[0]? = some (.int .u32 k.t) := by rw [← hV]; rfl
  have v1 : V[1]? = some (.int .u32 k.u) := by rw [← hV]; rfl
  have v2 : V[2]? = some (.int .u32 k.e) := by rw [← hV]; rfl
  have v3 : V[3]? = some (.int .u64 k.x) := by rw [← hV]; rfl
  obtain ⟨U, hU⟩ : ∃ V, tcell k D = V := ⟨_, rfl⟩
  have u0 : U[0]? = some (.int .u32 k.t) := by rw [← hU]; rfl
  have u1 : U[1]? = some (.int .u32 k.u) := by rw [← hU]; rfl
  have u2 : U[2]? = some (.int .u32 k.e) := by rw [← hU]; rfl
  have u3 : U[3]? = some (.int .u64 k.x) := by rw [← hU]; rfl
  obtain ⟨V2, hV2⟩ : ∃ V, tcell k Q = V := ⟨_, rfl⟩
  obtain ⟨C, hC⟩ : ∃ C, K.map (Value.int .u8) = C := ⟨_, rfl⟩
  obtain ⟨O, hO⟩ : ∃ C, Q.map (Value.int .u8) = C := ⟨_, rfl⟩
  obtain ⟨G, hG⟩ : ∃ C, g.map (Value.int .u8) = C := ⟨_, rfl⟩
  obtain ⟨E, hE⟩ : ∃ C, D.map (Value.int .u8) = C := ⟨_, rfl⟩
  obtain ⟨M, hM⟩ : ∃ C, k.msg.map (Value.int .u8) = C := ⟨_, rfl⟩
  have A3 : ∀ (W : World) (v u : Value), IsL W .u8 v K → IsL W .u8 u k.msg → Hid (LaidS W) → Calls Tryd.prog 21 #[v, u] W fun e w' => e = .returned (.tuple #[.agg E.toArray, .int .i64 0]) ∧ Below W.heap.size W w' := by rw [← hE]; exact A3
  rw [hV] at A2 A5 SV HV P1 P2 ⊢
  rw [hU] at A1 A4 SU LU OU HU
  rw [hV2] at A6 SV2 P2
  rw [hC] at A1 A4 A5 A6 SK LK ⊢
  rw [hO] at EQ SQ P1 P2 OQ ⊢
  rw [hG] at EG SG HV
  rw [hE] at ED EG EQ SD LD OD HU
  rw [hM] at A2 SM LM OM LMM
  have n0 := bne_self_eq_false k.t
  have n1 := bne_self_eq_false k.u
  have n2 := bne_self_eq_false k.e
  have n3 := bne_self_eq_false k.x
  have nb : (b != b) = false := by cases b <;> rfl
  have eb2 : (b2 == b2) = true := by cases b2 <;> rfl
  clear hV hU hV2 hC hO hG hE hM hD hDl hq hq2 hb hb2 hg hK hKb hQ hml
  have hx : Box (((w.alloc (.cells C.toArray 23)).alloc (.cells V.toArray 27)).alloc (.cells O.toArray 23)) w.heap.size C := Box.alloc (Box.alloc (Box.newc rfl rfl) _) _
  have hv : Box (((w.alloc (.cells C.toArray 23)).alloc (.cells V.toArray 27)).alloc (.cells O.toArray 23)) (w.heap.size + 1) V := Box.alloc (Box.newc rfl (by simp)) _
  have ho : Box (((w.alloc (.cells C.toArray 23)).alloc (.cells V.toArray 27)).alloc (.cells O.toArray 23)) (w.heap.size + 2) O := Box.newc rfl (by simp)
  have hB : Below w.heap.size w (((w.alloc (.cells C.toArray 23)).alloc (.cells V.toArray 27)).alloc (.cells O.toArray 23)) := by go_grown
  go_enter Tryd.func5, Tryd.ntmps5
  have hB0 := hB
  have hs0 := hB0.size
  have x_K0 : Box (((w.alloc (.cells C.toArray 23)).alloc (.cells V.toArray 27)).alloc (.cells O.toArray 23)) (w.heap.size) (C) := hx
  have x_T0 : Box (((w.alloc (.cells C.toArray 23)).alloc (.cells V.toArray 27)).alloc (.cells O.toArray 23)) (w.heap.size + 1) (V) := hv
  have x_O0 : Box (((w.alloc (.cells C.toArray 23)).alloc (.cells V.toArray 27)).alloc (.cells O.toArray 23)) (w.heap.size + 2) (O) := ho
  clear hx hv ho hB
  have ct0 := (x_T0).c 0 _ v0
  have ct1 := (x_T0).c 1 _ v1
  have ct2 := (x_T0).c 2 _ v2
  have ct3 := (x_T0).c 3 _ v3
  have zt := (x_T0).lt
  go_wp2_with (refine wpList_load_boxw rfl _ _ rfl x_K0 rfl Tryd.underlying23 rfl SK.out ?_)
  refine (A1 _ (Lib.hid (hL.out.below hB0))).mono ?_
  rintro e w1 ⟨rfl, hb⟩
  clear A1 ct0 ct1 ct2 ct3 zt
  have hB1 : Below w.heap.size w w1 := below_thru hB0 hb
  have hs1 := hB1.size
  have x_K1 : Box w1 (w.heap.size) (C) := Box.below x_K0 hb
  have x_T1 : Box w1 (w.heap.size + 1) (V) := Box.below x_T0 hb
  have x_O1 : Box w1 (w.heap.size + 2) (O) := Box.below x_O0 hb
  clear hB0 hs0 x_K0 x_T0 x_O0
  clear hb
  have d_U_K := (x_K1).lt
  have d_U_T := (x_T1).lt
  have d_U_O := (x_O1).lt
  have d_U_0 := hs1
  go_upto_region 2 with (refine wpList_store_box (cs := U) rfl _ _ _ rfl (Box.newc (l := zeroTk) rfl rfl) rfl rfl SU.out LU.out OU.out ?_; intro W1_0 hW1_0)
  have hN : Below w1.heap.size w1 W1_0 := (hW1_0.below _ _ (by omega) ((Below.refl _ w1).alloc (Nat.le_refl _) _))
  have x_U2 : Box W1_0 (w1.heap.size) (U) := hW1_0.box
  have hB2 : Below w.heap.size w W1_0 := below_thru hB1 hN
  have hs2 := hB2.size
  have x_K2 : Box W1_0 (w.heap.size) (C) := Box.below x_K1 hN
  have x_T2 : Box W1_0 (w.heap.size + 1) (V) := Box.below x_T1 hN
  have x_O2 : Box W1_0 (w.heap.size + 2) (O) := Box.below x_O1 hN
  clear hB1 hs1 x_K1 x_T1 x_O1
  clear hN hW1_0
  go_wp2_with (refine wpList_load_boxw rfl _ _ rfl x_T2 rfl Tryd.underlying27 rfl SV.out ?_)
  refine (A2 _).mono ?_
  rintro e w3 ⟨rfl, hb⟩
  clear A2
  have hB3 : Below w.heap.size w w3 := below_thru hB2 hb
  have hs3 := hB3.size
  have x_K3 : Box w3 (w.heap.size) (C) := Box.below x_K2 hb
  have x_T3 : Box w3 (w.heap.size + 1) (V) := Box.below x_T2 hb
  have x_O3 : Box w3 (w.heap.size + 2) (O) := Box.below x_O2 hb
  have x_U3 : Box w3 (w1.heap.size) (U) := Box.below x_U2 hb
  clear hB2 hs2 x_K2 x_T2 x_O2 x_U2
  clear hb
  have d_M_K := (x_K3).lt
  have d_M_T := (x_T3).lt
  have d_M_O := (x_O3).lt
  have d_M_U := (x_U3).lt
  have d_M_0 := hs3
  go_upto_region 3 with (refine wpList_store_box (cs := M) rfl _ _ _ rfl (Box.newc (l := zero20) rfl rfl) rfl rfl SM.out LM.out OM.out ?_; intro W3_0 hW3_0)
  have hN : Below w3.heap.size w3 W3_0 := (hW3_0.below _ _ (by omega) ((Below.refl _ w3).alloc (Nat.le_refl _) _))
  have x_M4 : Box W3_0 (w3.heap.size) (M) := hW3_0.box
  have hB4 : Below w.heap.size w W3_0 := below_thru hB3 hN
  have hs4 := hB4.size
  have x_K4 : Box W3_0 (w.heap.size) (C) := Box.below x_K3 hN
  have x_T4 : Box W3_0 (w.heap.size + 1) (V) := Box.below x_T3 hN
  have x_O4 : Box W3_0 (w.heap.size + 2) (O) := Box.below x_O3 hN
  have x_U4 : Box W3_0 (w1.heap.size) (U) := Box.below x_U3 hN
  clear hB3 hs3 x_K3 x_T3 x_O3 x_U3
  clear hN hW3_0
  have z_M := (x_M4).lt
  simp only [Act.put]
  go_cut [9, 10] (fun p q wx => ∃ bS : Nat, p = .pointer (some ⟨bS, 0, none⟩) ∧ q = .int .i64 0 ∧ w.heap.size < bS ∧ w.heap.size + 1 < bS ∧ w.heap.size + 2 < bS ∧ w1.heap.size < bS ∧ w3.heap.size < bS ∧ Box wx bS E ∧ Box wx (w.heap.size) (C) ∧ Box wx (w.heap.size + 1) (V) ∧ Box wx (w.heap.size + 2) (O) ∧ Box wx (w1.heap.size) (U) ∧ Box wx (w3.heap.size) (M) ∧ Below w.heap.size w wx)
  case first =>
    refine wp_region_held_drew (S := fun W => Box W (w.heap.size) (C) ∧ Box W (w.heap.size + 1) (V) ∧ Box W (w.heap.size + 2) (O) ∧ Box W (w1.heap.size) (U) ∧ Box W (w3.heap.size) (M)) (by kernel_rfl) (And.intro (x_K4).drew (And.intro (x_T4).drew (And.intro (x_O4).drew (And.intro (x_U4).drew (x_M4).drew)))) (fun _ => ?_)
    refine F_drew (F := fun W => wpAnyH _ _ _ _ _ _ _ _ W) ?_
    intro Ws0 hbs0
    have hxs0 := (And.intro (Box.below x_K4 hbs0) (And.intro (Box.below x_T4 hbs0) (And.intro (Box.below x_O4 hbs0) (And.intro (Box.below x_U4 hbs0) (Box.below x_M4 hbs0)))))
    have hBs0 := below_thru hB4 hbs0
    clear x_K4 x_T4 x_O4 x_U4 x_M4 hB4 hs4 hbs0
    refine takeH 0 24 (v := ?vs0_1) rfl (by rfl) (by kernel_rfl) (by kernel_rfl) (by kernel_rfl) (fun _ _ _ h => h) (Or.inl ⟨by rfl, ?_⟩) (hxs0) ?_
    rotate_left
    · intro wq hSq
      go_simp
      exact rfl
    try simp only [Act.put, List.setIfInBounds_toArray, List.set_cons_zero, List.set_cons_succ]
    refine takeH 1 25 (v := ?vs1_2) rfl (by rfl) (by kernel_rfl) (by kernel_rfl) (by kernel_rfl) (fun _ _ _ h => h) (Or.inl ⟨by rfl, ?_⟩) (hxs0) ?_
    rotate_left
    · intro wq hSq
      go_simp
      exact rfl
    try simp only [Act.put, List.setIfInBounds_toArray, List.set_cons_zero, List.set_cons_succ]
    refine wpAnyH_ready (rs := [2, 6]) (by kernel_rfl) (by simp) (AllReadyH.cons rfl (fun K hK => ?_) (AllReadyH.cons rfl (fun K hK => ?_) AllReadyH.nil))
    · skip
      go_simp
      refine (A3 _ _ _ (LK.out _ _ (hxs0.1)) (LMM.out _ _ (hxs0.2.2.2.2)) (Lib.hid (hL.out.below hBs0))).mono ?_
      rintro e Ws3 ⟨rfl, hbs3⟩
      have hxs3 := (And.intro (Box.below hxs0.1 hbs3) (And.intro (Box.below hxs0.2.1 hbs3) (And.intro (Box.below hxs0.2.2.1 hbs3) (And.intro (Box.below hxs0.2.2.2.1 hbs3) (Box.below hxs0.2.2.2.2 hbs3)))))
      have hBs3 := below_thru hBs0 hbs3
      clear hxs0 hBs0
      clear hbs3
      refine hK.out _ _ hxs3 (fun _ => ?_); clear hK
      refine takeH 3 23 (v := ?vs3_4) rfl (by rfl) (by kernel_rfl) (by kernel_rfl) (by kernel_rfl) (fun _ _ _ h => h) (Or.inl ⟨by rfl, ?_⟩) (hxs3) ?_
      rotate_left
      · intro wq hSq
        go_simp
        exact rfl
      try simp only [Act.put, List.setIfInBounds_toArray, List.set_cons_zero, List.set_cons_succ]
      refine takeH 4 27 (v := ?vs4_5) rfl (by rfl) (by kernel_rfl) (by kernel_rfl) (by kernel_rfl) (fun _ _ _ h => h) (Or.inl ⟨by rfl, ?_⟩) (hxs3) ?_
      rotate_left
      · intro wq hSq
        go_simp
        exact rfl
      try simp only [Act.put, List.setIfInBounds_toArray, List.set_cons_zero, List.set_cons_succ]
      refine takeH 5 28 (v := ?vs5_6) rfl (by rfl) (by kernel_rfl) (by kernel_rfl) (by kernel_rfl) (fun _ _ _ h => h) (Or.inl ⟨by rfl, ?_⟩) (hxs3) ?_
      rotate_left
      · intro wq hSq
        go_simp
        exact rfl
      try simp only [Act.put, List.setIfInBounds_toArray, List.set_cons_zero, List.set_cons_succ]
      refine wpAnyH_ready (rs := [6]) (by kernel_rfl) (by simp) (AllReadyH.cons rfl (fun K hK => ?_) AllReadyH.nil)
      go_simp
      refine hK.out _ _ (And.intro (Box.alloc (hxs3.1) _) (And.intro (Box.alloc (hxs3.2.1) _) (And.intro (Box.alloc (hxs3.2.2.1) _) (And.intro (Box.alloc (hxs3.2.2.2.1) _) (Box.alloc (hxs3.2.2.2.2) _))))) (fun _ => ?_); clear hK
      have zz_K := Box.lt (hxs3.1)
      have zz_T := Box.lt (hxs3.2.1)
      have zz_O := Box.lt (hxs3.2.2.1)
      have zz_U := Box.lt (hxs3.2.2.2.1)
      have zz_M := Box.lt (hxs3.2.2.2.2)
      have zb := Below.size hBs3
      refine F_alloc (F := fun W => wpAnyH _ _ _ _ _ _ _ _ W) zero32 rfl ?_
      intro Ws7 hS7 hbs7
      have hxs7 := (And.intro (Box.below hxs3.1 hbs7) (And.intro (Box.below hxs3.2.1 hbs7) (And.intro (Box.below hxs3.2.2.1 hbs7) (And.intro (Box.below hxs3.2.2.2.1 hbs7) (Box.below hxs3.2.2.2.2 hbs7)))))
      have hBs7 := below_thru hBs3 hbs7
      clear hxs3 hBs3
      clear hbs7
      obtain ⟨bS, hbS⟩ : ∃ b, Ws3.heap.size = b := ⟨_, rfl⟩
      rw [hbS] at hS7 zb zz_K zz_T zz_O zz_U zz_M ⊢
      clear hbS
      refine wpAnyH_ready (rs := [7]) (by kernel_rfl) (by simp) (AllReadyH.cons rfl (fun K hK => ?_) AllReadyH.nil)
      refine step_store_box0 rfl rfl _ _ _ rfl hS7 rfl rfl SD.out LD.out OD.out (fun Ws8 hW => ?_)
      have hxs8 := (And.intro (hW.past _ _ (by omega) (hxs7.1)) (And.intro (hW.past _ _ (by omega) (hxs7.2.1)) (And.intro (hW.past _ _ (by omega) (hxs7.2.2.1)) (And.intro (hW.past _ _ (by omega) (hxs7.2.2.2.1)) (hW.past _ _ (by omega) (hxs7.2.2.2.2))))))
      have hBs8 := hW.below _ _ (by omega) hBs7
      have hS8 := hW.box
      refine hK.out _ _ hxs8 (fun _ => ?_); clear hK
      refine takeH 8 10 (v := ?vs8_9) rfl (by rfl) (by kernel_rfl) (by kernel_rfl) (by kernel_rfl) (fun _ _ _ h => h) (Or.inl ⟨by rfl, ?_⟩) (hxs8) ?_
      rotate_left
      · intro wq hSq
        go_simp
        exact rfl
      try simp only [Act.put, List.setIfInBounds_toArray, List.set_cons_zero, List.set_cons_succ]
      refine wpAnyH_done (by kernel_rfl) ?_ _
      go_wp2_with fail
      go_meet
      exact ⟨bS, rfl, rfl, zz_K, zz_T, zz_O, zz_U, zz_M, hS8, hxs8.1, hxs8.2.1, hxs8.2.2.1, hxs8.2.2.2.1, hxs8.2.2.2.2, hBs8⟩
    · skip
      go_simp
      refine hK.out _ _ (And.intro (Box.alloc (hxs0.1) _) (And.intro (Box.alloc (hxs0.2.1) _) (And.intro (Box.alloc (hxs0.2.2.1) _) (And.intro (Box.alloc (hxs0.2.2.2.1) _) (Box.alloc (hxs0.2.2.2.2) _))))) (fun _ => ?_); clear hK
      have zz_K := Box.lt (hxs0.1)
      have zz_T := Box.lt (hxs0.2.1)
      have zz_O := Box.lt (hxs0.2.2.1)
      have zz_U := Box.lt (hxs0.2.2.2.1)
      have zz_M := Box.lt (hxs0.2.2.2.2)
      have zb := Below.size hBs0
      refine F_alloc (F := fun W => wpAnyH _ _ _ _ _ _ _ _ W) zero32 rfl ?_
      intro Ws10 hS10 hbs10
      have hxs10 := (And.intro (Box.below hxs0.1 hbs10) (And.intro (Box.below hxs0.2.1 hbs10) (And.intro (Box.below hxs0.2.2.1 hbs10) (And.intro (Box.below hxs0.2.2.2.1 hbs10) (Box.below hxs0.2.2.2.2 hbs10)))))
      have hBs10 := below_thru hBs0 hbs10
      clear hxs0 hBs0
      clear hbs10
      obtain ⟨bS, hbS⟩ : ∃ b, Ws0.heap.size = b := ⟨_, rfl⟩
      rw [hbS] at hS10 zb zz_K zz_T zz_O zz_U zz_M ⊢
      clear hbS
      refine wpAnyH_ready (rs := [2]) (by kernel_rfl) (by simp) (AllReadyH.cons rfl (fun K hK => ?_) AllReadyH.nil)
      go_simp
      refine (A3 _ _ _ (LK.out _ _ (hxs10.1)) (LMM.out _ _ (hxs10.2.2.2.2)) (Lib.hid (hL.out.below hBs10))).mono ?_
      rintro e Ws11 ⟨rfl, hbs11⟩
      have hS11 := Box.below hS10 hbs11
      have hxs11 := (And.intro (Box.below hxs10.1 hbs11) (And.intro (Box.below hxs10.2.1 hbs11) (And.intro (Box.below hxs10.2.2.1 hbs11) (And.intro (Box.below hxs10.2.2.2.1 hbs11) (Box.below hxs10.2.2.2.2 hbs11)))))
      have hBs11 := below_thru hBs10 hbs11
      clear hxs10 hBs10
      clear hbs11
      refine hK.out _ _ hxs11 (fun _ => ?_); clear hK
      refine takeH 3 23 (v := ?vs3_12) rfl (by rfl) (by kernel_rfl) (by kernel_rfl) (by kernel_rfl) (fun _ _ _ h => h) (Or.inl ⟨by rfl, ?_⟩) (hxs11) ?_
      rotate_left
      · intro wq hSq
        go_simp
        exact rfl
      try simp only [Act.put, List.setIfInBounds_toArray, List.set_cons_zero, List.set_cons_succ]
      refine takeH 4 27 (v := ?vs4_13) rfl (by rfl) (by kernel_rfl) (by kernel_rfl) (by kernel_rfl) (fun _ _ _ h => h) (Or.inl ⟨by rfl, ?_⟩) (hxs11) ?_
      rotate_left
      · intro wq hSq
        go_simp
        exact rfl
      try simp only [Act.put, List.setIfInBounds_toArray, List.set_cons_zero, List.set_cons_succ]
      refine takeH 5 28 (v := ?vs5_14) rfl (by rfl) (by kernel_rfl) (by kernel_rfl) (by kernel_rfl) (fun _ _ _ h => h) (Or.inl ⟨by rfl, ?_⟩) (hxs11) ?_
      rotate_left
      · intro wq hSq
        go_simp
        exact rfl
      try simp only [Act.put, List.setIfInBounds_toArray, List.set_cons_zero, List.set_cons_succ]
      refine wpAnyH_ready (rs := [7]) (by kernel_rfl) (by simp) (AllReadyH.cons rfl (fun K hK => ?_) AllReadyH.nil)
      refine step_store_box0 rfl rfl _ _ _ rfl hS11 rfl rfl SD.out LD.out OD.out (fun Ws15 hW => ?_)
      have hxs15 := (And.intro (hW.past _ _ (by omega) (hxs11.1)) (And.intro (hW.past _ _ (by omega) (hxs11.2.1)) (And.intro (hW.past _ _ (by omega) (hxs11.2.2.1)) (And.intro (hW.past _ _ (by omega) (hxs11.2.2.2.1)) (hW.past _ _ (by omega) (hxs11.2.2.2.2))))))
      have hBs15 := hW.below _ _ (by omega) hBs11
      have hS15 := hW.box
      refine hK.out _ _ hxs15 (fun _ => ?_); clear hK
      refine takeH 8 10 (v := ?vs8_16) rfl (by rfl) (by kernel_rfl) (by kernel_rfl) (by kernel_rfl) (fun _ _ _ h => h) (Or.inl ⟨by rfl, ?_⟩) (hxs15) ?_
      rotate_left
      · intro wq hSq
        go_simp
        exact rfl
      try simp only [Act.put, List.setIfInBounds_toArray, List.set_cons_zero, List.set_cons_succ]
      refine wpAnyH_done (by kernel_rfl) ?_ _
      go_wp2_with fail
      go_meet
      exact ⟨bS, rfl, rfl, zz_K, zz_T, zz_O, zz_U, zz_M, hS15, hxs15.1, hxs15.2.1, hxs15.2.2.1, hxs15.2.2.2.1, hxs15.2.2.2.2, hBs15⟩
  case rest =>
    clear x_K4 x_T4 x_O4 x_U4 x_M4
    obtain ⟨bS, rfl, rfl, zz_K, zz_T, zz_O, zz_U, zz_M, y_S, y_K, y_T, y_O, y_U, y_M, y_B⟩ := hcut
    obtain ⟨W3, rfl⟩ : ∃ u : World, u = wc := ⟨_, rfl⟩
    have x_K5 : Box W3 (w.heap.size) (C) := y_K
    have x_T5 : Box W3 (w.heap.size + 1) (V) := y_T
    have x_O5 : Box W3 (w.heap.size + 2) (O) := y_O
    have x_U5 : Box W3 (w1.heap.size) (U) := y_U
    have x_M5 : Box W3 (w3.heap.size) (M) := y_M
    have x_S5 : Box W3 bS E := y_S
    have hB5 : Below w.heap.size w W3 := y_B
    have hs5 := hB5.size
    clear y_S y_B y_K y_T y_O y_U y_M
    clear x_M5
    have ct0 := (x_T5).c 0 _ v0
    have ct1 := (x_T5).c 1 _ v1
    have ct2 := (x_T5).c 2 _ v2
    have ct3 := (x_T5).c 3 _ v3
    have zt := (x_T5).lt
    have cu0 := (x_U5).c 0 _ u0
    have cu1 := (x_U5).c 1 _ u1
    have cu2 := (x_U5).c 2 _ u2
    have cu3 := (x_U5).c 3 _ u3
    have zu := (x_U5).lt
    go_wp2_with (first
      | (refine wpList_load_boxw rfl _ _ rfl x_K5 rfl Tryd.underlying23 rfl SK.out ?_)
      | (refine wpList_load_boxw rfl _ _ rfl x_U5 rfl Tryd.underlying27 rfl SU.out ?_)
      | (refine wpList_load_boxw rfl _ _ rfl x_S5 rfl Tryd.underlying23 rfl SD.out ?_)
      | (refine wpList_load_rangew rfl _ _ rfl (Box.rangeFrom x_U5 4 (E) HU.out) rfl Tryd.underlying23 rfl SD.out ?_))
    refine (A4 _ (Lib.hid (hL.out.below hB5))).mono ?_
    rintro e w6 ⟨rfl, hb⟩
    clear A4 ct0 ct1 ct2 ct3 zt cu0 cu1 cu2 cu3 zu
    have hB6 : Below w.heap.size w w6 := below_thru hB5 hb
    have hs6 := hB6.size
    have x_K6 : Box w6 (w.heap.size) (C) := Box.below x_K5 hb
    have x_T6 : Box w6 (w.heap.size + 1) (V) := Box.below x_T5 hb
    have x_O6 : Box w6 (w.heap.size + 2) (O) := Box.below x_O5 hb
    have x_U6 : Box w6 (w1.heap.size) (U) := Box.below x_U5 hb
    have x_S6 : Box w6 (bS) (E) := Box.below x_S5 hb
    clear hB5 hs5 x_K5 x_T5 x_O5 x_U5 x_S5
    clear hb
    clear x_S6
    go_upto_region 6 with fail
    refine wp_region_held_drew (S := fun W => Box W (w.heap.size) (C) ∧ Box W (w.heap.size + 1) (V) ∧ Box W (w.heap.size + 2) (O) ∧ Box W (w1.heap.size) (U)) (by kernel_rfl) (And.intro (x_K6).drew (And.intro (x_T6).drew (And.intro (x_O6).drew (x_U6).drew))) (fun _ => ?_)
    refine F_drew (F := fun W => wpAnyH _ _ _ _ _ _ _ _ W) ?_
    intro Wm0 hbm0
    have hxm0 := (And.intro (Box.below x_K6 hbm0) (And.intro (Box.below x_T6 hbm0) (And.intro (Box.below x_O6 hbm0) (Box.below x_U6 hbm0))))
    have hBm0 := below_thru hB6 hbm0
    clear x_K6 x_T6 x_O6 x_U6 hB6 hs6 hbm0
    refine takeH 4 75 (v := ?vm4_1) rfl (by rfl) (by kernel_rfl) (by kernel_rfl) (by kernel_rfl) (fun _ _ _ h => h) (Or.inl ⟨by rfl, ?_⟩) (hxm0) ?_
    rotate_left
    · intro wq hSq
      go_simp
      exact rfl
    try simp only [Act.put, List.setIfInBounds_toArray, List.set_cons_zero, List.set_cons_succ]
    refine takeH 6 77 (v := ?vm6_2) rfl (by rfl) (by kernel_rfl) (by kernel_rfl) (by kernel_rfl) (fun _ _ _ h => h) (Or.inl ⟨by rfl, ?_⟩) (hxm0) ?_
    rotate_left
    · intro wq hSq
      go_simp
      exact rfl
    try simp only [Act.put, List.setIfInBounds_toArray, List.set_cons_zero, List.set_cons_succ]
    refine takeH 0 71 (v := .agg (C).toArray) rfl (by rfl) (by kernel_rfl) (by kernel_rfl) (by kernel_rfl) (fun _ _ _ h => h) (yieldsIf_load_mid (by rfl) _ _ rfl _ _ rfl (C) _ (fun wq hq => Box.range (hq.1)) Tryd.underlying23 rfl SK.out) (hxm0) ?_
    try simp only [Act.put, List.setIfInBounds_toArray, List.set_cons_zero, List.set_cons_succ]
    refine takeH 1 72 (v := .agg (V).toArray) rfl (by rfl) (by kernel_rfl) (by kernel_rfl) (by kernel_rfl) (fun _ _ _ h => h) (yieldsIf_load_mid (by rfl) _ _ rfl _ _ rfl (V) _ (fun wq hq => Box.range (hq.2.1)) Tryd.underlying27 rfl SV.out) (hxm0) ?_
    try simp only [Act.put, List.setIfInBounds_toArray, List.set_cons_zero, List.set_cons_succ]
    refine takeH 5 76 (v := .agg (G).toArray) rfl (by rfl) (by kernel_rfl) (by kernel_rfl) (by kernel_rfl) (fun _ _ _ h => h) (yieldsIf_load_mid (by rfl) _ _ rfl _ _ rfl (G) _ (fun wq hq => Box.rangeFrom (hq.2.1) 4 _ HV.out) Tryd.underlying23 rfl SG.out) (hxm0) ?_
    try simp only [Act.put, List.setIfInBounds_toArray, List.set_cons_zero, List.set_cons_succ]
    refine takeH 7 78 (v := .agg (E).toArray) rfl (by rfl) (by kernel_rfl) (by kernel_rfl) (by kernel_rfl) (fun _ _ _ h => h) (yieldsIf_load_mid (by rfl) _ _ rfl _ _ rfl (E) _ (fun wq hq => Box.rangeFrom (hq.2.2.2) 4 _ HU.out) Tryd.underlying23 rfl SD.out) (hxm0) ?_
    try simp only [Act.put, List.setIfInBounds_toArray, List.set_cons_zero, List.set_cons_succ]
    refine takeH 8 79 (v := ?vm8_3) rfl (by rfl) (by kernel_rfl) (by kernel_rfl) (by kernel_rfl) (fun _ _ _ h => h) (Or.inl ⟨by rfl, ?_⟩) (hxm0) ?_
    rotate_left
    · intro wq hSq
      go_simp
      exact rfl
    try simp only [Act.put, List.setIfInBounds_toArray, List.set_cons_zero, List.set_cons_succ]
    refine wpAnyH_ready (rs := [2]) (by kernel_rfl) (by simp) (AllReadyH.cons rfl (fun K hK => ?_) AllReadyH.nil)
    go_simp
    refine (A5 _ (Lib.hid (hL.out.below hBm0))).mono ?_
    rintro e Wm4 ⟨rfl, hbm4⟩
    have hxm4 := (And.intro (Box.below hxm0.1 hbm4) (And.intro (Box.below hxm0.2.1 hbm4) (And.intro (Box.below hxm0.2.2.1 hbm4) (Box.below hxm0.2.2.2 hbm4))))
    have hBm4 := below_thru hBm0 hbm4
    clear hxm0 hBm0
    clear hbm4
    refine hK.out _ _ hxm4 (fun _ => ?_); clear hK
    refine takeH 3 74 (v := ?vm3_5) rfl (by rfl) (by kernel_rfl) (by kernel_rfl) (by kernel_rfl) (fun _ _ _ h => h) (Or.inl ⟨by rfl, ?_⟩) (hxm4) ?_
    rotate_left
    · intro wq hSq
      go_simp
      exact rfl
    try simp only [Act.put, List.setIfInBounds_toArray, List.set_cons_zero, List.set_cons_succ]
    refine takeH 9 80 (v := ?vm9_6) rfl (by rfl) (by kernel_rfl) (by kernel_rfl) (by kernel_rfl) (fun _ _ _ h => h) (Or.inl ⟨by rfl, ?_⟩) (hxm4) ?_
    rotate_left
    · intro wq hSq
      go_simp
      exact rfl
    try simp only [Act.put, List.setIfInBounds_toArray, List.set_cons_zero, List.set_cons_succ]
    refine wpAnyH_done (by kernel_rfl) ?_ _
    have x_K7 : Box Wm4 (w.heap.size) (C) := hxm4.1
    have x_T7 : Box Wm4 (w.heap.size + 1) (V) := hxm4.2.1
    have x_O7 : Box Wm4 (w.heap.size + 2) (O) := hxm4.2.2.1
    have x_U7 : Box Wm4 (w1.heap.size) (U) := hxm4.2.2.2
    have hB7 := hBm4
    have hs7 := hB7.size
    clear hxm4
    go_upto_region 8 with fail
    go_upto_region 9 with (first | (refine wpList_load_boxw rfl _ _ rfl x_O7 rfl Tryd.underlying23 rfl SQ.out ?_) | (refine wpList_store_part (cs := O) (ws := V2) rfl _ _ _ rfl x_T7 rfl rfl SQ.out P1.out P2.out OQ.out ?_; intro W8 hW8))
    have x_K8 : Box W8 (w.heap.size) (C) := hW8.past _ _ (by omega) x_K7
    have x_O8 : Box W8 (w.heap.size + 2) (O) := hW8.past _ _ (by omega) x_O7
    have x_U8 : Box W8 (w1.heap.size) (U) := hW8.past _ _ (by omega) x_U7
    have x_T8 : Box W8 (w.heap.size + 1) V2 := hW8.box
    have hB8 : Below w.heap.size w W8 := hW8.below _ _ (by omega) hB7
    have hs8 := hB8.size
    clear hW8 hB7 hs7 x_K7 x_T7 x_O7 x_U7
    refine wp_region_held_drew (S := fun W => Box W (w.heap.size) (C) ∧ Box W (w.heap.size + 1) (V2) ∧ Box W (w.heap.size + 2) (O) ∧ Box W (w1.heap.size) (U)) (by kernel_rfl) (And.intro (x_K8).drew (And.intro (x_T8).drew (And.intro (x_O8).drew (x_U8).drew))) (fun _ => ?_)
    refine F_drew (F := fun W => wpAnyH _ _ _ _ _ _ _ _ W) ?_
    intro Wn0 hbn0
    have hxn0 := (And.intro (Box.below x_K8 hbn0) (And.intro (Box.below x_T8 hbn0) (And.intro (Box.below x_O8 hbn0) (Box.below x_U8 hbn0))))
    have hBn0 := below_thru hB8 hbn0
    clear x_K8 x_T8 x_O8 x_U8 hB8 hs8 hbn0
    refine takeH 5 88 (v := ?vn5_1) rfl (by rfl) (by kernel_rfl) (by kernel_rfl) (by kernel_rfl) (fun _ _ _ h => h) (Or.inl ⟨by rfl, ?_⟩) (hxn0) ?_
    rotate_left
    · intro wq hSq
      go_simp
      exact rfl
    try simp only [Act.put, List.setIfInBounds_toArray, List.set_cons_zero, List.set_cons_succ]
    refine takeH 0 83 (v := .agg (C).toArray) rfl (by rfl) (by kernel_rfl) (by kernel_rfl) (by kernel_rfl) (fun _ _ _ h => h) (yieldsIf_load_mid (by rfl) _ _ rfl _ _ rfl (C) _ (fun wq hq => Box.range (hq.1)) Tryd.underlying23 rfl SK.out) (hxn0) ?_
    try simp only [Act.put, List.setIfInBounds_toArray, List.set_cons_zero, List.set_cons_succ]
    refine takeH 1 84 (v := .agg (V2).toArray) rfl (by rfl) (by kernel_rfl) (by kernel_rfl) (by kernel_rfl) (fun _ _ _ h => h) (yieldsIf_load_mid (by rfl) _ _ rfl _ _ rfl (V2) _ (fun wq hq => Box.range (hq.2.1)) Tryd.underlying27 rfl SV2.out) (hxn0) ?_
    try simp only [Act.put, List.setIfInBounds_toArray, List.set_cons_zero, List.set_cons_succ]
    refine takeH 4 87 (v := .agg (O).toArray) rfl (by rfl) (by kernel_rfl) (by kernel_rfl) (by kernel_rfl) (fun _ _ _ h => h) (yieldsIf_load_mid (by rfl) _ _ rfl _ _ rfl (O) _ (fun wq hq => Box.range (hq.2.2.1)) Tryd.underlying23 rfl SQ.out) (hxn0) ?_
    try simp only [Act.put, List.setIfInBounds_toArray, List.set_cons_zero, List.set_cons_succ]
    refine takeH 6 89 (v := .agg (E).toArray) rfl (by rfl) (by kernel_rfl) (by kernel_rfl) (by kernel_rfl) (fun _ _ _ h => h) (yieldsIf_load_mid (by rfl) _ _ rfl _ _ rfl (E) _ (fun wq hq => Box.rangeFrom (hq.2.2.2) 4 _ HU.out) Tryd.underlying23 rfl SD.out) (hxn0) ?_
    try simp only [Act.put, List.setIfInBounds_toArray, List.set_cons_zero, List.set_cons_succ]
    refine takeH 7 90 (v := ?vn7_2) rfl (by rfl) (by kernel_rfl) (by kernel_rfl) (by kernel_rfl) (fun _ _ _ h => h) (Or.inl ⟨by rfl, ?_⟩) (hxn0) ?_
    rotate_left
    · intro wq hSq
      go_simp
      exact rfl
    try simp only [Act.put, List.setIfInBounds_toArray, List.set_cons_zero, List.set_cons_succ]
    refine wpAnyH_ready (rs := [2]) (by kernel_rfl) (by simp) (AllReadyH.cons rfl (fun K hK => ?_) AllReadyH.nil)
    go_simp
    refine (A6 _ (Lib.hid (hL.out.below hBn0))).mono ?_
    rintro e Wn3 ⟨rfl, hbn3⟩
    have hxn3 := (And.intro (Box.below hxn0.1 hbn3) (And.intro (Box.below hxn0.2.1 hbn3) (And.intro (Box.below hxn0.2.2.1 hbn3) (Box.below hxn0.2.2.2 hbn3))))
    have hBn3 := below_thru hBn0 hbn3
    clear hxn0 hBn0
    clear hbn3
    refine hK.out _ _ hxn3 (fun _ => ?_); clear hK
    refine takeH 3 86 (v := ?vn3_4) rfl (by rfl) (by kernel_rfl) (by kernel_rfl) (by kernel_rfl) (fun _ _ _ h => h) (Or.inl ⟨by rfl, ?_⟩) (hxn3) ?_
    rotate_left
    · intro wq hSq
      go_simp
      exact rfl
    try simp only [Act.put, List.setIfInBounds_toArray, List.set_cons_zero, List.set_cons_succ]
    refine takeH 8 91 (v := ?vn8_5) rfl (by rfl) (by kernel_rfl) (by kernel_rfl) (by kernel_rfl) (fun _ _ _ h => h) (Or.inl ⟨by rfl, ?_⟩) (hxn3) ?_
    rotate_left
    · intro wq hSq
      go_simp
      exact rfl
    try simp only [Act.put, List.setIfInBounds_toArray, List.set_cons_zero, List.set_cons_succ]
    refine takeH 9 92 (v := ?vn9_6) rfl (by rfl) (by kernel_rfl) (by kernel_rfl) (by kernel_rfl) (fun _ _ _ h => h) (Or.inl ⟨by rfl, ?_⟩) (hxn3) ?_
    rotate_left
    · intro wq hSq
      go_simp
      exact rfl
    try simp only [Act.put, List.setIfInBounds_toArray, List.set_cons_zero, List.set_cons_succ]
    refine wpAnyH_ready (rs := [10]) (by kernel_rfl) (by simp) (AllReadyH.cons rfl (fun K hK => ?_) AllReadyH.nil)
    go_simp
    refine (alive8_is _ (Lib.hid (hL.out.below hBn3))).mono ?_
    rintro e Wn7 ⟨rfl, hbn7⟩
    have hxn7 := (And.intro (Box.below hxn3.1 hbn7) (And.intro (Box.below hxn3.2.1 hbn7) (And.intro (Box.below hxn3.2.2.1 hbn7) (Box.below hxn3.2.2.2 hbn7))))
    have hBn7 := below_thru hBn3 hbn7
    clear hxn3 hBn3
    clear hbn7
    refine hK.out _ _ hxn7 (fun _ => ?_); clear hK
    refine takeH 11 94 (v := ?vn11_8) rfl (by rfl) (by kernel_rfl) (by kernel_rfl) (by kernel_rfl) (fun _ _ _ h => h) (Or.inl ⟨by rfl, ?_⟩) (hxn7) ?_
    rotate_left
    · intro wq hSq
      go_simp
      exact rfl
    try simp only [Act.put, List.setIfInBounds_toArray, List.set_cons_zero, List.set_cons_succ]
    refine takeH 12 6 (v := ?vn12_9) rfl (by rfl) (by kernel_rfl) (by kernel_rfl) (by kernel_rfl) (fun _ _ _ h => h) (Or.inl ⟨by rfl, ?_⟩) (hxn7) ?_
    rotate_left
    · intro wq hSq
      go_simp
      exact rfl
    try simp only [Act.put, List.setIfInBounds_toArray, List.set_cons_zero, List.set_cons_succ]
    refine wpAnyH_done (by kernel_rfl) ?_ _
    go_wp2_with fail
    go_returns
    exact ⟨rfl, hBn7⟩

end Go.Proofs.YtlbbedknldmcpaaDoor
