/-
  The reference of layer 10, walked: Parse.
-/
import Derived.Test.YtipkgflonioacaaRRpB
namespace Go.Proofs.Ytipkgflonioacaa
open Go.RowKit

def RCaseP (F : Rep) (bs : List Int) (G : Rep) (q : Int) : Prop := (F.Ok ∧ F.bs = bs ∧ F = G ∧ q = 0) ∨ (F.Ok ∧ F.bs ≠ bs ∧ G = Rep.zero ∧ q = 12) ∨ (¬ F.Ok ∧ G = Rep.zero ∧ q = 12)
set_option maxRecDepth 100000 in
set_option maxHeartbeats 12800000 in
theorem rpp_n {bs : List Int} (d1 : ((bs.length : Int) == 32) = false) {v : Value} (w : World) (h1 : IsL w .u8 v bs) : Calls Try.prog 19 #[v] w fun e w' => e = .returned (.tuple #[.agg Rep.zero.v.toArray, .int .i64 12]) ∧ Below w.heap.size w w' := by
  obtain ⟨a0, c0, rfl, hr, _⟩ := id h1
  have i1 := hr.room
  have i2 := hr.most
  clear hr h1
  have SZ := Lib.hid (size_rep Rep.zero); have OZ := Lib.hid (one_rep Rep.zero); have BZ := fun W => build_rz W
  go_enter Try.func19, Try.ntmps19
  go_upto_region 1 with fail
  refine F_gen (F := fun W => Code.wp _ _ _ _ W) (J := fun W => Box W (w.heap.size) (Rep.zero.v) ∧ Below w.heap.size w W) (And.intro (Box.newc rfl rfl) (by go_grown)) ?_
  intro w0 ⟨e_r, hB0⟩
  have hs0 := hB0.size
  have x_r0 := e_r; clear e_r
  have lq := (x_r0).lt
  go_wp2_with (first | (refine wpList_build9 rfl 26 _ rfl (us := #[]) (by rfl) (BZ _) ?_) | (refine wpList_store_box (cs := Rep.zero.v) rfl _ _ _ rfl x_r0 rfl rfl SZ.out (len_rep Rep.zero Rep.zero) OZ.out ?_; intro W99 hW99))
  exact bodyPost_ret (results_box2 Try.results19 hW99.box rfl rfl Try.underlying26 rfl SZ.out) rfl ⟨rfl, hW99.below _ _ (by omega) hB0⟩
set_option maxRecDepth 100000 in
set_option maxHeartbeats 12800000 in
theorem rpp_32 (r : Rep) {bs : List Int} (hl : bs.length = 32) (hy : Byts bs) (ec : r.c = nth bs 0) (et : r.t = num ((bs.take 8).drop 4)) (ex : r.x = num ((bs.take 28).drop 20)) (ea : r.a = num ((bs.take 12).drop 8)) (eb : r.b = num ((bs.take 16).drop 12)) (ed : r.d = num ((bs.take 20).drop 16)) {G : Rep} {q : Int} (hc : RCaseP r bs G q) {v : Value} (w : World) (h1 : IsL w .u8 v bs) : Calls Try.prog 19 #[v] w fun e w' => e = .returned (.tuple #[.agg G.v.toArray, .int .i64 q]) ∧ Below w.heap.size w w' := by
  have hcase := Lib.hid hc
  unfold RCaseP at hcase
  clear hc
  obtain ⟨a0, c0, rfl, hr, _⟩ := id h1
  have i1 := hr.room
  have i2 := hr.most
  obtain ⟨b, off, rfl, cb0⟩ := h1.get 0 (by omega)
  rw [Nat.add_zero, ← ec] at cb0
  have HV := Lib.hid h1
  have St := Lib.hid (show IsL w .u8 (.slice (some ⟨b, off + 4, none⟩) 4 (c0 - 4)) ((bs.take 8).drop 4) from (h1.taken (m := 8) (by omega)).dropped (by rw [List.length_take]; omega) (by rw [List.length_take]; omega) rfl (Or.inl rfl))
  have Nt := fun (W : World) (v : Value) (h : IsL W .u8 v ((bs.take 8).drop 4)) => rnum_is W h (by rw [List.length_drop, List.length_take]; omega) ((hy.take _).drop _)
  rw [← et] at Nt
  obtain ⟨Xt, hXt⟩ : ∃ X, (bs.take 8).drop 4 = X := ⟨_, rfl⟩
  rw [hXt] at St Nt
  have Sx := Lib.hid (show IsL w .u8 (.slice (some ⟨b, off + 20, none⟩) 8 (c0 - 20)) ((bs.take 28).drop 20) from (h1.taken (m := 28) (by omega)).dropped (by rw [List.length_take]; omega) (by rw [List.length_take]; omega) rfl (Or.inl rfl))
  have Nx := fun (W : World) (v : Value) (h : IsL W .u8 v ((bs.take 28).drop 20)) => rnum_is W h (by rw [List.length_drop, List.length_take]; omega) ((hy.take _).drop _)
  rw [← ex] at Nx
  obtain ⟨Xx, hXx⟩ : ∃ X, (bs.take 28).drop 20 = X := ⟨_, rfl⟩
  rw [hXx] at Sx Nx
  have Sa := Lib.hid (show IsL w .u8 (.slice (some ⟨b, off + 8, none⟩) 4 (c0 - 8)) ((bs.take 12).drop 8) from (h1.taken (m := 12) (by omega)).dropped (by rw [List.length_take]; omega) (by rw [List.length_take]; omega) rfl (Or.inl rfl))
  have Na := fun (W : World) (v : Value) (h : IsL W .u8 v ((bs.take 12).drop 8)) => rnum_is W h (by rw [List.length_drop, List.length_take]; omega) ((hy.take _).drop _)
  rw [← ea] at Na
  obtain ⟨Xa, hXa⟩ : ∃ X, (bs.take 12).drop 8 = X := ⟨_, rfl⟩
  rw [hXa] at Sa Na
  have Sb := Lib.hid (show IsL w .u8 (.slice (some ⟨b, off + 12, none⟩) 4 (c0 - 12)) ((bs.take 16).drop 12) from (h1.taken (m := 16) (by omega)).dropped (by rw [List.length_take]; omega) (by rw [List.length_take]; omega) rfl (Or.inl rfl))
  have Nb := fun (W : World) (v : Value) (h : IsL W .u8 v ((bs.take 16).drop 12)) => rnum_is W h (by rw [List.length_drop, List.length_take]; omega) ((hy.take _).drop _)
  rw [← eb] at Nb
  obtain ⟨Xb, hXb⟩ : ∃ X, (bs.take 16).drop 12 = X := ⟨_, rfl⟩
  rw [hXb] at Sb Nb
  have Sd := Lib.hid (show IsL w .u8 (.slice (some ⟨b, off + 16, none⟩) 4 (c0 - 16)) ((bs.take 20).drop 16) from (h1.taken (m := 20) (by omega)).dropped (by rw [List.length_take]; omega) (by rw [List.length_take]; omega) rfl (Or.inl rfl))
  have Nd := fun (W : World) (v : Value) (h : IsL W .u8 v ((bs.take 20).drop 16)) => rnum_is W h (by rw [List.length_drop, List.length_take]; omega) ((hy.take _).drop _)
  rw [← ed] at Nd
  obtain ⟨Xd, hXd⟩ : ∃ X, (bs.take 20).drop 16 = X := ⟨_, rfl⟩
  rw [hXd] at Sd Nd
  have wt : IntKind.u32.wrap r.t = r.t := by have := r.ht; rw [IntKind.wrap_u32]; omega
  have wa : IntKind.u32.wrap r.a = r.a := by have := r.ha; rw [IntKind.wrap_u32]; omega
  have wb : IntKind.u32.wrap r.b = r.b := by have := r.hb; rw [IntKind.wrap_u32]; omega
  have wd : IntKind.u32.wrap r.d = r.d := by have := r.hd; rw [IntKind.wrap_u32]; omega
  have BT := fun W => build_r3 r.c r.t r.x W
  have U0e : [Value.int .u8 r.c, .int .u32 r.t, .int .u32 0, .int .u32 0, .int .u32 0, .int .u64 r.x] = r.r3.v := rfl
  rw [U0e] at BT; clear U0e
  have S0 := Lib.hid (size_rep r.r3); have L0 := Lib.hid (len_rep Rep.zero r.r3); have O0 := Lib.hid (one_rep r.r3); have SZ := Lib.hid (size_rep Rep.zero); have SV := Lib.hid (size_rep r)
  obtain ⟨U1, W1⟩ : ∃ U, Hid (U = r.r3.v.set 2 (.int .u32 r.a)) := ⟨_, Lib.hid rfl⟩
  obtain ⟨U2, W2⟩ : ∃ U, Hid (U = U1.set 3 (.int .u32 r.b)) := ⟨_, Lib.hid rfl⟩
  have W3 : Hid (r.v = U2.set 4 (.int .u32 r.d)) := Lib.hid (by rw [W2.out, W1.out]; rfl)
  have N0 : Hid (r.r3.v.length = 6) := Lib.hid rfl; have N1 : Hid (U1.length = 6) := Lib.hid (by rw [W1.out]; rfl); have N2 : Hid (U2.length = 6) := Lib.hid (by rw [W2.out, W1.out]; rfl)
  have j0 : ¬ c0 = 4 := by omega
  have j1 : ¬ c0 = 20 := by omega
  have j2 : ¬ c0 = 8 := by omega
  have j3 : ¬ c0 = 12 := by omega
  have j4 : ¬ c0 = 16 := by omega
  have j5 : (8 : Int) ≤ (c0 : Int) := by omega
  have j6 : (28 : Int) ≤ (c0 : Int) := by omega
  have j7 : (12 : Int) ≤ (c0 : Int) := by omega
  have j8 : (16 : Int) ≤ (c0 : Int) := by omega
  have j9 : (20 : Int) ≤ (c0 : Int) := by omega
  have j10 : (4 : Int) ≤ (c0 : Int) := by omega
  have j11 : ¬ c0 = 0 := by omega
  have HL := Lib.hid hl
  rw [hl] at HV ⊢
  obtain ⟨V, hV⟩ : ∃ V, r.v = V := ⟨_, rfl⟩
  have HVV := Lib.hid hV
  rw [hV] at W3 SV
  obtain ⟨U0, hU0⟩ : ∃ V, r.r3.v = V := ⟨_, rfl⟩
  rw [hU0] at BT S0 L0 O0 W1 N0
  obtain ⟨zc, hzc⟩ : ∃ z, r.c = z := ⟨_, rfl⟩
  obtain ⟨zt, hzt⟩ : ∃ z, r.t = z := ⟨_, rfl⟩
  obtain ⟨za, hza⟩ : ∃ z, r.a = z := ⟨_, rfl⟩
  obtain ⟨zb, hzb⟩ : ∃ z, r.b = z := ⟨_, rfl⟩
  obtain ⟨zd, hzd⟩ : ∃ z, r.d = z := ⟨_, rfl⟩
  obtain ⟨zx, hzx⟩ : ∃ z, r.x = z := ⟨_, rfl⟩
  rw [hzc] at cb0 BT; rw [hzt] at wt BT Nt; rw [hzx] at BT Nx; rw [hza] at wa W1 Na; rw [hzb] at wb W2 Nb; rw [hzd] at wd W3 Nd
  clear hr h1 hl hy hV hU0 ec i1 hXt et hXx ex hXa ea hXb eb hXd ed hzc hzt hza hzb hzd hzx
  go_enter Try.func19, Try.ntmps19
  go_upto_region 1 with fail
  refine F_gen (F := fun W => Code.wp _ _ _ _ W) (J := fun W => Box W (w.heap.size) (Rep.zero.v) ∧ Below w.heap.size w W) (And.intro (Box.newc rfl rfl) (by go_grown)) ?_
  intro w0 ⟨e_r, hB0⟩
  have hs0 := hB0.size
  have x_r0 := e_r; clear e_r
  go_wp2_with fail
  go_cut [4] (fun p wx => ∃ b7 : Nat, p = .pointer (some ⟨b7, 0, none⟩) ∧ w.heap.size < b7 ∧ Box wx b7 U0 ∧ Box wx w.heap.size Rep.zero.v ∧ Below w.heap.size w wx)
  case first =>
    have cc0 := cell_below hB0 cb0
    refine wp_region_held_drew (S := fun W => Box W (w.heap.size) (Rep.zero.v) ∧ W.cell? ⟨b, off, none⟩ = some (.int .u8 zc)) (by kernel_rfl) (And.intro (x_r0).drew cc0) (fun _ => ?_)
    refine F_drew (F := fun W => wpAnyH _ _ _ _ _ _ _ _ W) ?_
    intro Ws0 hbs0
    clear hs0
    have x_r_s0 : Box Ws0 (w.heap.size) (Rep.zero.v) := Box.below x_r0 hbs0
    have c_k0_s0 := cell_below hbs0 cc0
    have Bs0 := below_thru hB0 hbs0
    clear x_r0 cc0 hB0 hbs0
    refine takeH 0 10 (v := ?vs0_1) rfl (by rfl) (by kernel_rfl) (by kernel_rfl) (by kernel_rfl) (fun _ _ _ h => h) (Or.inl ⟨by rfl, ?_⟩) ((And.intro x_r_s0 c_k0_s0)) ?_
    rotate_left
    · intro wq hSq
      go_simp
      exact rfl
    try simp only [Act.put, List.setIfInBounds_toArray, List.set_cons_zero, List.set_cons_succ]
    refine takeH 1 11 (v := ?vs1_2) rfl (by rfl) (by kernel_rfl) (by kernel_rfl) (by kernel_rfl) (fun _ _ _ h => h) (Or.inl ⟨by rfl, ?_⟩) ((And.intro x_r_s0 c_k0_s0)) ?_
    rotate_left
    · intro wq hSq
      go_simp
      exact rfl
    try simp only [Act.put, List.setIfInBounds_toArray, List.set_cons_zero, List.set_cons_succ]
    refine takeH 2 12 (v := ?vs2_3) rfl (by rfl) (by kernel_rfl) (by kernel_rfl) (by kernel_rfl) (fun _ _ _ h => h) (Or.inl ⟨by rfl, ?_⟩) ((And.intro x_r_s0 c_k0_s0)) ?_
    rotate_left
    · intro wq hSq
      have cq := hSq.2
      have zq := lt_of_cell cq
      go_simp
      exact rfl
    try simp only [Act.put, List.setIfInBounds_toArray, List.set_cons_zero, List.set_cons_succ]
    refine takeH 3 13 (v := ?vs3_4) rfl (by rfl) (by kernel_rfl) (by kernel_rfl) (by kernel_rfl) (fun _ _ _ h => h) (Or.inl ⟨by rfl, ?_⟩) ((And.intro x_r_s0 c_k0_s0)) ?_
    rotate_left
    · intro wq hSq
      go_simp
      exact rfl
    try simp only [Act.put, List.setIfInBounds_toArray, List.set_cons_zero, List.set_cons_succ]
    refine takeH 4 14 (v := ?vs4_5) rfl (by rfl) (by kernel_rfl) (by kernel_rfl) (by kernel_rfl) (fun _ _ _ h => h) (Or.inl ⟨by rfl, ?_⟩) ((And.intro x_r_s0 c_k0_s0)) ?_
    rotate_left
    · intro wq hSq
      go_simp
      exact rfl
    try simp only [Act.put, List.setIfInBounds_toArray, List.set_cons_zero, List.set_cons_succ]
    refine takeH 7 17 (v := ?vs7_6) rfl (by rfl) (by kernel_rfl) (by kernel_rfl) (by kernel_rfl) (fun _ _ _ h => h) (Or.inl ⟨by rfl, ?_⟩) ((And.intro x_r_s0 c_k0_s0)) ?_
    rotate_left
    · intro wq hSq
      go_simp
      exact rfl
    try simp only [Act.put, List.setIfInBounds_toArray, List.set_cons_zero, List.set_cons_succ]
    refine takeH 8 18 (v := ?vs8_7) rfl (by rfl) (by kernel_rfl) (by kernel_rfl) (by kernel_rfl) (fun _ _ _ h => h) (Or.inl ⟨by rfl, ?_⟩) ((And.intro x_r_s0 c_k0_s0)) ?_
    rotate_left
    · intro wq hSq
      go_simp
      exact rfl
    try simp only [Act.put, List.setIfInBounds_toArray, List.set_cons_zero, List.set_cons_succ]
    refine wpAnyH_ready (rs := [5, 11]) (by kernel_rfl) (by simp) (AllReadyH.cons rfl (fun K hK => ?_) (AllReadyH.cons rfl (fun K hK => ?_) AllReadyH.nil))
    · skip
      go_simp
      refine (Nt _ _ (St.out.below Bs0)).mono ?_
      rintro e Ws8 ⟨rfl, hbs8⟩
      have x_r_s8 : Box Ws8 (w.heap.size) (Rep.zero.v) := Box.below x_r_s0 hbs8
      have c_k0_s8 := cell_below hbs8 c_k0_s0
      have Bs8 := below_thru Bs0 hbs8
      clear x_r_s0 c_k0_s0 Bs0 hbs8
      refine hK.out _ _ (And.intro x_r_s8 c_k0_s8) (fun _ => ?_); clear hK K
      refine takeH 6 16 (v := ?vs6_9) rfl (by rfl) (by kernel_rfl) (by kernel_rfl) (by kernel_rfl) (fun _ _ _ h => h) (Or.inl ⟨by rfl, ?_⟩) ((And.intro x_r_s8 c_k0_s8)) ?_
      rotate_left
      · intro wq hSq
        go_simp
        exact rfl
      try simp only [Act.put, List.setIfInBounds_toArray, List.set_cons_zero, List.set_cons_succ]
      refine wpAnyH_ready (rs := [9, 11]) (by kernel_rfl) (by simp) (AllReadyH.cons rfl (fun K hK => ?_) (AllReadyH.cons rfl (fun K hK => ?_) AllReadyH.nil))
      · skip
        go_simp
        refine (Nx _ _ (Sx.out.below Bs8)).mono ?_
        rintro e Ws10 ⟨rfl, hbs10⟩
        have x_r_s10 : Box Ws10 (w.heap.size) (Rep.zero.v) := Box.below x_r_s8 hbs10
        have c_k0_s10 := cell_below hbs10 c_k0_s8
        have Bs10 := below_thru Bs8 hbs10
        clear x_r_s8 c_k0_s8 Bs8 hbs10
        refine hK.out _ _ (And.intro x_r_s10 c_k0_s10) (fun _ => ?_); clear hK K
        refine takeH 10 20 (v := .agg U0.toArray) rfl (by rfl) (by kernel_rfl) (by kernel_rfl) (by kernel_rfl) (fun _ _ _ h => h) (yieldsIf_build (by rfl) _ _ rfl (us := #[(0, .int .u8 zc), (1, .int .u32 zt), (3, .int .u64 zx)]) (by rfl) BT) ((And.intro x_r_s10 c_k0_s10)) ?_
        try simp only [Act.put, List.setIfInBounds_toArray, List.set_cons_zero, List.set_cons_succ]
        refine wpAnyH_ready (rs := [11]) (by kernel_rfl) (by simp) (AllReadyH.cons rfl (fun K hK => ?_) AllReadyH.nil)
        go_simp
        have la11 := (x_r_s10).lt; have lc11 := lt_of_cell c_k0_s10
        refine hK.out _ _ (And.intro (Box.alloc x_r_s10 _) (cell_alloc c_k0_s10)) (fun _ => ?_); clear hK K
        refine F_gen (F := fun W => wpAnyH _ _ _ _ _ _ _ _ W) (J := fun W => Box W (Ws10.heap.size) Rep.zero.v ∧ Below Ws10.heap.size Ws10 W) (And.intro (Box.newc rfl rfl) ((Below.refl _ _).alloc (Nat.le_refl _) _)) ?_
        intro Ws11 ⟨na_c_s11, hbs11⟩
        have x_r_s11 : Box Ws11 (w.heap.size) (Rep.zero.v) := Box.below x_r_s10 hbs11
        have c_k0_s11 := cell_below hbs11 c_k0_s10
        have Bs11 := below_thru Bs10 hbs11
        clear x_r_s10 c_k0_s10 Bs10 hbs11
        refine wpAnyH_ready (rs := [12]) (by kernel_rfl) (by simp) (AllReadyH.cons rfl (fun K hK => ?_) AllReadyH.nil)
        have nz_r := (x_r_s11).lt
        refine step_store_box0 (cs := U0) rfl rfl _ _ _ rfl na_c_s11 rfl rfl S0.out L0.out O0.out ?_
        intro Ws12 hWs12
        have x_r_s12 : Box Ws12 (w.heap.size) (Rep.zero.v) := hWs12.past _ _ (by omega) x_r_s11
        have c_k0_s12 := hWs12.cell _ _ _ (by omega) c_k0_s11
        have z_c_s12 := hWs12.box
        have Bs12 := hWs12.below _ _ (by omega) Bs11
        clear nz_r x_r_s11 c_k0_s11 na_c_s11 Bs11 hWs12
        refine hK.out _ _ (And.intro x_r_s12 c_k0_s12) (fun _ => ?_); clear hK K
        refine wpAnyH_done (by kernel_rfl) ?_ _
        go_wp2_with fail
        go_meet
        exact ⟨_, rfl, la11, z_c_s12, x_r_s12, Bs12⟩
      · skip
        go_simp
        have la13 := (x_r_s8).lt; have lc13 := lt_of_cell c_k0_s8
        refine hK.out _ _ (And.intro (Box.alloc x_r_s8 _) (cell_alloc c_k0_s8)) (fun _ => ?_); clear hK K
        refine F_gen (F := fun W => wpAnyH _ _ _ _ _ _ _ _ W) (J := fun W => Box W (Ws8.heap.size) Rep.zero.v ∧ Below Ws8.heap.size Ws8 W) (And.intro (Box.newc rfl rfl) ((Below.refl _ _).alloc (Nat.le_refl _) _)) ?_
        intro Ws13 ⟨na_c_s13, hbs13⟩
        have x_r_s13 : Box Ws13 (w.heap.size) (Rep.zero.v) := Box.below x_r_s8 hbs13
        have c_k0_s13 := cell_below hbs13 c_k0_s8
        have Bs13 := below_thru Bs8 hbs13
        clear x_r_s8 c_k0_s8 Bs8 hbs13
        refine wpAnyH_ready (rs := [9]) (by kernel_rfl) (by simp) (AllReadyH.cons rfl (fun K hK => ?_) AllReadyH.nil)
        go_simp
        refine (Nx _ _ (Sx.out.below Bs13)).mono ?_
        rintro e Ws14 ⟨rfl, hbs14⟩
        have x_r_s14 : Box Ws14 (w.heap.size) (Rep.zero.v) := Box.below x_r_s13 hbs14
        have c_k0_s14 := cell_below hbs14 c_k0_s13
        have z_c_s14 : Box Ws14 (Ws8.heap.size) (Rep.zero.v) := Box.below na_c_s13 hbs14
        have Bs14 := below_thru Bs13 hbs14
        clear x_r_s13 c_k0_s13 na_c_s13 Bs13 hbs14
        refine hK.out _ _ (And.intro x_r_s14 c_k0_s14) (fun _ => ?_); clear hK K
        refine takeH 10 20 (v := .agg U0.toArray) rfl (by rfl) (by kernel_rfl) (by kernel_rfl) (by kernel_rfl) (fun _ _ _ h => h) (yieldsIf_build (by rfl) _ _ rfl (us := #[(0, .int .u8 zc), (1, .int .u32 zt), (3, .int .u64 zx)]) (by rfl) BT) ((And.intro x_r_s14 c_k0_s14)) ?_
        try simp only [Act.put, List.setIfInBounds_toArray, List.set_cons_zero, List.set_cons_succ]
        refine wpAnyH_ready (rs := [12]) (by kernel_rfl) (by simp) (AllReadyH.cons rfl (fun K hK => ?_) AllReadyH.nil)
        have nz_r := (x_r_s14).lt
        refine step_store_box0 (cs := U0) rfl rfl _ _ _ rfl z_c_s14 rfl rfl S0.out L0.out O0.out ?_
        intro Ws15 hWs15
        have x_r_s15 : Box Ws15 (w.heap.size) (Rep.zero.v) := hWs15.past _ _ (by omega) x_r_s14
        have c_k0_s15 := hWs15.cell _ _ _ (by omega) c_k0_s14
        have z_c_s15 := hWs15.box
        have Bs15 := hWs15.below _ _ (by omega) Bs14
        clear nz_r x_r_s14 c_k0_s14 z_c_s14 Bs14 hWs15
        refine hK.out _ _ (And.intro x_r_s15 c_k0_s15) (fun _ => ?_); clear hK K
        refine wpAnyH_done (by kernel_rfl) ?_ _
        go_wp2_with fail
        go_meet
        exact ⟨_, rfl, la13, z_c_s15, x_r_s15, Bs15⟩
    · skip
      go_simp
      have la16 := (x_r_s0).lt; have lc16 := lt_of_cell c_k0_s0
      refine hK.out _ _ (And.intro (Box.alloc x_r_s0 _) (cell_alloc c_k0_s0)) (fun _ => ?_); clear hK K
      refine F_gen (F := fun W => wpAnyH _ _ _ _ _ _ _ _ W) (J := fun W => Box W (Ws0.heap.size) Rep.zero.v ∧ Below Ws0.heap.size Ws0 W) (And.intro (Box.newc rfl rfl) ((Below.refl _ _).alloc (Nat.le_refl _) _)) ?_
      intro Ws16 ⟨na_c_s16, hbs16⟩
      have x_r_s16 : Box Ws16 (w.heap.size) (Rep.zero.v) := Box.below x_r_s0 hbs16
      have c_k0_s16 := cell_below hbs16 c_k0_s0
      have Bs16 := below_thru Bs0 hbs16
      clear x_r_s0 c_k0_s0 Bs0 hbs16
      refine wpAnyH_ready (rs := [5]) (by kernel_rfl) (by simp) (AllReadyH.cons rfl (fun K hK => ?_) AllReadyH.nil)
      go_simp
      refine (Nt _ _ (St.out.below Bs16)).mono ?_
      rintro e Ws17 ⟨rfl, hbs17⟩
      have x_r_s17 : Box Ws17 (w.heap.size) (Rep.zero.v) := Box.below x_r_s16 hbs17
      have c_k0_s17 := cell_below hbs17 c_k0_s16
      have z_c_s17 : Box Ws17 (Ws0.heap.size) (Rep.zero.v) := Box.below na_c_s16 hbs17
      have Bs17 := below_thru Bs16 hbs17
      clear x_r_s16 c_k0_s16 na_c_s16 Bs16 hbs17
      refine hK.out _ _ (And.intro x_r_s17 c_k0_s17) (fun _ => ?_); clear hK K
      refine takeH 6 16 (v := ?vs6_18) rfl (by rfl) (by kernel_rfl) (by kernel_rfl) (by kernel_rfl) (fun _ _ _ h => h) (Or.inl ⟨by rfl, ?_⟩) ((And.intro x_r_s17 c_k0_s17)) ?_
      rotate_left
      · intro wq hSq
        go_simp
        exact rfl
      try simp only [Act.put, List.setIfInBounds_toArray, List.set_cons_zero, List.set_cons_succ]
      refine wpAnyH_ready (rs := [9]) (by kernel_rfl) (by simp) (AllReadyH.cons rfl (fun K hK => ?_) AllReadyH.nil)
      go_simp
      refine (Nx _ _ (Sx.out.below Bs17)).mono ?_
      rintro e Ws19 ⟨rfl, hbs19⟩
      have x_r_s19 : Box Ws19 (w.heap.size) (Rep.zero.v) := Box.below x_r_s17 hbs19
      have c_k0_s19 := cell_below hbs19 c_k0_s17
      have z_c_s19 : Box Ws19 (Ws0.heap.size) (Rep.zero.v) := Box.below z_c_s17 hbs19
      have Bs19 := below_thru Bs17 hbs19
      clear x_r_s17 c_k0_s17 z_c_s17 Bs17 hbs19
      refine hK.out _ _ (And.intro x_r_s19 c_k0_s19) (fun _ => ?_); clear hK K
      refine takeH 10 20 (v := .agg U0.toArray) rfl (by rfl) (by kernel_rfl) (by kernel_rfl) (by kernel_rfl) (fun _ _ _ h => h) (yieldsIf_build (by rfl) _ _ rfl (us := #[(0, .int .u8 zc), (1, .int .u32 zt), (3, .int .u64 zx)]) (by rfl) BT) ((And.intro x_r_s19 c_k0_s19)) ?_
      try simp only [Act.put, List.setIfInBounds_toArray, List.set_cons_zero, List.set_cons_succ]
      refine wpAnyH_ready (rs := [12]) (by kernel_rfl) (by simp) (AllReadyH.cons rfl (fun K hK => ?_) AllReadyH.nil)
      have nz_r := (x_r_s19).lt
      refine step_store_box0 (cs := U0) rfl rfl _ _ _ rfl z_c_s19 rfl rfl S0.out L0.out O0.out ?_
      intro Ws20 hWs20
      have x_r_s20 : Box Ws20 (w.heap.size) (Rep.zero.v) := hWs20.past _ _ (by omega) x_r_s19
      have c_k0_s20 := hWs20.cell _ _ _ (by omega) c_k0_s19
      have z_c_s20 := hWs20.box
      have Bs20 := hWs20.below _ _ (by omega) Bs19
      clear nz_r x_r_s19 c_k0_s19 z_c_s19 Bs19 hWs20
      refine hK.out _ _ (And.intro x_r_s20 c_k0_s20) (fun _ => ?_); clear hK K
      refine wpAnyH_done (by kernel_rfl) ?_ _
      go_wp2_with fail
      go_meet
      exact ⟨_, rfl, la16, z_c_s20, x_r_s20, Bs20⟩
  case rest =>
    obtain ⟨b7, rfl, lo4, x_c1, x_r1, hB1⟩ := hcut
    clear x_r0 hB0 hs0 cb0
    have hs1 := hB1.size
    go_wp2_with fail
    refine wp_loop_rounds 5 ?_
    rw [rounds_succ]
    go_wp2_with fail
    refine (Na _ _ (Sa.out.below hB1)).mono ?_
    rintro e w2 ⟨rfl, hb⟩
    have hB2 : Below w.heap.size w w2 := below_thru hB1 hb
    have hs2 := hB2.size
    have x_r2 : Box w2 (w.heap.size) (Rep.zero.v) := Box.below x_r1 hb
    have x_c2 : Box w2 (b7) (U0) := Box.below x_c1 hb
    clear hB1 hs1 x_r1 x_c1
    clear hb
    have lq_r := (x_r2).lt
    have lq_c := (x_c2).lt
    go_upto_region 6 with (first | (refine wpList_store_cell (k := 2) (ws := U1) (v := .int .u32 za) rfl _ _ _ rfl x_c2 rfl rfl rfl rfl size_u32n (by rw [N0.out]; decide) W1.out ?_; intro S2_0 hS2_0))
    have x_r3 : Box S2_0 (w.heap.size) (Rep.zero.v) := (hS2_0.past _ _ (by omega) x_r2)
    have x_c3 := hS2_0.box
    have hB3 := (hS2_0.below _ _ (by omega) hB2); have hs3 := hB3.size
    clear x_r2 x_c2 hB2 hs2 lq_r lq_c
    clear hS2_0
    go_wp2_with fail
    rw [rounds_succ]
    go_wp2_with fail
    refine (Nb _ _ (Sb.out.below hB3)).mono ?_
    rintro e w4 ⟨rfl, hb⟩
    have hB4 : Below w.heap.size w w4 := below_thru hB3 hb
    have hs4 := hB4.size
    have x_r4 : Box w4 (w.heap.size) (Rep.zero.v) := Box.below x_r3 hb
    have x_c4 : Box w4 (b7) (U1) := Box.below x_c3 hb
    clear hB3 hs3 x_r3 x_c3
    clear hb
    have lq_r := (x_r4).lt
    have lq_c := (x_c4).lt
    go_upto_region 6 with (first | (refine wpList_store_cell (k := 3) (ws := U2) (v := .int .u32 zb) rfl _ _ _ rfl x_c4 rfl rfl rfl rfl size_u32n (by rw [N1.out]; decide) W2.out ?_; intro S4_0 hS4_0))
    have x_r5 : Box S4_0 (w.heap.size) (Rep.zero.v) := (hS4_0.past _ _ (by omega) x_r4)
    have x_c5 := hS4_0.box
    have hB5 := (hS4_0.below _ _ (by omega) hB4); have hs5 := hB5.size
    clear x_r4 x_c4 hB4 hs4 lq_r lq_c
    clear hS4_0
    go_wp2_with fail
    rw [rounds_succ]
    go_wp2_with fail
    refine (Nd _ _ (Sd.out.below hB5)).mono ?_
    rintro e w6 ⟨rfl, hb⟩
    have hB6 : Below w.heap.size w w6 := below_thru hB5 hb
    have hs6 := hB6.size
    have x_r6 : Box w6 (w.heap.size) (Rep.zero.v) := Box.below x_r5 hb
    have x_c6 : Box w6 (b7) (U2) := Box.below x_c5 hb
    clear hB5 hs5 x_r5 x_c5
    clear hb
    have lq_r := (x_r6).lt
    have lq_c := (x_c6).lt
    go_upto_region 6 with (first | (refine wpList_store_cell (k := 4) (ws := V) (v := .int .u32 zd) rfl _ _ _ rfl x_c6 rfl rfl rfl rfl size_u32n (by rw [N2.out]; decide) W3.out ?_; intro S6_0 hS6_0))
    have x_r7 : Box S6_0 (w.heap.size) (Rep.zero.v) := (hS6_0.past _ _ (by omega) x_r6)
    have x_c7 := hS6_0.box
    have hB7 := (hS6_0.below _ _ (by omega) hB6); have hs7 := hB7.size
    clear x_r6 x_c6 hB6 hs6 lq_r lq_c
    clear hS6_0
    go_wp2_with fail
    rw [rounds_succ]
    have BZ := fun W => build_rz W; have SZ2 := Lib.hid (size_rep Rep.zero); have OZ := Lib.hid (one_rep Rep.zero)
    rcases hcase.out with ⟨hok, hbs, rfl, rfl⟩ | ⟨hok, hbs, rfl, rfl⟩ | ⟨hok, rfl, rfl⟩
    · skip
      have CK := fun W => rchk_is r (q := 0) (Lib.hid (Or.inl ⟨rfl, hok⟩)) W
      rw [HVV.out] at CK
      have RB := fun W => rbs_is r W
      rw [HVV.out] at RB
      have HBS := Lib.hid hbs
      rw [HBS.out] at RB
      have OV := Lib.hid (one_rep r); have LV := Lib.hid (len_rep Rep.zero r)
      rw [HVV.out] at OV LV
      clear hbs hok hcase
      go_wp2_with (refine wpList_load_box9 rfl _ _ rfl x_c7 rfl Try.underlying26 rfl SV.out ?_)
      refine (CK _).mono ?_
      rintro e w8 ⟨rfl, hb⟩
      clear CK
      have hB8 : Below w.heap.size w w8 := below_thru hB7 hb
      have hs8 := hB8.size
      have x_r8 : Box w8 (w.heap.size) (Rep.zero.v) := Box.below x_r7 hb
      have x_c8 : Box w8 (b7) (V) := Box.below x_c7 hb
      clear hB7 hs7 x_r7 x_c7
      clear hb
      go_wp2_with (refine wpList_load_box9 rfl _ _ rfl x_c8 rfl Try.underlying26 rfl SV.out ?_)
      refine (RB _).mono ?_
      rintro e w58 ⟨vo, rfl, hob, hb⟩
      have hB9 : Below w.heap.size w w58 := below_thru hB8 hb
      have hs9 := hB9.size
      have x_r9 : Box w58 (w.heap.size) (Rep.zero.v) := Box.below x_r8 hb
      have x_c9 : Box w58 (b7) (V) := Box.below x_c8 hb
      clear hB8 hs8 x_r8 x_c8
      clear hb
      have JO := IsL.own hob rfl
      clear hob
      go_wp2_with fail
      refine (sameb_tt _ JO (HV.out.below hB9)).mono ?_
      rintro e w69 ⟨rfl, hb⟩
      clear JO
      have hB10 : Below w.heap.size w w69 := below_thru hB9 hb
      have hs10 := hB10.size
      have x_r10 : Box w69 (w.heap.size) (Rep.zero.v) := Box.below x_r9 hb
      have x_c10 : Box w69 (b7) (V) := Box.below x_c9 hb
      clear hB9 hs9 x_r9 x_c9
      clear hb
      have lq := (x_r10).lt
      go_wp2_with (first | (refine wpList_load_box9 rfl _ _ rfl x_c10 rfl Try.underlying26 rfl SV.out ?_) | (refine wpList_store_box (cs := V) rfl _ _ _ rfl x_r10 rfl rfl SV.out LV.out OV.out ?_; intro W99 hW99))
      exact bodyPost_ret (results_box2 Try.results19 hW99.box rfl rfl Try.underlying26 rfl SV.out) rfl ⟨by rw [HVV.out]; rfl, hW99.below _ _ (by omega) hB10⟩
    · skip
      have CK := fun W => rchk_is r (q := 0) (Lib.hid (Or.inl ⟨rfl, hok⟩)) W
      rw [HVV.out] at CK
      have RB := fun W => rbs_is r W
      rw [HVV.out] at RB
      obtain ⟨X, hX⟩ : ∃ X, r.bs = X := ⟨_, rfl⟩
      rw [hX] at RB hbs
      have HBS := Lib.hid hbs
      clear hX
      clear hbs hok hcase HVV
      go_wp2_with (refine wpList_load_box9 rfl _ _ rfl x_c7 rfl Try.underlying26 rfl SV.out ?_)
      refine (CK _).mono ?_
      rintro e w8 ⟨rfl, hb⟩
      clear CK
      have hB8 : Below w.heap.size w w8 := below_thru hB7 hb
      have hs8 := hB8.size
      have x_r8 : Box w8 (w.heap.size) (Rep.zero.v) := Box.below x_r7 hb
      have x_c8 : Box w8 (b7) (V) := Box.below x_c7 hb
      clear hB7 hs7 x_r7 x_c7
      clear hb
      go_wp2_with (refine wpList_load_box9 rfl _ _ rfl x_c8 rfl Try.underlying26 rfl SV.out ?_)
      refine (RB _).mono ?_
      rintro e w58 ⟨vo, rfl, hob, hb⟩
      have hB9 : Below w.heap.size w w58 := below_thru hB8 hb
      have hs9 := hB9.size
      have x_r9 : Box w58 (w.heap.size) (Rep.zero.v) := Box.below x_r8 hb
      have x_c9 : Box w58 (b7) (V) := Box.below x_c8 hb
      clear hB8 hs8 x_r8 x_c8
      clear hb
      have JO := IsL.own hob rfl
      clear hob
      go_wp2_with fail
      refine (sameb_ff _ JO (HV.out.below hB9) HBS.out).mono ?_
      rintro e w69 ⟨rfl, hb⟩
      clear JO
      have hB10 : Below w.heap.size w w69 := below_thru hB9 hb
      have hs10 := hB10.size
      have x_r10 : Box w69 (w.heap.size) (Rep.zero.v) := Box.below x_r9 hb
      have x_c10 : Box w69 (b7) (V) := Box.below x_c9 hb
      clear hB9 hs9 x_r9 x_c9
      clear hb
      have lq := (x_r10).lt
      go_wp2_with (first | (refine wpList_build9 rfl 26 _ rfl (us := #[]) (by rfl) (BZ _) ?_) | (refine wpList_store_box (cs := Rep.zero.v) rfl _ _ _ rfl x_r10 rfl rfl SZ2.out (len_rep Rep.zero Rep.zero) OZ.out ?_; intro W99 hW99))
      exact bodyPost_ret (results_box2 Try.results19 hW99.box rfl rfl Try.underlying26 rfl SZ2.out) rfl ⟨rfl, hW99.below _ _ (by omega) hB10⟩
    · skip
      have CK := fun W => rchk_is r (q := 8) (Lib.hid (Or.inr ⟨rfl, hok⟩)) W
      rw [HVV.out] at CK
      clear hok HVV hcase
      go_wp2_with (refine wpList_load_box9 rfl _ _ rfl x_c7 rfl Try.underlying26 rfl SV.out ?_)
      refine (CK _).mono ?_
      rintro e w8 ⟨rfl, hb⟩
      clear CK
      have hB8 : Below w.heap.size w w8 := below_thru hB7 hb
      have hs8 := hB8.size
      have x_r8 : Box w8 (w.heap.size) (Rep.zero.v) := Box.below x_r7 hb
      have x_c8 : Box w8 (b7) (V) := Box.below x_c7 hb
      clear hB7 hs7 x_r7 x_c7
      clear hb
      have lq := (x_r8).lt
      go_wp2_with (first | (refine wpList_build9 rfl 26 _ rfl (us := #[]) (by rfl) (BZ _) ?_) | (refine wpList_store_box (cs := Rep.zero.v) rfl _ _ _ rfl x_r8 rfl rfl SZ2.out (len_rep Rep.zero Rep.zero) OZ.out ?_; intro W99 hW99))
      exact bodyPost_ret (results_box2 Try.results19 hW99.box rfl rfl Try.underlying26 rfl SZ2.out) rfl ⟨rfl, hW99.below _ _ (by omega) hB8⟩
theorem rpparse_is (bs : List Int) (hb : Byts bs) : ∃ (G : Rep) (q : Int), PParse bs G q ∧ PReads 19 bs G q := by
  by_cases hl : bs.length = 32
  · obtain ⟨r, ec, et, ea, eb, ed, ex, hu⟩ := rep_of bs hl hb
    have go : ∀ {G : Rep} {q : Int}, RCaseP r bs G q → PReads 19 bs G q := fun {G q} h W _ h1 => rpp_32 r hl hb ec et ex ea eb ed h W h1
    by_cases hok : r.Ok
    · by_cases he : r.bs = bs
      · exact ⟨r, 0, Or.inl ⟨rfl, hok, he⟩, go (Or.inl ⟨hok, he, rfl, rfl⟩)⟩
      · exact ⟨Rep.zero, 12, Or.inr ⟨rfl, rfl, fun F _ hF => he (by rw [← hu F hF]; exact hF)⟩, go (Or.inr (Or.inl ⟨hok, he, rfl, rfl⟩))⟩
    · exact ⟨Rep.zero, 12, Or.inr ⟨rfl, rfl, fun F h hF => hok (by rw [← hu F hF]; exact h)⟩, go (Or.inr (Or.inr ⟨hok, rfl, rfl⟩))⟩
  · have d1 : ((bs.length : Int) == 32) = false := beq_false_of_ne (by omega)
    exact ⟨Rep.zero, 12, Or.inr ⟨rfl, rfl, fun F _ hF => hl (by rw [← hF]; exact F.bs_len)⟩, fun W _ h1 => rpp_n d1 W h1⟩
theorem preads_both (bs : List Int) (hb : Byts bs) : ∃ (G : Rep) (q : Int), PParse bs G q ∧ PReads 11 bs G q ∧ PReads 19 bs G q := by
  obtain ⟨G, q, h1, P1⟩ := pparse_is bs hb
  obtain ⟨H, p, h2, P2⟩ := rpparse_is bs hb
  obtain ⟨rfl, rfl⟩ := h1.uniq h2
  exact ⟨G, q, h1, P1, P2⟩

end Go.Proofs.Ytipkgflonioacaa
