/-
  The reference of layer 10, walked: Bytes, Write.
-/
import Derived.Test.YtipkgflonioacaaRRpA
namespace Go.Proofs.Ytipkgflonioacaa
open Go.RowKit

set_option maxRecDepth 100000 in
set_option maxHeartbeats 6400000 in
theorem rbs_is (r : Rep) (w : World) : Calls Try.prog 28 #[.agg r.v.toArray] w (GivesOwn r.bs w) := by
  obtain ⟨ti, hin, hz0, hz1, hz2⟩ := info_parts info_u8'
  have SV := Lib.hid (size_rep r)
  have v0 : r.v[0]? = some (.int .u8 r.c) := rfl
  have v1 : r.v[1]? = some (.int .u32 r.t) := rfl
  have v2 : r.v[2]? = some (.int .u32 r.a) := rfl
  have v3 : r.v[3]? = some (.int .u32 r.b) := rfl
  have v4 : r.v[4]? = some (.int .u32 r.d) := rfl
  have v5 : r.v[5]? = some (.int .u64 r.x) := rfl
  have wr_t : IntKind.u64.wrap r.t = r.t := by have := r.ht; rw [IntKind.wrap_u64]; omega
  have wr_a : IntKind.u64.wrap r.a = r.a := by have := r.ha; rw [IntKind.wrap_u64]; omega
  have wr_b : IntKind.u64.wrap r.b = r.b := by have := r.hb; rw [IntKind.wrap_u64]; omega
  have wr_d : IntKind.u64.wrap r.d = r.d := by have := r.hd; rw [IntKind.wrap_u64]; omega
  have Ct := fun W => rbytes_own r.t 4 W r.ht.1 (by have := r.ht; omega) (by omega); have Lt := Lib.hid (be_len 4 r.t)
  have Ca := fun W => rbytes_own r.a 4 W r.ha.1 (by have := r.ha; omega) (by omega); have La := Lib.hid (be_len 4 r.a)
  have Cb := fun W => rbytes_own r.b 4 W r.hb.1 (by have := r.hb; omega) (by omega); have Lb := Lib.hid (be_len 4 r.b)
  have Cd := fun W => rbytes_own r.d 4 W r.hd.1 (by have := r.hd; omega) (by omega); have Ld := Lib.hid (be_len 4 r.d)
  have Cx := fun W => rbytes_own r.x 8 W r.hx.1 (by have := r.hx; omega) (by omega); have Lx := Lib.hid (be_len 8 r.x)
  have EX : r.bs = [r.c, 0, 0, 0] ++ be 4 r.t ++ be 4 r.a ++ be 4 r.b ++ be 4 r.d ++ be 8 r.x ++ [0, 0, 0, 0] := by unfold Rep.bs; simp
  have HX : Hid (r.bs.length = 4 + 4 + 4 + 4 + 4 + 8 + 4) := Lib.hid r.bs_len
  rw [EX] at HX ⊢
  clear EX
  obtain ⟨Et, hEt⟩ : ∃ X, be 4 r.t = X := ⟨_, rfl⟩
  rw [hEt] at Ct Lt HX ⊢
  obtain ⟨Ea, hEa⟩ : ∃ X, be 4 r.a = X := ⟨_, rfl⟩
  rw [hEa] at Ca La HX ⊢
  obtain ⟨Eb, hEb⟩ : ∃ X, be 4 r.b = X := ⟨_, rfl⟩
  rw [hEb] at Cb Lb HX ⊢
  obtain ⟨Ed, hEd⟩ : ∃ X, be 4 r.d = X := ⟨_, rfl⟩
  rw [hEd] at Cd Ld HX ⊢
  obtain ⟨Ex, hEx⟩ : ∃ X, be 8 r.x = X := ⟨_, rfl⟩
  rw [hEx] at Cx Lx HX ⊢
  have HQt : Hid ([Value.int .u8 r.c, .int .u8 0, .int .u8 0, .int .u8 0] ++ Et.map (Value.int .u8) = ([r.c, 0, 0, 0] ++ Et).map (Value.int .u8)) := Lib.hid rfl
  obtain ⟨Qt, hQt⟩ : ∃ X, [r.c, 0, 0, 0] ++ Et = X := ⟨_, rfl⟩
  rw [hQt] at HQt HX ⊢
  obtain ⟨Qa, hQa⟩ : ∃ X, Qt ++ Ea = X := ⟨_, rfl⟩
  have HQa : Hid (Qt.map (Value.int .u8) ++ Ea.map (Value.int .u8) = Qa.map (Value.int .u8)) := Lib.hid (by rw [← hQa, List.map_append])
  rw [hQa] at HX ⊢
  obtain ⟨Qb, hQb⟩ : ∃ X, Qa ++ Eb = X := ⟨_, rfl⟩
  have HQb : Hid (Qa.map (Value.int .u8) ++ Eb.map (Value.int .u8) = Qb.map (Value.int .u8)) := Lib.hid (by rw [← hQb, List.map_append])
  rw [hQb] at HX ⊢
  obtain ⟨Qd, hQd⟩ : ∃ X, Qb ++ Ed = X := ⟨_, rfl⟩
  have HQd : Hid (Qb.map (Value.int .u8) ++ Ed.map (Value.int .u8) = Qd.map (Value.int .u8)) := Lib.hid (by rw [← hQd, List.map_append])
  rw [hQd] at HX ⊢
  obtain ⟨Qx, hQx⟩ : ∃ X, Qd ++ Ex = X := ⟨_, rfl⟩
  have HQx : Hid (Qd.map (Value.int .u8) ++ Ex.map (Value.int .u8) = Qx.map (Value.int .u8)) := Lib.hid (by rw [← hQx, List.map_append])
  rw [hQx] at HX ⊢
  obtain ⟨Qz, hQz⟩ : ∃ X, Qx ++ [0, 0, 0, 0] = X := ⟨_, rfl⟩
  have HQz : Hid (Qx.map (Value.int .u8) ++ [(0 : Int), 0, 0, 0].map (Value.int .u8) = Qz.map (Value.int .u8)) := Lib.hid (by rw [← hQz, List.map_append])
  rw [hQz] at HX ⊢
  obtain ⟨V, hV⟩ : ∃ V, r.v = V := ⟨_, rfl⟩
  rw [hV] at SV v0 v1 v2 v3 v4 v5 ⊢
  obtain ⟨zc, hzc⟩ : ∃ z, r.c = z := ⟨_, rfl⟩
  obtain ⟨zt, hzt⟩ : ∃ z, r.t = z := ⟨_, rfl⟩
  obtain ⟨za, hza⟩ : ∃ z, r.a = z := ⟨_, rfl⟩
  obtain ⟨zb, hzb⟩ : ∃ z, r.b = z := ⟨_, rfl⟩
  obtain ⟨zd, hzd⟩ : ∃ z, r.d = z := ⟨_, rfl⟩
  obtain ⟨zx, hzx⟩ : ∃ z, r.x = z := ⟨_, rfl⟩
  rw [hzc] at v0 HQt; rw [hzt] at v1 wr_t Ct; rw [hza] at v2 wr_a Ca; rw [hzb] at v3 wr_b Cb; rw [hzd] at v4 wr_d Cd; rw [hzx] at v5 Cx
  clear hV hEt hQt hzt hEa hQa hza hEb hQb hzb hEd hQd hzd hEx hQx hzx hQz hzc
  go_enter Try.func28, Try.ntmps28
  go_upto_region 1 with fail
  refine F_gen (F := fun W => Code.wp _ _ _ _ W) (J := fun W => Box W (w.heap.size) (V) ∧ Below w.heap.size w W) (And.intro (Box.newc rfl rfl) (by go_grown)) ?_
  intro w0 ⟨e_r, hB0⟩
  have hs0 := hB0.size
  have x_r0 := e_r; clear e_r
  go_cut [3] (fun s3 wx => Hid (wx.ownsRow (w.heap.size + 1) 5 1 (s3) (4 + 4) (Qt.map (Value.int .u8))) ∧ Box wx w.heap.size V ∧ Below w.heap.size w wx)
  case first =>
    refine wp_region_held_drew (S := fun W => Box W (w.heap.size) (V)) (by kernel_rfl) (x_r0).drew (fun _ => ?_)
    refine F_drew (F := fun W => wpAnyH _ _ _ _ _ _ _ _ W) ?_
    intro Ws0 hbs0
    clear hs0
    have x_r_s0 : Box Ws0 (w.heap.size) (V) := Box.below x_r0 hbs0
    have Bs0 := below_thru hB0 hbs0
    clear x_r0 hB0 hbs0
    refine takeH 0 5 (v := ?vs0_1) rfl (by rfl) (by kernel_rfl) (by kernel_rfl) (by kernel_rfl) (fun _ _ _ h => h) (Or.inl ⟨by rfl, ?_⟩) (x_r_s0) ?_
    rotate_left
    · intro wq hSq
      go_simp
      exact rfl
    try simp only [Act.put, List.setIfInBounds_toArray, List.set_cons_zero, List.set_cons_succ]
    refine takeH 1 6 (v := ?vs1_2) rfl (by rfl) (by kernel_rfl) (by kernel_rfl) (by kernel_rfl) (fun _ _ _ h => h) (Or.inl ⟨by rfl, ?_⟩) (x_r_s0) ?_
    rotate_left
    · intro wq hSq
      have cq := (hSq).c 0 _ v0
      have zq := lt_of_cell cq
      go_simp
      exact rfl
    try simp only [Act.put, List.setIfInBounds_toArray, List.set_cons_zero, List.set_cons_succ]
    refine takeH 3 8 (v := ?vs3_3) rfl (by rfl) (by kernel_rfl) (by kernel_rfl) (by kernel_rfl) (fun _ _ _ h => h) (Or.inl ⟨by rfl, ?_⟩) (x_r_s0) ?_
    rotate_left
    · intro wq hSq
      go_simp
      exact rfl
    try simp only [Act.put, List.setIfInBounds_toArray, List.set_cons_zero, List.set_cons_succ]
    refine takeH 4 9 (v := ?vs4_4) rfl (by rfl) (by kernel_rfl) (by kernel_rfl) (by kernel_rfl) (fun _ _ _ h => h) (Or.inl ⟨by rfl, ?_⟩) (x_r_s0) ?_
    rotate_left
    · intro wq hSq
      have cq := (hSq).c 1 _ v1
      have zq := lt_of_cell cq
      go_simp
      exact rfl
    try simp only [Act.put, List.setIfInBounds_toArray, List.set_cons_zero, List.set_cons_succ]
    refine takeH 5 10 (v := ?vs5_5) rfl (by rfl) (by kernel_rfl) (by kernel_rfl) (by kernel_rfl) (fun _ _ _ h => h) (Or.inl ⟨by rfl, ?_⟩) (x_r_s0) ?_
    rotate_left
    · intro wq hSq
      go_simp
      exact rfl
    try simp only [Act.put, List.setIfInBounds_toArray, List.set_cons_zero, List.set_cons_succ]
    refine wpAnyH_ready (rs := [2, 6]) (by kernel_rfl) (by simp) (AllReadyH.cons rfl (fun K hK => ?_) (AllReadyH.cons rfl (fun K hK => ?_) AllReadyH.nil))
    · skip
      have pz6 := (x_r_s0).lt
      go_simp
      refine hK.out _ _ (Box.alloc x_r_s0 _) (fun _ => ?_); clear hK K
      refine F_gen (F := fun W => wpAnyH _ _ _ _ _ _ _ _ W) (J := fun W => Hid (W.ownsRow (w.heap.size + 1) 5 1 (.slice (some ⟨Ws0.heap.size, 0, none⟩) 4 4) (4) ([.int .u8 zc, .int .u8 0, .int .u8 0, .int .u8 0])) ∧ Below Ws0.heap.size Ws0 W) (And.intro (Lib.hid (World.ownsRow_lit (base := w.heap.size + 1) (size := 1) (e := 5) Ws0 #[.int .u8 zc, .int .u8 0, .int .u8 0, .int .u8 0] 4 pz6 (by unfold maxLen; omega) rfl)) ((Below.refl _ _).alloc (Nat.le_refl _) _)) ?_
      intro Ws6 ⟨na_q_s6, hbs6⟩
      have x_r_s6 : Box Ws6 (w.heap.size) (V) := Box.below x_r_s0 hbs6
      have Bs6 := below_thru Bs0 hbs6
      clear x_r_s0 Bs0 hbs6
      clear pz6
      refine wpAnyH_ready (rs := [6]) (by kernel_rfl) (by simp) (AllReadyH.cons rfl (fun K hK => ?_) AllReadyH.nil)
      go_simp
      refine (Ct _).mono ?_
      rintro e Ws7 ⟨vb, rfl, hob, hbs7⟩
      have x_r_s7 : Box Ws7 (w.heap.size) (V) := Box.below x_r_s6 hbs7
      have o_q_s7 := Lib.hid (ownR_below na_q_s6.out hbs7)
      have Bs7 := below_thru Bs6 hbs7
      clear x_r_s6 na_q_s6 Bs6 hbs7
      have j_b_s908 : Hid (IsL Ws7 .u8 (vb) (Et)) := Lib.hid (IsL.own hob rfl)
      clear hob
      refine hK.out _ _ x_r_s7 (fun _ => ?_); clear hK K
      refine wpAnyH_ready (rs := [7]) (by kernel_rfl) (by simp) (AllReadyH.cons rfl (fun K hK => ?_) AllReadyH.nil)
      have zz9 : w.heap.size + 1 ≤ Ws7.heap.size := (x_r_s7).lt
      refine step_append_intsG 12 rfl rfl _ _ 31 rfl (w.heap.size + 1) 5 ti _ 1 .u8 Try.underlying31 hin hz0 hz1 hz2 rfl _ (4) _ rfl o_q_s7.out _ (Et) rfl j_b_s908.out (by unfold maxLen; rw [Lt.out]; decide) (by rw [Lt.out]; decide) zz9 ?_
      intro vs9 Ws9 hown hgr
      have hKB := (Below.refl (w.heap.size + 1) _).grown hgr zz9 (ownR_block o_q_s7.out)
      have x_r_s9 : Box Ws9 (w.heap.size) (V) := Box.keepR x_r_s7 hKB (by omega)
      rw [Lt.out, HQt.out] at hown
      have o_q_s9 := Lib.hid hown
      have Bs9 := (Bs7).trans (hKB.mono (by omega))
      clear x_r_s7 o_q_s7 j_b_s908 Bs7 hown hgr hKB zz9
      refine hK.out _ _ x_r_s9 (fun _ => ?_); clear hK K
      refine takeH 8 3 (v := ?vs8_10) rfl (by rfl) (by kernel_rfl) (by kernel_rfl) (by kernel_rfl) (fun _ _ _ h => h) (Or.inl ⟨by rfl, ?_⟩) (x_r_s9) ?_
      rotate_left
      · intro wq hSq
        go_simp
        exact rfl
      try simp only [Act.put, List.setIfInBounds_toArray, List.set_cons_zero, List.set_cons_succ]
      refine wpAnyH_done (by kernel_rfl) ?_ _
      have ho := o_q_s9
      go_wp2_with fail
      go_meet
      exact ⟨ho, x_r_s9, Bs9⟩
    · skip
      go_simp
      refine (Ct _).mono ?_
      rintro e Ws11 ⟨vb, rfl, hob, hbs11⟩
      have x_r_s11 : Box Ws11 (w.heap.size) (V) := Box.below x_r_s0 hbs11
      have Bs11 := below_thru Bs0 hbs11
      clear x_r_s0 Bs0 hbs11
      have j_b_s912 : Hid (IsL Ws11 .u8 (vb) (Et)) := Lib.hid (IsL.own hob rfl)
      clear hob
      refine hK.out _ _ x_r_s11 (fun _ => ?_); clear hK K
      refine wpAnyH_ready (rs := [2]) (by kernel_rfl) (by simp) (AllReadyH.cons rfl (fun K hK => ?_) AllReadyH.nil)
      have pz13 := (x_r_s11).lt
      go_simp
      refine hK.out _ _ (Box.alloc x_r_s11 _) (fun _ => ?_); clear hK K
      refine F_gen (F := fun W => wpAnyH _ _ _ _ _ _ _ _ W) (J := fun W => Hid (W.ownsRow (w.heap.size + 1) 5 1 (.slice (some ⟨Ws11.heap.size, 0, none⟩) 4 4) (4) ([.int .u8 zc, .int .u8 0, .int .u8 0, .int .u8 0])) ∧ Below Ws11.heap.size Ws11 W) (And.intro (Lib.hid (World.ownsRow_lit (base := w.heap.size + 1) (size := 1) (e := 5) Ws11 #[.int .u8 zc, .int .u8 0, .int .u8 0, .int .u8 0] 4 pz13 (by unfold maxLen; omega) rfl)) ((Below.refl _ _).alloc (Nat.le_refl _) _)) ?_
      intro Ws13 ⟨na_q_s13, hbs13⟩
      have x_r_s13 : Box Ws13 (w.heap.size) (V) := Box.below x_r_s11 hbs13
      have j_b_s13 := Lib.hid (IsL.below j_b_s912.out hbs13)
      have Bs13 := below_thru Bs11 hbs13
      clear x_r_s11 j_b_s912 Bs11 hbs13
      clear pz13
      refine wpAnyH_ready (rs := [7]) (by kernel_rfl) (by simp) (AllReadyH.cons rfl (fun K hK => ?_) AllReadyH.nil)
      have zz14 : w.heap.size + 1 ≤ Ws13.heap.size := (x_r_s13).lt
      refine step_append_intsG 12 rfl rfl _ _ 31 rfl (w.heap.size + 1) 5 ti _ 1 .u8 Try.underlying31 hin hz0 hz1 hz2 rfl _ (4) _ rfl na_q_s13.out _ (Et) rfl j_b_s13.out (by unfold maxLen; rw [Lt.out]; decide) (by rw [Lt.out]; decide) zz14 ?_
      intro vs14 Ws14 hown hgr
      have hKB := (Below.refl (w.heap.size + 1) _).grown hgr zz14 (ownR_block na_q_s13.out)
      have x_r_s14 : Box Ws14 (w.heap.size) (V) := Box.keepR x_r_s13 hKB (by omega)
      rw [Lt.out, HQt.out] at hown
      have o_q_s14 := Lib.hid hown
      have Bs14 := (Bs13).trans (hKB.mono (by omega))
      clear x_r_s13 na_q_s13 j_b_s13 Bs13 hown hgr hKB zz14
      refine hK.out _ _ x_r_s14 (fun _ => ?_); clear hK K
      refine takeH 8 3 (v := ?vs8_15) rfl (by rfl) (by kernel_rfl) (by kernel_rfl) (by kernel_rfl) (fun _ _ _ h => h) (Or.inl ⟨by rfl, ?_⟩) (x_r_s14) ?_
      rotate_left
      · intro wq hSq
        go_simp
        exact rfl
      try simp only [Act.put, List.setIfInBounds_toArray, List.set_cons_zero, List.set_cons_succ]
      refine wpAnyH_done (by kernel_rfl) ?_ _
      have ho := o_q_s14
      go_wp2_with fail
      go_meet
      exact ⟨ho, x_r_s14, Bs14⟩
  case rest =>
    obtain ⟨O_q1, x_r1, hB1⟩ := hcut
    clear x_r0 hB0 hs0
    have hs1 := hB1.size
    go_wp2_with fail
    refine wp_loop_rounds 5 ?_
    rw [rounds_succ]
    have cy := (x_r1).c 2 _ v2
    have zy := (x_r1).lt
    go_wp2_with fail
    refine (Ca _).mono ?_
    rintro e b2 ⟨vb2, rfl, hob, hb⟩
    have O_q2 : Hid (b2.ownsRow (w.heap.size + 1) 5 1 (u3) (4 + 4) (Qt.map (Value.int .u8))) := Lib.hid (ownR_below O_q1.out hb)
    clear O_q1
    have hB2 : Below w.heap.size w b2 := below_thru hB1 hb
    have hs2 := hB2.size
    have x_r2 : Box b2 (w.heap.size) (V) := Box.below x_r1 hb
    clear hB1 hs1 x_r1
    clear hb
    have hT := IsL.own hob rfl
    obtain ⟨at2, ct2, rfl, iT, zT⟩ := hT
    clear hob
    have zz := (x_r2).lt
    clear cy zy
    go_upto_region 4 with (at_builtin; refine wpList_append_ints rfl _ _ 31 rfl (w.heap.size + 1) 5 ti _ 1 .u8 Try.underlying31 hin hz0 hz1 hz2 rfl _ (4 + 4) _ rfl O_q2.out at2 ct2 Ea rfl iT zT (by unfold maxLen; rw [La.out]; decide) (by rw [La.out]; decide) zz ?_; intro rv3 a3 hown hgr)
    have hKB := (Below.refl (w.heap.size + 1) _).grown hgr zz (ownR_block O_q2.out)
    have x_r3 : Box a3 w.heap.size V := Box.keepR x_r2 hKB (Nat.lt_succ_self _); have hB3 := (hB2).trans (hKB.mono (Nat.le_succ _)); have hs3 := hB3.size
    rw [La.out, HQa.out] at hown; have O_q3 := Lib.hid hown
    clear hown hgr hKB iT zT zz O_q2 x_r2 hB2 hs2
    go_wp2_with fail
    rw [rounds_succ]
    have cy := (x_r3).c 3 _ v3
    have zy := (x_r3).lt
    go_wp2_with fail
    refine (Cb _).mono ?_
    rintro e b4 ⟨vb4, rfl, hob, hb⟩
    have O_q4 : Hid (b4.ownsRow (w.heap.size + 1) 5 1 (rv3) (4 + 4 + 4) (Qa.map (Value.int .u8))) := Lib.hid (ownR_below O_q3.out hb)
    clear O_q3
    have hB4 : Below w.heap.size w b4 := below_thru hB3 hb
    have hs4 := hB4.size
    have x_r4 : Box b4 (w.heap.size) (V) := Box.below x_r3 hb
    clear hB3 hs3 x_r3
    clear hb
    have hT := IsL.own hob rfl
    obtain ⟨at4, ct4, rfl, iT, zT⟩ := hT
    clear hob
    have zz := (x_r4).lt
    clear cy zy
    go_upto_region 4 with (at_builtin; refine wpList_append_ints rfl _ _ 31 rfl (w.heap.size + 1) 5 ti _ 1 .u8 Try.underlying31 hin hz0 hz1 hz2 rfl _ (4 + 4 + 4) _ rfl O_q4.out at4 ct4 Eb rfl iT zT (by unfold maxLen; rw [Lb.out]; decide) (by rw [Lb.out]; decide) zz ?_; intro rv5 a5 hown hgr)
    have hKB := (Below.refl (w.heap.size + 1) _).grown hgr zz (ownR_block O_q4.out)
    have x_r5 : Box a5 w.heap.size V := Box.keepR x_r4 hKB (Nat.lt_succ_self _); have hB5 := (hB4).trans (hKB.mono (Nat.le_succ _)); have hs5 := hB5.size
    rw [Lb.out, HQb.out] at hown; have O_q5 := Lib.hid hown
    clear hown hgr hKB iT zT zz O_q4 x_r4 hB4 hs4
    go_wp2_with fail
    rw [rounds_succ]
    have cy := (x_r5).c 4 _ v4
    have zy := (x_r5).lt
    go_wp2_with fail
    refine (Cd _).mono ?_
    rintro e b6 ⟨vb6, rfl, hob, hb⟩
    have O_q6 : Hid (b6.ownsRow (w.heap.size + 1) 5 1 (rv5) (4 + 4 + 4 + 4) (Qb.map (Value.int .u8))) := Lib.hid (ownR_below O_q5.out hb)
    clear O_q5
    have hB6 : Below w.heap.size w b6 := below_thru hB5 hb
    have hs6 := hB6.size
    have x_r6 : Box b6 (w.heap.size) (V) := Box.below x_r5 hb
    clear hB5 hs5 x_r5
    clear hb
    have hT := IsL.own hob rfl
    obtain ⟨at6, ct6, rfl, iT, zT⟩ := hT
    clear hob
    have zz := (x_r6).lt
    clear cy zy
    go_upto_region 4 with (at_builtin; refine wpList_append_ints rfl _ _ 31 rfl (w.heap.size + 1) 5 ti _ 1 .u8 Try.underlying31 hin hz0 hz1 hz2 rfl _ (4 + 4 + 4 + 4) _ rfl O_q6.out at6 ct6 Ed rfl iT zT (by unfold maxLen; rw [Ld.out]; decide) (by rw [Ld.out]; decide) zz ?_; intro rv7 a7 hown hgr)
    have hKB := (Below.refl (w.heap.size + 1) _).grown hgr zz (ownR_block O_q6.out)
    have x_r7 : Box a7 w.heap.size V := Box.keepR x_r6 hKB (Nat.lt_succ_self _); have hB7 := (hB6).trans (hKB.mono (Nat.le_succ _)); have hs7 := hB7.size
    rw [Ld.out, HQd.out] at hown; have O_q7 := Lib.hid hown
    clear hown hgr hKB iT zT zz O_q6 x_r6 hB6 hs6
    go_wp2_with fail
    rw [rounds_succ]
    have cy := (x_r7).c 5 _ v5; have zy := (x_r7).lt
    go_wp2_with fail
    refine (Cx _).mono ?_
    rintro e b8 ⟨vb8, rfl, hob, hb⟩
    have O_q8 : Hid (b8.ownsRow (w.heap.size + 1) 5 1 (rv7) (4 + 4 + 4 + 4 + 4) (Qd.map (Value.int .u8))) := Lib.hid (ownR_below O_q7.out hb)
    clear O_q7
    have hB8 : Below w.heap.size w b8 := below_thru hB7 hb
    have hs8 := hB8.size
    have x_r8 : Box b8 (w.heap.size) (V) := Box.below x_r7 hb
    clear hB7 hs7 x_r7
    clear hb
    have hT := IsL.own hob rfl
    obtain ⟨at8, ct8, rfl, iT, zT⟩ := hT
    clear hob
    have zz := (x_r8).lt
    go_wp2_with (first | (at_builtin; refine wpList_append_ints rfl _ _ 31 rfl (w.heap.size + 1) 5 ti _ 1 .u8 Try.underlying31 hin hz0 hz1 hz2 rfl _ (4 + 4 + 4 + 4 + 4 + 8) _ rfl O10 _ 4 [0, 0, 0, 0] rfl ((IsL.built [0, 0, 0, 0] rfl rfl rfl rfl (by simp)).ints) (fun h => by cases h) (by unfold maxLen; simp) (by simp) (by simp; omega) ?_; intro v99 a99 hown99 hgr99) | (at_builtin; refine wpList_append_ints rfl _ _ 31 rfl (w.heap.size + 1) 5 ti _ 1 .u8 Try.underlying31 hin hz0 hz1 hz2 rfl _ (4 + 4 + 4 + 4 + 4) _ rfl O_q8.out at8 ct8 Ex rfl iT zT (by unfold maxLen; rw [Lx.out]; decide) (by rw [Lx.out]; decide) zz ?_; intro rv9 a9 hown hgr; have O9 := hown; rw [Lx.out, HQx.out] at O9; have hKB := (Below.refl (w.heap.size + 1) _).grown hgr zz (ownR_block O_q8.out); have B9 := (hB8).trans (hKB.mono (Nat.le_succ _)); have z9 := hKB.size; have O10 := ownR_below O9 ((Below.refl _ _).alloc (Nat.le_refl _) (.cells #[.int .u8 0, .int .u8 0, .int .u8 0, .int .u8 0] 5)); clear hown hgr))
    have hB99 : Below w.heap.size w a99 := (B9.alloc (by omega) _).trans ((Below.refl (w.heap.size + 1) _).grown hgr99 (by simp; omega) (ownR_block O10) |>.mono (Nat.le_succ _))
    rw [HQz.out] at hown99
    go_returns
    exact ⟨v99, rfl, ownR_base (by rw [HX.out]; exact hown99) (by omega), hB99⟩
set_option maxRecDepth 100000 in
set_option maxHeartbeats 6400000 in
theorem rpwr_f (r : Rep) (h : ¬ r.Ok) (w : World) : Calls Try.prog 16 #[.agg r.v.toArray] w (GivesOE [] 8 w) := by
  have SV := Lib.hid (size_rep r)
  have CK := fun W => rchk_is r (q := 8) (Lib.hid (Or.inr ⟨rfl, h⟩)) W
  obtain ⟨V, hV⟩ : ∃ V, r.v = V := ⟨_, rfl⟩
  rw [hV] at SV CK ⊢
  clear hV h
  go_enter Try.func16, Try.ntmps16
  go_upto_region 1 with fail
  refine F_gen (F := fun W => Code.wp _ _ _ _ W) (J := fun W => Box W (w.heap.size) (V) ∧ Below w.heap.size w W) (And.intro (Box.newc rfl rfl) (by go_grown)) ?_
  intro w0 ⟨e_r, hB0⟩
  have hs0 := hB0.size
  have x_r0 := e_r; clear e_r
  go_wp2_with (refine wpList_load_box9 rfl _ _ rfl x_r0 rfl Try.underlying26 rfl SV.out ?_)
  refine (CK _).mono ?_
  rintro e w1 ⟨rfl, hb⟩
  have hB1 : Below w.heap.size w w1 := below_thru hB0 hb
  have hs1 := hB1.size
  have x_r1 : Box w1 (w.heap.size) (V) := Box.below x_r0 hb
  clear hB0 hs0 x_r0
  clear hb
  go_wp2_with (refine wpList_load_box9 rfl _ _ rfl x_r1 rfl Try.underlying26 rfl SV.out ?_)
  refine (CK _).mono ?_
  rintro e w2 ⟨rfl, hb⟩
  have hB2 : Below w.heap.size w w2 := below_thru hB1 hb
  have hs2 := hB2.size
  have x_r2 : Box w2 (w.heap.size) (V) := Box.below x_r1 hb
  clear hB1 hs1 x_r1
  clear hb
  go_wp2_with fail
  go_returns
  exact ⟨_, rfl, ownU_nil, hB2⟩
set_option maxRecDepth 100000 in
set_option maxHeartbeats 6400000 in
theorem rpwr_t (r : Rep) (h : r.Ok) (w : World) : Calls Try.prog 16 #[.agg r.v.toArray] w (GivesOE r.bs 0 w) := by
  have SV := Lib.hid (size_rep r)
  have CK := fun W => rchk_is r (q := 0) (Lib.hid (Or.inl ⟨rfl, h⟩)) W
  have CB := fun W => rbs_is r W
  obtain ⟨X, hX⟩ : ∃ X, r.bs = X := ⟨_, rfl⟩
  rw [hX] at CB ⊢
  clear hX
  obtain ⟨V, hV⟩ : ∃ V, r.v = V := ⟨_, rfl⟩
  rw [hV] at SV CK CB ⊢
  clear hV h
  go_enter Try.func16, Try.ntmps16
  go_upto_region 1 with fail
  refine F_gen (F := fun W => Code.wp _ _ _ _ W) (J := fun W => Box W (w.heap.size) (V) ∧ Below w.heap.size w W) (And.intro (Box.newc rfl rfl) (by go_grown)) ?_
  intro w0 ⟨e_r, hB0⟩
  have hs0 := hB0.size
  have x_r0 := e_r; clear e_r
  go_wp2_with (refine wpList_load_box9 rfl _ _ rfl x_r0 rfl Try.underlying26 rfl SV.out ?_)
  refine (CK _).mono ?_
  rintro e w1 ⟨rfl, hb⟩
  have hB1 : Below w.heap.size w w1 := below_thru hB0 hb
  have hs1 := hB1.size
  have x_r1 : Box w1 (w.heap.size) (V) := Box.below x_r0 hb
  clear hB0 hs0 x_r0
  clear hb
  go_wp2_with (refine wpList_load_box9 rfl _ _ rfl x_r1 rfl Try.underlying26 rfl SV.out ?_)
  refine (CB _).mono ?_
  rintro e w9 ⟨v, rfl, ho, hb⟩
  have ho := ownR_base ho hs1; have hB9 := below_thru hB1 hb
  go_wp2_with fail
  go_returns
  exact ⟨v, rfl, ho, hB9⟩
theorem rpwr_is (r : Rep) {xs : List Int} {q : Int} (h : (q = 0 ∧ r.Ok ∧ xs = r.bs) ∨ (q = 8 ∧ ¬ r.Ok ∧ xs = [])) (w : World) : Calls Try.prog 16 #[.agg r.v.toArray] w (GivesOE xs q w) := by
  rcases h with ⟨rfl, h, rfl⟩ | ⟨rfl, h, rfl⟩
  · exact rpwr_t r h w
  · exact rpwr_f r h w

end Go.Proofs.Ytipkgflonioacaa
