/-
  Package frame, walked: commandOf.
-/
import Derived.Test.YtkpdlbcmnfphmaaFmI
namespace Go.Proofs.Ytkpdlbcmnfphmaa
open Go.RowKit

theorem fdN_n {k n : Int} (hk : 0 ≤ k ∧ k ≤ 255) (hn : 0 ≤ n ∧ n ≤ 18446744073709551615) : (fdN k n).n = n := by rw [fdN_is hk hn]; rfl
theorem crow_flat (c : Cmd) : (flatR LF (crow c)).length = 544 := by
  have h : (crow c).length = 16 := rfl
  rw [flatR_len, h, show LF.s = 34 from rfl]
theorem grow9_x (c : Cmd) : (flatR LF (grow9 c))[511]? = some (.int .u64 c.x) := by
  have := flatR_at (L := LF) (xs := grow9 c) (i := 15) (j := 1) (v := .int .u64 c.x) rfl (by show (fdN 5 c.x).v[1]? = _; rw [fdN_v (by decide) c.hx]; rfl)
  exact this
theorem grow9_g (c : Cmd) : (flatR LF (grow9 c)).drop 546 = c.g.map (Value.int .u8) ++ [] := by
  unfold grow9
  rw [flatR_app, flatR_one, List.append_nil]
  have e : (546 : Nat) = (flatR LF (crow c)).length + 2 := by rw [crow_flat]
  rw [e, List.drop_append, List.drop_of_length_le (by omega), Nat.add_sub_cancel_left]
  rfl
/-- A command with its first numbers alone. -/
def Cmd.k0 (c : Cmd) : Cmd := ⟨c.op, c.t, c.u, Lm.zero, Lm.zero, Lm.zero, 0, 0, 0, zeroD, c.hop, c.ht, c.hu, by decide, by decide, by decide, zeroD_len, zeroD_byts⟩
set_option maxRecDepth 100000 in
theorem build_k0 (op t u : Int) (W : World) : (Instr.build 31 #[(0, .int .u8 op), (1, .int .u32 t), (2, .int .u32 u)]).run Try.prog W =
    .ok (.agg (.int .u8 op :: .int .u32 t :: .int .u32 u :: .int .i64 0 :: .int .i64 0 :: .int .i64 0 :: .int .i64 0 :: .int .i64 0 :: .int .i64 0 :: .int .i64 0 :: .int .i64 0 :: .int .i64 0 :: .int .u8 0 :: .int .u8 0 :: .int .u64 0 :: zeroD.map (Value.int .u8)).toArray) W := by kernel_rfl
theorem build_lm (b r p : Int) (W : World) : (Instr.build 24 #[(0, .int .i64 b), (1, .int .i64 r), (2, .int .i64 p)]).run Try.prog W = .ok (.agg #[.int .i64 b, .int .i64 r, .int .i64 p]) W := by kernel_rfl
theorem size_row : (Try.prog.info? 85).map (·.size) = some 1 := by kernel_rfl

set_option maxRecDepth 100000 in
set_option maxHeartbeats 12800000 in
theorem cmdof_is (c : Cmd) (hw : c.wd) {v : Value} (w : World) (h1 : IsL w .u8 v (c.msg ++ c.g)) : Calls Try.prog 44 #[v] w fun e w' => e = .returned (.agg (ccell c).toArray) ∧ Below w.heap.size w w' := by
  have HV := Lib.hid h1
  clear h1
  have KI := fun W => ck_is W
  have RD := fun (W : World) (a b : Value) (h1 : IsL W .u8 a kin9) (h2 : IsL W .u8 b (c.msg ++ c.g)) => read_is W h1 h2 (by decide) (c.msg_byts.append c.hgb)
  rw [(rea9 hw).1, (rea9 hw).2] at RD
  have E1 : ∃ f, (grow9 c)[1]? = some f ∧ f.n = c.op ∧ f.n ≤ 4294967295 := ⟨fdN 2 c.op, rfl, fdN_n (by decide) (k8 c.hop), (by rw [fdN_n (by decide) (k8 c.hop)]; have := c.hop; omega)⟩
  have E2 : ∃ f, (grow9 c)[2]? = some f ∧ f.n = c.t ∧ f.n ≤ 4294967295 := ⟨fdN 4 c.t, rfl, fdN_n (by decide) (k32 c.ht), (by rw [fdN_n (by decide) (k32 c.ht)]; have := c.ht; omega)⟩
  have E3 : ∃ f, (grow9 c)[3]? = some f ∧ f.n = c.u ∧ f.n ≤ 4294967295 := ⟨fdN 4 c.u, rfl, fdN_n (by decide) (k32 c.hu), (by rw [fdN_n (by decide) (k32 c.hu)]; have := c.hu; omega)⟩
  have E4 : ∃ f, (grow9 c)[4]? = some f ∧ f.n = c.l0.b ∧ f.n ≤ 4294967295 := ⟨fdN 4 c.l0.b, rfl, fdN_n (by decide) (k32 hw.1.1), (by rw [fdN_n (by decide) (k32 hw.1.1)]; have := hw.1.1; omega)⟩
  have E5 : ∃ f, (grow9 c)[5]? = some f ∧ f.n = c.l0.r ∧ f.n ≤ 4294967295 := ⟨fdN 4 c.l0.r, rfl, fdN_n (by decide) (k32 hw.1.2.1), (by rw [fdN_n (by decide) (k32 hw.1.2.1)]; have := hw.1.2.1; omega)⟩
  have E6 : ∃ f, (grow9 c)[6]? = some f ∧ f.n = c.l0.p ∧ f.n ≤ 4294967295 := ⟨fdN 4 c.l0.p, rfl, fdN_n (by decide) (k32 hw.1.2.2), (by rw [fdN_n (by decide) (k32 hw.1.2.2)]; have := hw.1.2.2; omega)⟩
  have E7 : ∃ f, (grow9 c)[7]? = some f ∧ f.n = c.l1.b ∧ f.n ≤ 4294967295 := ⟨fdN 4 c.l1.b, rfl, fdN_n (by decide) (k32 hw.2.1.1), (by rw [fdN_n (by decide) (k32 hw.2.1.1)]; have := hw.2.1.1; omega)⟩
  have E8 : ∃ f, (grow9 c)[8]? = some f ∧ f.n = c.l1.r ∧ f.n ≤ 4294967295 := ⟨fdN 4 c.l1.r, rfl, fdN_n (by decide) (k32 hw.2.1.2.1), (by rw [fdN_n (by decide) (k32 hw.2.1.2.1)]; have := hw.2.1.2.1; omega)⟩
  have E9 : ∃ f, (grow9 c)[9]? = some f ∧ f.n = c.l1.p ∧ f.n ≤ 4294967295 := ⟨fdN 4 c.l1.p, rfl, fdN_n (by decide) (k32 hw.2.1.2.2), (by rw [fdN_n (by decide) (k32 hw.2.1.2.2)]; have := hw.2.1.2.2; omega)⟩
  have E10 : ∃ f, (grow9 c)[10]? = some f ∧ f.n = c.l2.b ∧ f.n ≤ 4294967295 := ⟨fdN 4 c.l2.b, rfl, fdN_n (by decide) (k32 hw.2.2.1), (by rw [fdN_n (by decide) (k32 hw.2.2.1)]; have := hw.2.2.1; omega)⟩
  have E11 : ∃ f, (grow9 c)[11]? = some f ∧ f.n = c.l2.r ∧ f.n ≤ 4294967295 := ⟨fdN 4 c.l2.r, rfl, fdN_n (by decide) (k32 hw.2.2.2.1), (by rw [fdN_n (by decide) (k32 hw.2.2.2.1)]; have := hw.2.2.2.1; omega)⟩
  have E12 : ∃ f, (grow9 c)[12]? = some f ∧ f.n = c.l2.p ∧ f.n ≤ 4294967295 := ⟨fdN 4 c.l2.p, rfl, fdN_n (by decide) (k32 hw.2.2.2.2), (by rw [fdN_n (by decide) (k32 hw.2.2.2.2)]; have := hw.2.2.2.2; omega)⟩
  have E13 : ∃ f, (grow9 c)[13]? = some f ∧ f.n = c.us ∧ f.n ≤ 4294967295 := ⟨fdN 2 c.us, rfl, fdN_n (by decide) (k8 c.hus), (by rw [fdN_n (by decide) (k8 c.hus)]; have := c.hus; omega)⟩
  have E14 : ∃ f, (grow9 c)[14]? = some f ∧ f.n = c.en ∧ f.n ≤ 4294967295 := ⟨fdN 2 c.en, rfl, fdN_n (by decide) (k8 c.hen), (by rw [fdN_n (by decide) (k8 c.hen)]; have := c.hen; omega)⟩
  have wop : IntKind.u8.wrap c.op = c.op := by have := c.hop; rw [IntKind.wrap_u8]; omega
  have wus : IntKind.u8.wrap c.us = c.us := by have := c.hus; rw [IntKind.wrap_u8]; omega
  have wen : IntKind.u8.wrap c.en = c.en := by have := c.hen; rw [IntKind.wrap_u8]; omega
  have wt : IntKind.u32.wrap c.t = c.t := by have := c.ht; rw [IntKind.wrap_u32]; omega
  have wu : IntKind.u32.wrap c.u = c.u := by have := c.hu; rw [IntKind.wrap_u32]; omega
  have g15 := grow9_x c; have DG := Lib.hid (grow9_g c); have SG := Lib.hid (size_dg9 c.hg); have HG := Lib.hid c.hg
  have OG := Lib.hid (oneCell_ints (k := .u8) c.g)
  have BK := fun W => build_k0 c.op c.t c.u W
  have S0 := Lib.hid (size_cmd c.k0); have L0 := Lib.hid (len_cmd Cmd.zero c.k0); have O0 := Lib.hid (one_cmd c.k0)
  have SF := Lib.hid (size_cmd c); have LF9 := Lib.hid (len_cmd Cmd.zero c); have OF := Lib.hid (one_cmd c); have SZ := Lib.hid (size_cmd Cmd.zero)
  have U0e : ccell c.k0 = .int .u8 c.op :: .int .u32 c.t :: .int .u32 c.u :: .int .i64 0 :: .int .i64 0 :: .int .i64 0 :: .int .i64 0 :: .int .i64 0 :: .int .i64 0 :: .int .i64 0 :: .int .i64 0 :: .int .i64 0 :: .int .u8 0 :: .int .u8 0 :: .int .u64 0 :: zeroD.map (Value.int .u8) := rfl
  rw [← U0e] at BK
  clear U0e
  have N0 : Hid ((ccell c.k0).length = 47) := Lib.hid (ccell_len _)
  have BL0 := fun W => build_lm c.l0.b c.l0.r c.l0.p W
  have SM0 := Lib.hid (size_lm c.l0); have OM0 := Lib.hid (one_lm c.l0); have NM0 : Hid (c.l0.v.length = 3) := Lib.hid rfl
  obtain ⟨U1, W1⟩ : ∃ U, Hid (U = (ccell c.k0).take 3 ++ c.l0.v ++ (ccell c.k0).drop (3 + c.l0.v.length)) := ⟨_, Lib.hid rfl⟩
  have N1 : Hid (U1.length = 47) := Lib.hid (by rw [W1.out]; have := N0.out; simp only [List.length_append, List.length_take, List.length_drop, this, NM0.out]; rfl)
  have BL1 := fun W => build_lm c.l1.b c.l1.r c.l1.p W
  have SM1 := Lib.hid (size_lm c.l1); have OM1 := Lib.hid (one_lm c.l1); have NM1 : Hid (c.l1.v.length = 3) := Lib.hid rfl
  obtain ⟨U2, W2⟩ : ∃ U, Hid (U = (U1).take 6 ++ c.l1.v ++ (U1).drop (6 + c.l1.v.length)) := ⟨_, Lib.hid rfl⟩
  have N2 : Hid (U2.length = 47) := Lib.hid (by rw [W2.out]; have := N1.out; simp only [List.length_append, List.length_take, List.length_drop, this, NM1.out]; rfl)
  have BL2 := fun W => build_lm c.l2.b c.l2.r c.l2.p W
  have SM2 := Lib.hid (size_lm c.l2); have OM2 := Lib.hid (one_lm c.l2); have NM2 : Hid (c.l2.v.length = 3) := Lib.hid rfl
  obtain ⟨U3, W3⟩ : ∃ U, Hid (U = (U2).take 9 ++ c.l2.v ++ (U2).drop (9 + c.l2.v.length)) := ⟨_, Lib.hid rfl⟩
  have N3 : Hid (U3.length = 47) := Lib.hid (by rw [W3.out]; have := N2.out; simp only [List.length_append, List.length_take, List.length_drop, this, NM2.out]; rfl)
  obtain ⟨U4, W4⟩ : ∃ U, Hid (U = U3.set 12 (.int .u8 c.us)) := ⟨_, Lib.hid rfl⟩
  obtain ⟨U5, W5⟩ : ∃ U, Hid (U = U4.set 13 (.int .u8 c.en)) := ⟨_, Lib.hid rfl⟩
  obtain ⟨U6, W6⟩ : ∃ U, Hid (U = U5.set 14 (.int .u64 c.x)) := ⟨_, Lib.hid rfl⟩
  have N4 : Hid (U4.length = 47) := Lib.hid (by rw [W4.out, List.length_set, N3.out])
  have N5 : Hid (U5.length = 47) := Lib.hid (by rw [W5.out, List.length_set, N4.out])
  have N6 : Hid (U6.length = 47) := Lib.hid (by rw [W6.out, List.length_set, N5.out])
  have W7 : Hid (ccell c = U6.take 15 ++ c.g.map (Value.int .u8) ++ U6.drop (15 + (c.g.map (Value.int .u8)).length)) := Lib.hid (by rw [List.length_map, c.hg, List.drop_of_length_le (by rw [N6.out]; omega), W6.out, W5.out, W4.out, W3.out, W2.out, W1.out]; simp [ccell, Cmd.k0, Lm.v])
  obtain ⟨FR, hFR⟩ : ∃ X, flatR LF (grow9 c) = X := ⟨_, rfl⟩
  have hfl : (grow9 c).length = 17 := rfl
  obtain ⟨fs, hfs⟩ : ∃ X, grow9 c = X := ⟨_, rfl⟩
  obtain ⟨bs, hbs⟩ : ∃ X, c.msg ++ c.g = X := ⟨_, rfl⟩
  rw [hFR] at g15 DG
  rw [hfs] at RD hFR hfl E1 E2 E3 E4 E5 E6 E7 E8 E9 E10 E11 E12 E13 E14
  rw [hbs] at HV RD
  obtain ⟨U0, hU0⟩ : ∃ V, ccell c.k0 = V := ⟨_, rfl⟩
  obtain ⟨F, hF⟩ : ∃ V, ccell c = V := ⟨_, rfl⟩
  obtain ⟨G, hG⟩ : ∃ V, c.g.map (Value.int .u8) = V := ⟨_, rfl⟩
  have NG : Hid ((c.g.map (Value.int .u8)).length = 32) := Lib.hid (by rw [List.length_map, c.hg])
  rw [hU0] at BK S0 L0 O0 N0 W1
  rw [hF] at SF LF9 OF W7 ⊢
  rw [hG] at DG SG OG W7 NG
  have EM0 : (c.l0.v).toArray = #[.int .i64 c.l0.b, .int .i64 c.l0.r, .int .i64 c.l0.p] := rfl
  rw [← EM0] at BL0; clear EM0
  obtain ⟨M0, hM0⟩ : ∃ V, c.l0.v = V := ⟨_, rfl⟩
  rw [hM0] at BL0 SM0 OM0 NM0 W1
  have EM1 : (c.l1.v).toArray = #[.int .i64 c.l1.b, .int .i64 c.l1.r, .int .i64 c.l1.p] := rfl
  rw [← EM1] at BL1; clear EM1
  obtain ⟨M1, hM1⟩ : ∃ V, c.l1.v = V := ⟨_, rfl⟩
  rw [hM1] at BL1 SM1 OM1 NM1 W2
  have EM2 : (c.l2.v).toArray = #[.int .i64 c.l2.b, .int .i64 c.l2.r, .int .i64 c.l2.p] := rfl
  rw [← EM2] at BL2; clear EM2
  obtain ⟨M2, hM2⟩ : ∃ V, c.l2.v = V := ⟨_, rfl⟩
  rw [hM2] at BL2 SM2 OM2 NM2 W3
  have HFR := Lib.hid hFR; have HFL := Lib.hid hfl
  clear hw hfs hbs hU0 hF hG hM0 hM1 hM2 hFR hfl
  go_enter Try.func44, Try.ntmps44
  go_upto_region 1 with fail
  refine F_gen (F := fun W => Code.wp _ _ _ _ W) (J := fun W => Box W (w.heap.size) (ccell Cmd.zero) ∧ Below w.heap.size w W) (And.intro (Box.newc rfl rfl) (by go_grown)) ?_
  intro w0 ⟨e_r, hB0⟩
  have hs0 := hB0.size
  have x_r0 := e_r; clear e_r
  go_wp2_with fail
  refine (KI _).mono ?_
  rintro e w1 ⟨vk, rfl, hok, hb⟩
  have hB1 : Below w.heap.size w w1 := below_thru hB0 hb
  have hs1 := hB1.size
  have x_r1 : Box w1 (w.heap.size) (ccell Cmd.zero) := Box.below x_r0 hb
  clear hB0 hs0 x_r0
  clear hb
  have hk := IsL.own hok rfl
  clear hok
  go_wp2_with fail
  refine (RD _ _ _ hk (HV.out.below hB1)).mono ?_
  rintro e w2 ⟨vr, rfl, hor, hb⟩
  clear hk
  rw [HFR.out, HFL.out] at hor
  obtain ⟨g4, c4, rfl, hg4, hc4, hc5, hbx⟩ := own_box hor (by decide)
  have lo1 : w.heap.size < g4 := by have := (x_r1).lt; omega
  clear hor hg4
  have hB2 : Below w.heap.size w w2 := below_thru hB1 hb
  have hs2 := hB2.size
  have x_r2 : Box w2 (w.heap.size) (ccell Cmd.zero) := Box.below x_r1 hb
  clear hB1 hs1 x_r1
  clear hb
  have x_w2 : Box w2 (g4) (FR) := hbx
  clear hbx
  have HC4 := Lib.hid hc4; have HC5 := Lib.hid hc5; have ic4 : (17 : Int) ≤ (c4 : Int) := by omega
  clear hc4 hc5
  have C1 : ∀ (W : World) (p : Nat), Box W p [.slice (some ⟨g4, 0, none⟩) 17 c4] → Box W g4 FR → Calls Try.prog 56 #[.int .i64 1, .pointer (some ⟨p, 0, none⟩)] W fun e w' => e = .returned (.int .i64 c.op) ∧ Below W.heap.size W w' := fun W p hp hx => by
    obtain ⟨f, e1, e2, e3⟩ := E1
    refine (cof1_is (i := 1) W (hp.c 0 _ rfl) (IsR.ofBoxc hx HFR.out.symm HFL.out.symm HC4.out HC5.out) e1 e3 (by decide)).mono fun e w' ⟨h1, h2⟩ => ⟨by rw [h1, e2], by rw [h2]; exact Below.refl _ _⟩
  have C2 : ∀ (W : World) (p : Nat), Box W p [.slice (some ⟨g4, 0, none⟩) 17 c4] → Box W g4 FR → Calls Try.prog 56 #[.int .i64 2, .pointer (some ⟨p, 0, none⟩)] W fun e w' => e = .returned (.int .i64 c.t) ∧ Below W.heap.size W w' := fun W p hp hx => by
    obtain ⟨f, e1, e2, e3⟩ := E2
    refine (cof1_is (i := 2) W (hp.c 0 _ rfl) (IsR.ofBoxc hx HFR.out.symm HFL.out.symm HC4.out HC5.out) e1 e3 (by decide)).mono fun e w' ⟨h1, h2⟩ => ⟨by rw [h1, e2], by rw [h2]; exact Below.refl _ _⟩
  have C3 : ∀ (W : World) (p : Nat), Box W p [.slice (some ⟨g4, 0, none⟩) 17 c4] → Box W g4 FR → Calls Try.prog 56 #[.int .i64 3, .pointer (some ⟨p, 0, none⟩)] W fun e w' => e = .returned (.int .i64 c.u) ∧ Below W.heap.size W w' := fun W p hp hx => by
    obtain ⟨f, e1, e2, e3⟩ := E3
    refine (cof1_is (i := 3) W (hp.c 0 _ rfl) (IsR.ofBoxc hx HFR.out.symm HFL.out.symm HC4.out HC5.out) e1 e3 (by decide)).mono fun e w' ⟨h1, h2⟩ => ⟨by rw [h1, e2], by rw [h2]; exact Below.refl _ _⟩
  have C4 : ∀ (W : World) (p : Nat), Box W p [.slice (some ⟨g4, 0, none⟩) 17 c4] → Box W g4 FR → Calls Try.prog 56 #[.int .i64 4, .pointer (some ⟨p, 0, none⟩)] W fun e w' => e = .returned (.int .i64 c.l0.b) ∧ Below W.heap.size W w' := fun W p hp hx => by
    obtain ⟨f, e1, e2, e3⟩ := E4
    refine (cof1_is (i := 4) W (hp.c 0 _ rfl) (IsR.ofBoxc hx HFR.out.symm HFL.out.symm HC4.out HC5.out) e1 e3 (by decide)).mono fun e w' ⟨h1, h2⟩ => ⟨by rw [h1, e2], by rw [h2]; exact Below.refl _ _⟩
  have C5 : ∀ (W : World) (p : Nat), Box W p [.slice (some ⟨g4, 0, none⟩) 17 c4] → Box W g4 FR → Calls Try.prog 56 #[.int .i64 5, .pointer (some ⟨p, 0, none⟩)] W fun e w' => e = .returned (.int .i64 c.l0.r) ∧ Below W.heap.size W w' := fun W p hp hx => by
    obtain ⟨f, e1, e2, e3⟩ := E5
    refine (cof1_is (i := 5) W (hp.c 0 _ rfl) (IsR.ofBoxc hx HFR.out.symm HFL.out.symm HC4.out HC5.out) e1 e3 (by decide)).mono fun e w' ⟨h1, h2⟩ => ⟨by rw [h1, e2], by rw [h2]; exact Below.refl _ _⟩
  have C6 : ∀ (W : World) (p : Nat), Box W p [.slice (some ⟨g4, 0, none⟩) 17 c4] → Box W g4 FR → Calls Try.prog 56 #[.int .i64 6, .pointer (some ⟨p, 0, none⟩)] W fun e w' => e = .returned (.int .i64 c.l0.p) ∧ Below W.heap.size W w' := fun W p hp hx => by
    obtain ⟨f, e1, e2, e3⟩ := E6
    refine (cof1_is (i := 6) W (hp.c 0 _ rfl) (IsR.ofBoxc hx HFR.out.symm HFL.out.symm HC4.out HC5.out) e1 e3 (by decide)).mono fun e w' ⟨h1, h2⟩ => ⟨by rw [h1, e2], by rw [h2]; exact Below.refl _ _⟩
  have C7 : ∀ (W : World) (p : Nat), Box W p [.slice (some ⟨g4, 0, none⟩) 17 c4] → Box W g4 FR → Calls Try.prog 56 #[.int .i64 7, .pointer (some ⟨p, 0, none⟩)] W fun e w' => e = .returned (.int .i64 c.l1.b) ∧ Below W.heap.size W w' := fun W p hp hx => by
    obtain ⟨f, e1, e2, e3⟩ := E7
    refine (cof1_is (i := 7) W (hp.c 0 _ rfl) (IsR.ofBoxc hx HFR.out.symm HFL.out.symm HC4.out HC5.out) e1 e3 (by decide)).mono fun e w' ⟨h1, h2⟩ => ⟨by rw [h1, e2], by rw [h2]; exact Below.refl _ _⟩
  have C8 : ∀ (W : World) (p : Nat), Box W p [.slice (some ⟨g4, 0, none⟩) 17 c4] → Box W g4 FR → Calls Try.prog 56 #[.int .i64 8, .pointer (some ⟨p, 0, none⟩)] W fun e w' => e = .returned (.int .i64 c.l1.r) ∧ Below W.heap.size W w' := fun W p hp hx => by
    obtain ⟨f, e1, e2, e3⟩ := E8
    refine (cof1_is (i := 8) W (hp.c 0 _ rfl) (IsR.ofBoxc hx HFR.out.symm HFL.out.symm HC4.out HC5.out) e1 e3 (by decide)).mono fun e w' ⟨h1, h2⟩ => ⟨by rw [h1, e2], by rw [h2]; exact Below.refl _ _⟩
  have C9 : ∀ (W : World) (p : Nat), Box W p [.slice (some ⟨g4, 0, none⟩) 17 c4] → Box W g4 FR → Calls Try.prog 56 #[.int .i64 9, .pointer (some ⟨p, 0, none⟩)] W fun e w' => e = .returned (.int .i64 c.l1.p) ∧ Below W.heap.size W w' := fun W p hp hx => by
    obtain ⟨f, e1, e2, e3⟩ := E9
    refine (cof1_is (i := 9) W (hp.c 0 _ rfl) (IsR.ofBoxc hx HFR.out.symm HFL.out.symm HC4.out HC5.out) e1 e3 (by decide)).mono fun e w' ⟨h1, h2⟩ => ⟨by rw [h1, e2], by rw [h2]; exact Below.refl _ _⟩
  have C10 : ∀ (W : World) (p : Nat), Box W p [.slice (some ⟨g4, 0, none⟩) 17 c4] → Box W g4 FR → Calls Try.prog 56 #[.int .i64 10, .pointer (some ⟨p, 0, none⟩)] W fun e w' => e = .returned (.int .i64 c.l2.b) ∧ Below W.heap.size W w' := fun W p hp hx => by
    obtain ⟨f, e1, e2, e3⟩ := E10
    refine (cof1_is (i := 10) W (hp.c 0 _ rfl) (IsR.ofBoxc hx HFR.out.symm HFL.out.symm HC4.out HC5.out) e1 e3 (by decide)).mono fun e w' ⟨h1, h2⟩ => ⟨by rw [h1, e2], by rw [h2]; exact Below.refl _ _⟩
  have C11 : ∀ (W : World) (p : Nat), Box W p [.slice (some ⟨g4, 0, none⟩) 17 c4] → Box W g4 FR → Calls Try.prog 56 #[.int .i64 11, .pointer (some ⟨p, 0, none⟩)] W fun e w' => e = .returned (.int .i64 c.l2.r) ∧ Below W.heap.size W w' := fun W p hp hx => by
    obtain ⟨f, e1, e2, e3⟩ := E11
    refine (cof1_is (i := 11) W (hp.c 0 _ rfl) (IsR.ofBoxc hx HFR.out.symm HFL.out.symm HC4.out HC5.out) e1 e3 (by decide)).mono fun e w' ⟨h1, h2⟩ => ⟨by rw [h1, e2], by rw [h2]; exact Below.refl _ _⟩
  have C12 : ∀ (W : World) (p : Nat), Box W p [.slice (some ⟨g4, 0, none⟩) 17 c4] → Box W g4 FR → Calls Try.prog 56 #[.int .i64 12, .pointer (some ⟨p, 0, none⟩)] W fun e w' => e = .returned (.int .i64 c.l2.p) ∧ Below W.heap.size W w' := fun W p hp hx => by
    obtain ⟨f, e1, e2, e3⟩ := E12
    refine (cof1_is (i := 12) W (hp.c 0 _ rfl) (IsR.ofBoxc hx HFR.out.symm HFL.out.symm HC4.out HC5.out) e1 e3 (by decide)).mono fun e w' ⟨h1, h2⟩ => ⟨by rw [h1, e2], by rw [h2]; exact Below.refl _ _⟩
  have C13 : ∀ (W : World) (p : Nat), Box W p [.slice (some ⟨g4, 0, none⟩) 17 c4] → Box W g4 FR → Calls Try.prog 56 #[.int .i64 13, .pointer (some ⟨p, 0, none⟩)] W fun e w' => e = .returned (.int .i64 c.us) ∧ Below W.heap.size W w' := fun W p hp hx => by
    obtain ⟨f, e1, e2, e3⟩ := E13
    refine (cof1_is (i := 13) W (hp.c 0 _ rfl) (IsR.ofBoxc hx HFR.out.symm HFL.out.symm HC4.out HC5.out) e1 e3 (by decide)).mono fun e w' ⟨h1, h2⟩ => ⟨by rw [h1, e2], by rw [h2]; exact Below.refl _ _⟩
  have C14 : ∀ (W : World) (p : Nat), Box W p [.slice (some ⟨g4, 0, none⟩) 17 c4] → Box W g4 FR → Calls Try.prog 56 #[.int .i64 14, .pointer (some ⟨p, 0, none⟩)] W fun e w' => e = .returned (.int .i64 c.en) ∧ Below W.heap.size W w' := fun W p hp hx => by
    obtain ⟨f, e1, e2, e3⟩ := E14
    refine (cof1_is (i := 14) W (hp.c 0 _ rfl) (IsR.ofBoxc hx HFR.out.symm HFL.out.symm HC4.out HC5.out) e1 e3 (by decide)).mono fun e w' ⟨h1, h2⟩ => ⟨by rw [h1, e2], by rw [h2]; exact Below.refl _ _⟩
  clear E1 E2 E3 E4 E5 E6 E7 E8 E9 E10 E11 E12 E13 E14
  have d_r := (x_r2).lt
  have d_w := (x_w2).lt
  go_upto_region 2 with (refine wpList_store_cell (ws := [.slice (some ⟨g4, 0, none⟩) 17 c4]) (v := .slice (some ⟨g4, 0, none⟩) 17 c4) rfl _ _ _ rfl (Box.newc (l := [.slice none 0 0]) rfl rfl) rfl rfl rfl rfl size_row (by decide) rfl ?_; intro W0_p hW0_p)
  have hN : Below w2.heap.size w2 W0_p := hW0_p.below _ _ (Nat.le_refl _) ((Below.refl _ _).alloc (Nat.le_refl _) _)
  have x_p3 : Box W0_p w2.heap.size [.slice (some ⟨g4, 0, none⟩) 17 c4] := hW0_p.box
  have lo2 : w.heap.size < w2.heap.size := d_r
  have lo3 : g4 < w2.heap.size := d_w
  have hB3 : Below w.heap.size w W0_p := below_thru hB2 hN
  have hs3 := hB3.size
  have x_r3 : Box W0_p (w.heap.size) (ccell Cmd.zero) := Box.below x_r2 hN
  have x_w3 : Box W0_p (g4) (FR) := Box.below x_w2 hN
  clear hB2 hs2 x_r2 x_w2
  clear hN hW0_p d_r d_w
  go_wp2_with fail
  refine (C1 _ _ x_p3 x_w3).mono ?_
  rintro e w4 ⟨rfl, hb⟩
  have hB4 : Below w.heap.size w w4 := below_thru hB3 hb
  have hs4 := hB4.size
  have x_r4 : Box w4 (w.heap.size) (ccell Cmd.zero) := Box.below x_r3 hb
  have x_w4 : Box w4 (g4) (FR) := Box.below x_w3 hb
  have x_p4 : Box w4 (w2.heap.size) ([.slice (some ⟨g4, 0, none⟩) 17 c4]) := Box.below x_p3 hb
  clear hB3 hs3 x_r3 x_w3 x_p3
  clear hb
  go_wp2_with fail
  refine (C2 _ _ x_p4 x_w4).mono ?_
  rintro e w5 ⟨rfl, hb⟩
  have hB5 : Below w.heap.size w w5 := below_thru hB4 hb
  have hs5 := hB5.size
  have x_r5 : Box w5 (w.heap.size) (ccell Cmd.zero) := Box.below x_r4 hb
  have x_w5 : Box w5 (g4) (FR) := Box.below x_w4 hb
  have x_p5 : Box w5 (w2.heap.size) ([.slice (some ⟨g4, 0, none⟩) 17 c4]) := Box.below x_p4 hb
  clear hB4 hs4 x_r4 x_w4 x_p4
  clear hb
  go_wp2_with fail
  refine (C3 _ _ x_p5 x_w5).mono ?_
  rintro e w6 ⟨rfl, hb⟩
  have hB6 : Below w.heap.size w w6 := below_thru hB5 hb
  have hs6 := hB6.size
  have x_r6 : Box w6 (w.heap.size) (ccell Cmd.zero) := Box.below x_r5 hb
  have x_w6 : Box w6 (g4) (FR) := Box.below x_w5 hb
  have x_p6 : Box w6 (w2.heap.size) ([.slice (some ⟨g4, 0, none⟩) 17 c4]) := Box.below x_p5 hb
  clear hB5 hs5 x_r5 x_w5 x_p5
  clear hb
  have lo4 := (x_r6).lt
  have lo5 := (x_w6).lt
  have lo6 := (x_p6).lt
  have d_c_r := (x_r6).lt
  have d_c_w := (x_w6).lt
  have d_c_p := (x_p6).lt
  have d_c_0 := hs6
  go_upto_region 4 with (first
    | (refine wpList_build9 rfl 31 _ rfl (us := #[(0, .int .u8 c.op), (1, .int .u32 c.t), (2, .int .u32 c.u)]) (by rfl) (BK _) ?_)
    | (refine wpList_store_box (cs := U0) rfl _ _ _ rfl (Box.newc (l := ccell Cmd.zero) rfl rfl) rfl rfl S0.out L0.out O0.out ?_; intro W6_0 hW6_0))
  have hN : Below w6.heap.size w6 W6_0 := (hW6_0.below _ _ (by omega) ((Below.refl _ w6).alloc (Nat.le_refl _) _))
  have x_c7 : Box W6_0 (w6.heap.size) (U0) := hW6_0.box
  have hB7 : Below w.heap.size w W6_0 := below_thru hB6 hN
  have hs7 := hB7.size
  have x_r7 : Box W6_0 (w.heap.size) (ccell Cmd.zero) := Box.below x_r6 hN
  have x_w7 : Box W6_0 (g4) (FR) := Box.below x_w6 hN
  have x_p7 : Box W6_0 (w2.heap.size) ([.slice (some ⟨g4, 0, none⟩) 17 c4]) := Box.below x_p6 hN
  clear hB6 hs6 x_r6 x_w6 x_p6
  clear hN hW6_0
  go_wp2_with fail
  refine wp_loop_rounds 5 ?_
  rw [rounds_succ]
  go_wp2_with fail
  refine (C4 _ _ x_p7 x_w7).mono ?_
  rintro e w8 ⟨rfl, hb⟩
  have hB8 : Below w.heap.size w w8 := below_thru hB7 hb
  have hs8 := hB8.size
  have x_r8 : Box w8 (w.heap.size) (ccell Cmd.zero) := Box.below x_r7 hb
  have x_w8 : Box w8 (g4) (FR) := Box.below x_w7 hb
  have x_p8 : Box w8 (w2.heap.size) ([.slice (some ⟨g4, 0, none⟩) 17 c4]) := Box.below x_p7 hb
  have x_c8 : Box w8 (w6.heap.size) (U0) := Box.below x_c7 hb
  clear hB7 hs7 x_r7 x_w7 x_p7 x_c7
  clear hb
  go_wp2_with fail
  refine (C5 _ _ x_p8 x_w8).mono ?_
  rintro e w9 ⟨rfl, hb⟩
  have hB9 : Below w.heap.size w w9 := below_thru hB8 hb
  have hs9 := hB9.size
  have x_r9 : Box w9 (w.heap.size) (ccell Cmd.zero) := Box.below x_r8 hb
  have x_w9 : Box w9 (g4) (FR) := Box.below x_w8 hb
  have x_p9 : Box w9 (w2.heap.size) ([.slice (some ⟨g4, 0, none⟩) 17 c4]) := Box.below x_p8 hb
  have x_c9 : Box w9 (w6.heap.size) (U0) := Box.below x_c8 hb
  clear hB8 hs8 x_r8 x_w8 x_p8 x_c8
  clear hb
  go_wp2_with fail
  refine (C6 _ _ x_p9 x_w9).mono ?_
  rintro e w10 ⟨rfl, hb⟩
  have hB10 : Below w.heap.size w w10 := below_thru hB9 hb
  have hs10 := hB10.size
  have x_r10 : Box w10 (w.heap.size) (ccell Cmd.zero) := Box.below x_r9 hb
  have x_w10 : Box w10 (g4) (FR) := Box.below x_w9 hb
  have x_p10 : Box w10 (w2.heap.size) ([.slice (some ⟨g4, 0, none⟩) 17 c4]) := Box.below x_p9 hb
  have x_c10 : Box w10 (w6.heap.size) (U0) := Box.below x_c9 hb
  clear hB9 hs9 x_r9 x_w9 x_p9 x_c9
  clear hb
  go_wp2_with (first | (refine wpList_build9 rfl 24 _ rfl (us := #[(0, .int .i64 c.l0.b), (1, .int .i64 c.l0.r), (2, .int .i64 c.l0.p)]) (by rfl) (BL0 _) ?_) | (refine wpList_store_part (k := 3) (cs := M0) (ws := U1) rfl _ _ _ rfl x_c10 rfl rfl SM0.out (by rw [NM0.out, N0.out]; decide) W1.out OM0.out ?_; intro W9_0 hW))
  have x_r11 : Box W9_0 (w.heap.size) (ccell Cmd.zero) := hW.past _ _ (by omega) x_r10
  have x_w11 : Box W9_0 (g4) (FR) := hW.past _ _ (by omega) x_w10
  have x_p11 : Box W9_0 (w2.heap.size) ([.slice (some ⟨g4, 0, none⟩) 17 c4]) := hW.past _ _ (by omega) x_p10
  have x_c11 := hW.box
  have hB11 := hW.below _ _ (by omega) hB10; have hs11 := hB11.size
  clear hW x_r10 x_w10 x_p10 x_c10 hB10 hs10
  rw [rounds_succ]
  go_wp2_with fail
  refine (C7 _ _ x_p11 x_w11).mono ?_
  rintro e w12 ⟨rfl, hb⟩
  have hB12 : Below w.heap.size w w12 := below_thru hB11 hb
  have hs12 := hB12.size
  have x_r12 : Box w12 (w.heap.size) (ccell Cmd.zero) := Box.below x_r11 hb
  have x_w12 : Box w12 (g4) (FR) := Box.below x_w11 hb
  have x_p12 : Box w12 (w2.heap.size) ([.slice (some ⟨g4, 0, none⟩) 17 c4]) := Box.below x_p11 hb
  have x_c12 : Box w12 (w6.heap.size) (U1) := Box.below x_c11 hb
  clear hB11 hs11 x_r11 x_w11 x_p11 x_c11
  clear hb
  go_wp2_with fail
  refine (C8 _ _ x_p12 x_w12).mono ?_
  rintro e w13 ⟨rfl, hb⟩
  have hB13 : Below w.heap.size w w13 := below_thru hB12 hb
  have hs13 := hB13.size
  have x_r13 : Box w13 (w.heap.size) (ccell Cmd.zero) := Box.below x_r12 hb
  have x_w13 : Box w13 (g4) (FR) := Box.below x_w12 hb
  have x_p13 : Box w13 (w2.heap.size) ([.slice (some ⟨g4, 0, none⟩) 17 c4]) := Box.below x_p12 hb
  have x_c13 : Box w13 (w6.heap.size) (U1) := Box.below x_c12 hb
  clear hB12 hs12 x_r12 x_w12 x_p12 x_c12
  clear hb
  go_wp2_with fail
  refine (C9 _ _ x_p13 x_w13).mono ?_
  rintro e w14 ⟨rfl, hb⟩
  have hB14 : Below w.heap.size w w14 := below_thru hB13 hb
  have hs14 := hB14.size
  have x_r14 : Box w14 (w.heap.size) (ccell Cmd.zero) := Box.below x_r13 hb
  have x_w14 : Box w14 (g4) (FR) := Box.below x_w13 hb
  have x_p14 : Box w14 (w2.heap.size) ([.slice (some ⟨g4, 0, none⟩) 17 c4]) := Box.below x_p13 hb
  have x_c14 : Box w14 (w6.heap.size) (U1) := Box.below x_c13 hb
  clear hB13 hs13 x_r13 x_w13 x_p13 x_c13
  clear hb
  go_wp2_with (first | (refine wpList_build9 rfl 24 _ rfl (us := #[(0, .int .i64 c.l1.b), (1, .int .i64 c.l1.r), (2, .int .i64 c.l1.p)]) (by rfl) (BL1 _) ?_) | (refine wpList_store_part (k := 6) (cs := M1) (ws := U2) rfl _ _ _ rfl x_c14 rfl rfl SM1.out (by rw [NM1.out, N1.out]; decide) W2.out OM1.out ?_; intro W9_1 hW))
  have x_r15 : Box W9_1 (w.heap.size) (ccell Cmd.zero) := hW.past _ _ (by omega) x_r14
  have x_w15 : Box W9_1 (g4) (FR) := hW.past _ _ (by omega) x_w14
  have x_p15 : Box W9_1 (w2.heap.size) ([.slice (some ⟨g4, 0, none⟩) 17 c4]) := hW.past _ _ (by omega) x_p14
  have x_c15 := hW.box
  have hB15 := hW.below _ _ (by omega) hB14; have hs15 := hB15.size
  clear hW x_r14 x_w14 x_p14 x_c14 hB14 hs14
  rw [rounds_succ]
  go_wp2_with fail
  refine (C10 _ _ x_p15 x_w15).mono ?_
  rintro e w16 ⟨rfl, hb⟩
  have hB16 : Below w.heap.size w w16 := below_thru hB15 hb
  have hs16 := hB16.size
  have x_r16 : Box w16 (w.heap.size) (ccell Cmd.zero) := Box.below x_r15 hb
  have x_w16 : Box w16 (g4) (FR) := Box.below x_w15 hb
  have x_p16 : Box w16 (w2.heap.size) ([.slice (some ⟨g4, 0, none⟩) 17 c4]) := Box.below x_p15 hb
  have x_c16 : Box w16 (w6.heap.size) (U2) := Box.below x_c15 hb
  clear hB15 hs15 x_r15 x_w15 x_p15 x_c15
  clear hb
  go_wp2_with fail
  refine (C11 _ _ x_p16 x_w16).mono ?_
  rintro e w17 ⟨rfl, hb⟩
  have hB17 : Below w.heap.size w w17 := below_thru hB16 hb
  have hs17 := hB17.size
  have x_r17 : Box w17 (w.heap.size) (ccell Cmd.zero) := Box.below x_r16 hb
  have x_w17 : Box w17 (g4) (FR) := Box.below x_w16 hb
  have x_p17 : Box w17 (w2.heap.size) ([.slice (some ⟨g4, 0, none⟩) 17 c4]) := Box.below x_p16 hb
  have x_c17 : Box w17 (w6.heap.size) (U2) := Box.below x_c16 hb
  clear hB16 hs16 x_r16 x_w16 x_p16 x_c16
  clear hb
  go_wp2_with fail
  refine (C12 _ _ x_p17 x_w17).mono ?_
  rintro e w18 ⟨rfl, hb⟩
  have hB18 : Below w.heap.size w w18 := below_thru hB17 hb
  have hs18 := hB18.size
  have x_r18 : Box w18 (w.heap.size) (ccell Cmd.zero) := Box.below x_r17 hb
  have x_w18 : Box w18 (g4) (FR) := Box.below x_w17 hb
  have x_p18 : Box w18 (w2.heap.size) ([.slice (some ⟨g4, 0, none⟩) 17 c4]) := Box.below x_p17 hb
  have x_c18 : Box w18 (w6.heap.size) (U2) := Box.below x_c17 hb
  clear hB17 hs17 x_r17 x_w17 x_p17 x_c17
  clear hb
  go_wp2_with (first | (refine wpList_build9 rfl 24 _ rfl (us := #[(0, .int .i64 c.l2.b), (1, .int .i64 c.l2.r), (2, .int .i64 c.l2.p)]) (by rfl) (BL2 _) ?_) | (refine wpList_store_part (k := 9) (cs := M2) (ws := U3) rfl _ _ _ rfl x_c18 rfl rfl SM2.out (by rw [NM2.out, N2.out]; decide) W3.out OM2.out ?_; intro W9_2 hW))
  have x_r19 : Box W9_2 (w.heap.size) (ccell Cmd.zero) := hW.past _ _ (by omega) x_r18
  have x_w19 : Box W9_2 (g4) (FR) := hW.past _ _ (by omega) x_w18
  have x_p19 : Box W9_2 (w2.heap.size) ([.slice (some ⟨g4, 0, none⟩) 17 c4]) := hW.past _ _ (by omega) x_p18
  have x_c19 := hW.box
  have hB19 := hW.below _ _ (by omega) hB18; have hs19 := hB19.size
  clear hW x_r18 x_w18 x_p18 x_c18 hB18 hs18
  rw [rounds_succ]
  go_upto_region 10 with fail
  refine wp_region_held_drew (S := fun W => Box W (g4) (FR) ∧ Box W (w2.heap.size) ([.slice (some ⟨g4, 0, none⟩) 17 c4])) (by kernel_rfl) (And.intro (x_w19).drew (x_p19).drew) (fun _ => ?_)
  refine F_drew (F := fun W => wpAnyH _ _ _ _ _ _ _ _ W) ?_
  intro Wz0 hbz0
  clear hs19
  have x_w_z0 : Box Wz0 (g4) (FR) := Box.below x_w19 hbz0
  have x_p_z0 : Box Wz0 (w2.heap.size) ([.slice (some ⟨g4, 0, none⟩) 17 c4]) := Box.below x_p19 hbz0
  have z_c_z0 : Box Wz0 (w6.heap.size) (U3) := Box.below x_c19 hbz0
  have z_r_z0 : Box Wz0 (w.heap.size) (ccell Cmd.zero) := Box.below x_r19 hbz0
  have Bz0 := below_thru hB19 hbz0
  clear x_w19 x_p19 x_c19 x_r19 hB19 hbz0
  refine takeH 0 48 (v := ?vz0_1) rfl (by rfl) (by kernel_rfl) (by kernel_rfl) (by kernel_rfl) (fun _ _ _ h => h) (Or.inl ⟨by rfl, ?_⟩) ((And.intro x_w_z0 x_p_z0)) ?_
  rotate_left
  · intro wq hSq
    go_simp
    exact rfl
  try simp only [Act.put, List.setIfInBounds_toArray, List.set_cons_zero, List.set_cons_succ]
  refine takeH 3 51 (v := ?vz3_2) rfl (by rfl) (by kernel_rfl) (by kernel_rfl) (by kernel_rfl) (fun _ _ _ h => h) (Or.inl ⟨by rfl, ?_⟩) ((And.intro x_w_z0 x_p_z0)) ?_
  rotate_left
  · intro wq hSq
    go_simp
    exact rfl
  try simp only [Act.put, List.setIfInBounds_toArray, List.set_cons_zero, List.set_cons_succ]
  refine takeH 6 54 (v := ?vz6_3) rfl (by rfl) (by kernel_rfl) (by kernel_rfl) (by kernel_rfl) (fun _ _ _ h => h) (Or.inl ⟨by rfl, ?_⟩) ((And.intro x_w_z0 x_p_z0)) ?_
  rotate_left
  · intro wq hSq
    have cq := (hSq.2).c 0 _ rfl
    have zq := lt_of_cell cq
    go_simp
    exact rfl
  try simp only [Act.put, List.setIfInBounds_toArray, List.set_cons_zero, List.set_cons_succ]
  refine takeH 7 55 (v := ?vz7_4) rfl (by rfl) (by kernel_rfl) (by kernel_rfl) (by kernel_rfl) (fun _ _ _ h => h) (Or.inl ⟨by rfl, ?_⟩) ((And.intro x_w_z0 x_p_z0)) ?_
  rotate_left
  · intro wq hSq
    go_simp
    exact rfl
  try simp only [Act.put, List.setIfInBounds_toArray, List.set_cons_zero, List.set_cons_succ]
  refine takeH 8 56 (v := ?vz8_5) rfl (by rfl) (by kernel_rfl) (by kernel_rfl) (by kernel_rfl) (fun _ _ _ h => h) (Or.inl ⟨by rfl, ?_⟩) ((And.intro x_w_z0 x_p_z0)) ?_
  rotate_left
  · intro wq hSq
    go_simp
    exact rfl
  try simp only [Act.put, List.setIfInBounds_toArray, List.set_cons_zero, List.set_cons_succ]
  refine takeH 9 57 (v := ?vz9_6) rfl (by rfl) (by kernel_rfl) (by kernel_rfl) (by kernel_rfl) (fun _ _ _ h => h) (Or.inl ⟨by rfl, ?_⟩) ((And.intro x_w_z0 x_p_z0)) ?_
  rotate_left
  · intro wq hSq
    have cq := (hSq.1).c 511 _ g15
    have zq := lt_of_cell cq
    go_simp
    exact rfl
  try simp only [Act.put, List.setIfInBounds_toArray, List.set_cons_zero, List.set_cons_succ]
  refine takeH 10 58 (v := ?vz10_7) rfl (by rfl) (by kernel_rfl) (by kernel_rfl) (by kernel_rfl) (fun _ _ _ h => h) (Or.inl ⟨by rfl, ?_⟩) ((And.intro x_w_z0 x_p_z0)) ?_
  rotate_left
  · intro wq hSq
    have cq := (hSq.2).c 0 _ rfl
    have zq := lt_of_cell cq
    go_simp
    exact rfl
  try simp only [Act.put, List.setIfInBounds_toArray, List.set_cons_zero, List.set_cons_succ]
  refine takeH 11 59 (v := ?vz11_8) rfl (by rfl) (by kernel_rfl) (by kernel_rfl) (by kernel_rfl) (fun _ _ _ h => h) (Or.inl ⟨by rfl, ?_⟩) ((And.intro x_w_z0 x_p_z0)) ?_
  rotate_left
  · intro wq hSq
    go_simp
    exact rfl
  try simp only [Act.put, List.setIfInBounds_toArray, List.set_cons_zero, List.set_cons_succ]
  refine takeH 12 60 (v := ?vz12_9) rfl (by rfl) (by kernel_rfl) (by kernel_rfl) (by kernel_rfl) (fun _ _ _ h => h) (Or.inl ⟨by rfl, ?_⟩) ((And.intro x_w_z0 x_p_z0)) ?_
  rotate_left
  · intro wq hSq
    go_simp
    exact rfl
  try simp only [Act.put, List.setIfInBounds_toArray, List.set_cons_zero, List.set_cons_succ]
  refine takeH 13 61 (v := .agg (G).toArray) rfl (by rfl) (by kernel_rfl) (by kernel_rfl) (by kernel_rfl) (fun _ _ _ h => h) (yieldsIf_load_mid (by rfl) _ _ rfl _ _ rfl (G) _ (fun wq hq => Box.rangeMid (hq.1) 546 (G) ([]) DG.out) Try.underlying29 rfl SG.out) ((And.intro x_w_z0 x_p_z0)) ?_
  try simp only [Act.put, List.setIfInBounds_toArray, List.set_cons_zero, List.set_cons_succ]
  refine wpAnyH_ready (rs := [1]) (by kernel_rfl) (by simp) (AllReadyH.cons rfl (fun K hK => ?_) AllReadyH.nil)
  go_simp
  refine (C13 _ _ x_p_z0 x_w_z0).mono ?_
  rintro e Wz10 ⟨rfl, hbz10⟩
  have x_w_z10 : Box Wz10 (g4) (FR) := Box.below x_w_z0 hbz10
  have x_p_z10 : Box Wz10 (w2.heap.size) ([.slice (some ⟨g4, 0, none⟩) 17 c4]) := Box.below x_p_z0 hbz10
  have z_c_z10 : Box Wz10 (w6.heap.size) (U3) := Box.below z_c_z0 hbz10
  have z_r_z10 : Box Wz10 (w.heap.size) (ccell Cmd.zero) := Box.below z_r_z0 hbz10
  have Bz10 := below_thru Bz0 hbz10
  clear x_w_z0 x_p_z0 z_c_z0 z_r_z0 Bz0 hbz10
  refine hK.out _ _ (And.intro x_w_z10 x_p_z10) (fun _ => ?_); clear hK K
  refine takeH 2 50 (v := ?vz2_11) rfl (by rfl) (by kernel_rfl) (by kernel_rfl) (by kernel_rfl) (fun _ _ _ h => h) (Or.inl ⟨by rfl, ?_⟩) ((And.intro x_w_z10 x_p_z10)) ?_
  rotate_left
  · intro wq hSq
    go_simp
    exact rfl
  try simp only [Act.put, List.setIfInBounds_toArray, List.set_cons_zero, List.set_cons_succ]
  refine takeH 14 62 (v := ?vz14_12) rfl (by rfl) (by kernel_rfl) (by kernel_rfl) (by kernel_rfl) (fun _ _ _ h => h) (Or.inl ⟨by rfl, ?_⟩) ((And.intro x_w_z10 x_p_z10)) ?_
  rotate_left
  · intro wq hSq
    go_simp
    exact rfl
  try simp only [Act.put, List.setIfInBounds_toArray, List.set_cons_zero, List.set_cons_succ]
  refine wpAnyH_ready (rs := [4]) (by kernel_rfl) (by simp) (AllReadyH.cons rfl (fun K hK => ?_) AllReadyH.nil)
  go_simp
  refine (C14 _ _ x_p_z10 x_w_z10).mono ?_
  rintro e Wz13 ⟨rfl, hbz13⟩
  have x_w_z13 : Box Wz13 (g4) (FR) := Box.below x_w_z10 hbz13
  have x_p_z13 : Box Wz13 (w2.heap.size) ([.slice (some ⟨g4, 0, none⟩) 17 c4]) := Box.below x_p_z10 hbz13
  have z_c_z13 : Box Wz13 (w6.heap.size) (U3) := Box.below z_c_z10 hbz13
  have z_r_z13 : Box Wz13 (w.heap.size) (ccell Cmd.zero) := Box.below z_r_z10 hbz13
  have Bz13 := below_thru Bz10 hbz13
  clear x_w_z10 x_p_z10 z_c_z10 z_r_z10 Bz10 hbz13
  refine hK.out _ _ (And.intro x_w_z13 x_p_z13) (fun _ => ?_); clear hK K
  refine takeH 5 53 (v := ?vz5_14) rfl (by rfl) (by kernel_rfl) (by kernel_rfl) (by kernel_rfl) (fun _ _ _ h => h) (Or.inl ⟨by rfl, ?_⟩) ((And.intro x_w_z13 x_p_z13)) ?_
  rotate_left
  · intro wq hSq
    go_simp
    exact rfl
  try simp only [Act.put, List.setIfInBounds_toArray, List.set_cons_zero, List.set_cons_succ]
  refine wpAnyH_ready (rs := [15]) (by kernel_rfl) (by simp) (AllReadyH.cons rfl (fun K hK => ?_) AllReadyH.nil)
  have nz_w := (x_w_z13).lt
  have nz_p := (x_p_z13).lt
  refine step_store_cell0 (k := 12) (ws := U4) (v := .int .u8 c.us) rfl rfl _ _ _ rfl z_c_z13 rfl rfl rfl rfl size_u8n (by rw [N3.out]; decide) W4.out ?_
  intro Wz15 hWz15
  have x_w_z15 : Box Wz15 (g4) (FR) := hWz15.past _ _ (by omega) x_w_z13
  have x_p_z15 : Box Wz15 (w2.heap.size) ([.slice (some ⟨g4, 0, none⟩) 17 c4]) := hWz15.past _ _ (by omega) x_p_z13
  have z_c_z15 := hWz15.box
  have z_r_z15 : Box Wz15 (w.heap.size) (ccell Cmd.zero) := hWz15.past _ _ (by omega) z_r_z13
  have Bz15 := hWz15.below _ _ (by omega) Bz13
  clear nz_w nz_p x_w_z13 x_p_z13 z_c_z13 z_r_z13 Bz13 hWz15
  refine hK.out _ _ (And.intro x_w_z15 x_p_z15) (fun _ => ?_); clear hK K
  refine takeH 16 63 (v := ?vz16_16) rfl (by rfl) (by kernel_rfl) (by kernel_rfl) (by kernel_rfl) (fun _ _ _ h => h) (Or.inl ⟨by rfl, ?_⟩) ((And.intro x_w_z15 x_p_z15)) ?_
  rotate_left
  · intro wq hSq
    go_simp
    exact rfl
  try simp only [Act.put, List.setIfInBounds_toArray, List.set_cons_zero, List.set_cons_succ]
  refine wpAnyH_ready (rs := [17]) (by kernel_rfl) (by simp) (AllReadyH.cons rfl (fun K hK => ?_) AllReadyH.nil)
  have nz_w := (x_w_z15).lt
  have nz_p := (x_p_z15).lt
  refine step_store_cell0 (k := 13) (ws := U5) (v := .int .u8 c.en) rfl rfl _ _ _ rfl z_c_z15 rfl rfl rfl rfl size_u8n (by rw [N4.out]; decide) W5.out ?_
  intro Wz17 hWz17
  have x_w_z17 : Box Wz17 (g4) (FR) := hWz17.past _ _ (by omega) x_w_z15
  have x_p_z17 : Box Wz17 (w2.heap.size) ([.slice (some ⟨g4, 0, none⟩) 17 c4]) := hWz17.past _ _ (by omega) x_p_z15
  have z_c_z17 := hWz17.box
  have z_r_z17 : Box Wz17 (w.heap.size) (ccell Cmd.zero) := hWz17.past _ _ (by omega) z_r_z15
  have Bz17 := hWz17.below _ _ (by omega) Bz15
  clear nz_w nz_p x_w_z15 x_p_z15 z_c_z15 z_r_z15 Bz15 hWz17
  refine hK.out _ _ (And.intro x_w_z17 x_p_z17) (fun _ => ?_); clear hK K
  refine takeH 18 64 (v := ?vz18_18) rfl (by rfl) (by kernel_rfl) (by kernel_rfl) (by kernel_rfl) (fun _ _ _ h => h) (Or.inl ⟨by rfl, ?_⟩) ((And.intro x_w_z17 x_p_z17)) ?_
  rotate_left
  · intro wq hSq
    go_simp
    exact rfl
  try simp only [Act.put, List.setIfInBounds_toArray, List.set_cons_zero, List.set_cons_succ]
  refine wpAnyH_ready (rs := [19]) (by kernel_rfl) (by simp) (AllReadyH.cons rfl (fun K hK => ?_) AllReadyH.nil)
  have nz_w := (x_w_z17).lt
  have nz_p := (x_p_z17).lt
  refine step_store_cell0 (k := 14) (ws := U6) (v := .int .u64 c.x) rfl rfl _ _ _ rfl z_c_z17 rfl rfl rfl rfl size_u64n (by rw [N5.out]; decide) W6.out ?_
  intro Wz19 hWz19
  have x_w_z19 : Box Wz19 (g4) (FR) := hWz19.past _ _ (by omega) x_w_z17
  have x_p_z19 : Box Wz19 (w2.heap.size) ([.slice (some ⟨g4, 0, none⟩) 17 c4]) := hWz19.past _ _ (by omega) x_p_z17
  have z_c_z19 := hWz19.box
  have z_r_z19 : Box Wz19 (w.heap.size) (ccell Cmd.zero) := hWz19.past _ _ (by omega) z_r_z17
  have Bz19 := hWz19.below _ _ (by omega) Bz17
  clear nz_w nz_p x_w_z17 x_p_z17 z_c_z17 z_r_z17 Bz17 hWz19
  refine hK.out _ _ (And.intro x_w_z19 x_p_z19) (fun _ => ?_); clear hK K
  refine takeH 20 65 (v := ?vz20_20) rfl (by rfl) (by kernel_rfl) (by kernel_rfl) (by kernel_rfl) (fun _ _ _ h => h) (Or.inl ⟨by rfl, ?_⟩) ((And.intro x_w_z19 x_p_z19)) ?_
  rotate_left
  · intro wq hSq
    go_simp
    exact rfl
  try simp only [Act.put, List.setIfInBounds_toArray, List.set_cons_zero, List.set_cons_succ]
  refine wpAnyH_ready (rs := [21]) (by kernel_rfl) (by simp) (AllReadyH.cons rfl (fun K hK => ?_) AllReadyH.nil)
  have nz_w := (x_w_z19).lt
  have nz_p := (x_p_z19).lt
  refine step_store_part0 (k := 15) (cs := G) (ws := F) rfl rfl _ _ _ rfl z_c_z19 rfl rfl SG.out (by rw [NG.out, N6.out]; decide) W7.out OG.out ?_
  intro Wz21 hWz21
  have x_w_z21 : Box Wz21 (g4) (FR) := hWz21.past _ _ (by omega) x_w_z19
  have x_p_z21 : Box Wz21 (w2.heap.size) ([.slice (some ⟨g4, 0, none⟩) 17 c4]) := hWz21.past _ _ (by omega) x_p_z19
  have z_c_z21 := hWz21.box
  have z_r_z21 : Box Wz21 (w.heap.size) (ccell Cmd.zero) := hWz21.past _ _ (by omega) z_r_z19
  have Bz21 := hWz21.below _ _ (by omega) Bz19
  clear nz_w nz_p x_w_z19 x_p_z19 z_c_z19 z_r_z19 Bz19 hWz21
  refine hK.out _ _ (And.intro x_w_z21 x_p_z21) (fun _ => ?_); clear hK K
  refine wpAnyH_done (by kernel_rfl) ?_ _
  go_wp2_with (first | (refine wpList_load_box9 rfl _ _ rfl z_c_z21 rfl Try.underlying31 rfl SF.out ?_) | (refine wpList_store_box (cs := F) rfl _ _ _ rfl z_r_z21 rfl rfl SF.out LF9.out OF.out ?_; intro W99 hW99))
  exact bodyPost_ret (results_box Try.results44 hW99.box rfl Try.underlying31 rfl SF.out) rfl ⟨rfl, hW99.below _ _ (by omega) Bz21⟩

end Go.Proofs.Ytkpdlbcmnfphmaa
