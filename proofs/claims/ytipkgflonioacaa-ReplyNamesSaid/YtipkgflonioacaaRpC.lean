/-
  Package reply, walked: kindsOfRow, replyOf.
-/
import Derived.Test.YtipkgflonioacaaRpB
namespace Go.Proofs.Ytipkgflonioacaa
open Go.RowKit

def krow (k : Nat) : List Int := kinP.take k ++ List.replicate (13 - k) 0
theorem krow_len {k : Nat} (h : k ≤ 13) : (krow k).length = 13 := by unfold krow; simp [kinP]; omega
theorem krow_succ {k : Nat} (h : k < 13) : (krow k).set k (nth kinP k) = krow (k + 1) := by
  have : k = 0 ∨ k = 1 ∨ k = 2 ∨ k = 3 ∨ k = 4 ∨ k = 5 ∨ k = 6 ∨ k = 7 ∨ k = 8 ∨ k = 9 ∨ k = 10 ∨ k = 11 ∨ k = 12 := by omega
  rcases this with q | q | q | q | q | q | q | q | q | q | q | q | q <;> subst q <;> rfl
theorem row_at (r : Rep) {k : Nat} (h : k < 13) : ∃ f, r.row[k]? = some f ∧ f.k = nth kinP k := by
  have hl : k < r.row.length := h
  refine ⟨r.row[k], List.getElem?_eq_getElem hl, ?_⟩
  have e : (r.row.map Fd.k)[k]? = some (r.row[k].k) := by rw [List.getElem?_map, List.getElem?_eq_getElem hl]; rfl
  rw [r.row_k] at e
  unfold nth
  rw [List.getD_eq_getElem?_getD, e]
  rfl
theorem kin_size {xs : List Int} (h : xs.length = 13) : (Try.prog.info? 59).map (·.size) = some (xs.map (Value.int .u8)).length := by
  rw [List.length_map, h]
  kernel_rfl
set_option maxRecDepth 100000 in
set_option maxHeartbeats 6400000 in
theorem kinds_is (w : World) : Calls Try.prog 23 #[] w fun e w' => e = .returned (.agg (kinP.map (Value.int .u8)).toArray) ∧ Below w.heap.size w w' := by
  have CR := fun W => rowof_is Rep.zero W
  have BR := fun W => build_rz W
  have HI := Lib.hid (fun (k : Nat) (f : Fd) (h : Rep.zero.row[k]? = some f) (W : World) => index_row (xs := Rep.zero.row) rfl h W)
  have HK := Lib.hid (fun (k : Nat) (h : k < 13) => krow_succ h)
  have HL := Lib.hid (fun (k : Nat) (h : k ≤ 13) => krow_len h)
  have S0 := Lib.hid (kin_size (xs := krow 0) rfl)
  have SK := Lib.hid (kin_size (xs := kinP) rfl)
  have OK := Lib.hid (oneCell_ints (k := .u8) kinP)
  have LK : Hid (((krow 0).map (Value.int .u8)).length = (kinP.map (Value.int .u8)).length) := Lib.hid rfl
  have E13 : Hid (krow 13 = kinP) := Lib.hid rfl
  obtain ⟨U, hU⟩ : ∃ U, Rep.zero.v = U := ⟨_, rfl⟩
  obtain ⟨F, hF⟩ : ∃ U, flatR LF Rep.zero.row = U := ⟨_, rfl⟩
  rw [hU] at CR BR
  rw [hF] at CR HI
  clear hU hF
  go_enter Try.func23, Try.ntmps23
  go_upto_region 2 with fail
  refine F_gen (F := fun W => Code.wp _ _ _ _ W) (J := fun W => Box W (w.heap.size) ((krow 0).map (Value.int .u8)) ∧ Box W (w.heap.size + 1) ((krow 0).map (Value.int .u8)) ∧ Below w.heap.size w W) (And.intro (Box.alloc (Box.newc rfl rfl) _) (And.intro (Box.newc rfl (by simp)) (by go_grown))) ?_
  intro w0 ⟨e_q, e_n, hB0⟩
  have hs0 := hB0.size
  have x_q0 := e_q; clear e_q
  have x_n0 := e_n; clear e_n
  go_wp2_with (refine wpList_build9 rfl 26 _ rfl (us := #[]) (by rfl) (BR _) ?_)
  refine (CR _).mono ?_
  rintro e w1 ⟨rfl, hb⟩
  clear CR BR
  have hB1 : Below w.heap.size w w1 := below_thru hB0 hb
  have hs1 := hB1.size
  have x_q1 : Box w1 (w.heap.size) ((krow 0).map (Value.int .u8)) := Box.below x_q0 hb
  have x_n1 : Box w1 (w.heap.size + 1) ((krow 0).map (Value.int .u8)) := Box.below x_n0 hb
  clear hB0 hs0 x_q0 x_n0
  clear hb
  go_wp2_with fail
  go_loopw [6] (fun s6 wr => ∃ k : Nat, s6 = .int .i64 k ∧ k ≤ 13 ∧ Box wr w.heap.size ((krow 0).map (Value.int .u8)) ∧ Box wr (w.heap.size + 1) ((krow k).map (Value.int .u8)) ∧ Below w.heap.size w wr) (fun s6 _ => 13 - (intOf s6).toNat)
  case atStart => exact ⟨0, rfl, by omega, x_q1, x_n1, hB1⟩
  case round =>
    clear x_q1 x_n1 hB1 hs1
    obtain ⟨k, rfl, hk, hQ, hN, hB⟩ := hrel
    have z2 := hQ.lt; have z3 := hN.lt; have hs := hB.size
    by_cases hlt : k < 13
    · obtain ⟨f, hf, hfk⟩ := row_at Rep.zero hlt
      have I0 := fun W => HI.out k f hf W
      have HS := HK.out k hlt
      rw [← hfk] at HS
      have HSM : ((krow k).map (Value.int .u8)).set k (.int .u8 f.k) = (krow (k + 1)).map (Value.int .u8) := by rw [← HS, List.map_set]
      have HSH := Lib.hid HSM
      have LKK : Hid (((krow k).map (Value.int .u8)).length = 13) := Lib.hid (by rw [List.length_map]; exact HL.out k hk)
      have hS := Lib.hid (lenFld f); have h1 := Lib.hid (oneFld f); have hz : Hid (Fd.zero.v.length = f.v.length) := Lib.hid (by rw [f.v_len, Fd.v_len])
      have v0 : f.v[0]? = some (.int .u8 f.k) := rfl
      obtain ⟨V, hV⟩ : ∃ V, f.v = V := ⟨_, rfl⟩
      rw [hV] at I0 hS h1 hz v0
      obtain ⟨K, hKK⟩ : ∃ K, f.k = K := ⟨_, rfl⟩
      rw [hKK] at v0 HSH
      obtain ⟨A, hA⟩ : ∃ A, (krow k).map (Value.int .u8) = A := ⟨_, rfl⟩
      obtain ⟨A2, hA2⟩ : ∃ A, (krow (k + 1)).map (Value.int .u8) = A := ⟨_, rfl⟩
      rw [hA] at hN HSH LKK
      rw [hA2] at HSH
      have hU := Lib.hid hA2.symm
      have i3 : (k : Int) < 13 := by omega
      have i4 : (0 : Int) ≤ (k : Int) := by omega
      clear hf hfk HS HSM hV hKK hA hA2
      go_upto_region 5 with (refine wpList_store_box (cs := V) rfl _ _ _ rfl (Box.newc (l := Fd.zero.v) rfl rfl) rfl rfl hS.out hz.out h1.out ?_; intro W1 hW1)
      have hQ1 : Box W1 w.heap.size ((krow 0).map (Value.int .u8)) := hW1.past _ _ (by omega) (Box.alloc hQ _)
      have hN1 : Box W1 (w.heap.size + 1) A := hW1.past _ _ (by omega) (Box.alloc hN _)
      have hB1 := hW1.below _ _ (by omega) (hB.alloc hs (.cells Fd.zero.v.toArray 54))
      have hF1 := hW1.box
      have c0 := hF1.c 0 _ v0
      have z4 := hF1.lt
      clear hW1 hQ hN hB
      go_wp2_with (refine wpList_store_cell (k := k) (ws := A2) (v := .int .u8 K) rfl _ _ _ rfl hN1 rfl rfl rfl rfl size_u8n (by rw [LKK.out]; omega) HSH.out.symm ?_; intro S1 hS1)
      go_roundw
      case rel => exact ⟨k + 1, by go_num, by omega, hS1.past _ _ (by omega) hQ1, by rw [← hU.out]; exact hS1.box, hS1.below _ _ (by omega) hB1⟩
      case measure => simp [intOf]; omega
    · skip
      obtain rfl : k = 13 := by omega
      rw [E13.out] at hN
      clear hlt hk HK HL E13 HI
      have x_q2 := hQ; have x_n2 := hN; have hB2 := hB; have hs2 := hs; clear hQ hN hB hs
      go_wp2_with (first | (refine wpList_load_box9 rfl _ _ rfl x_n2 rfl Try.underlying59 rfl SK.out ?_) | (refine wpList_store_box (cs := kinP.map (Value.int .u8)) rfl _ _ _ rfl x_q2 rfl rfl SK.out LK.out OK.out ?_; intro W9 hW9))
      exact bodyPost_ret (results_box Try.results23 hW9.box rfl Try.underlying59 rfl SK.out) rfl ⟨rfl, hW9.below _ _ (by omega) hB2⟩

set_option maxRecDepth 100000 in
theorem build_r3 (c t x : Int) (W : World) : (Instr.build 26 #[(0, .int .u8 c), (1, .int .u32 t), (3, .int .u64 x)]).run Try.prog W = .ok (.agg [Value.int .u8 c, .int .u32 t, .int .u32 0, .int .u32 0, .int .u32 0, .int .u64 x].toArray) W := by kernel_rfl
def Rep.r3 (r : Rep) : Rep := ⟨r.c, r.t, 0, 0, 0, r.x, r.hc, r.ht, by decide, by decide, by decide, r.hx⟩
theorem row_cell (r : Rep) {k : Nat} {f : Fd} (h : r.row[k]? = some f) : (flatR LF r.row)[k * 34 + 1]? = some (.int .u64 f.n) := flatR_at (L := LF) (j := 1) h rfl
theorem row_part (r : Rep) {k : Nat} {f : Fd} (h : r.row[k]? = some f) : ∃ rest, (flatR LF r.row).drop (k * 34) = f.v ++ rest := by
  obtain ⟨A, C, e, l⟩ := flatR_at1 (L := LF) h
  exact ⟨C, by rw [e, List.drop_left' (show A.length = k * 34 from l)]; rfl⟩
set_option maxRecDepth 100000 in
set_option maxHeartbeats 6400000 in
theorem repof_is (r : Rep) {g c : Nat} (hc : 13 ≤ c) (hc2 : c ≤ 9223372036854775807) (w : World) (hb : Box w g (flatR LF r.row)) : Calls Try.prog 25 #[.slice (some ⟨g, 0, none⟩) 13 c] w fun e w' => e = .returned (.agg r.v.toArray) ∧ Below w.heap.size w w' := by
  have g0 := row_cell r (k := 0) (f := fdN 2 r.c) rfl; rw [fdN_n (by decide) (k8 r.hc)] at g0
  have g4 := row_cell r (k := 4) (f := fdN 4 r.t) rfl; rw [fdN_n (by decide) (k32 r.ht)] at g4
  have g8 := row_cell r (k := 8) (f := fdN 5 r.x) rfl; rw [fdN_n (by decide) r.hx] at g8
  obtain ⟨rest5, D5⟩ := row_part r (k := 5) (f := fdN 4 r.a) rfl
  have D5 := Lib.hid D5
  have u5x : (fdN 4 r.a).v[1]? = some (.int .u64 r.a) := by rw [fdN_v (by decide) (k32 r.ha)]; rfl
  have Sv5 := Lib.hid (lenFld (fdN 4 r.a)); have Lv5 : Hid (Fd.zero.v.length = (fdN 4 r.a).v.length) := Lib.hid (by rw [Fd.v_len, Fd.v_len]); have Ov5 := Lib.hid (oneFld (fdN 4 r.a))
  obtain ⟨rest6, D6⟩ := row_part r (k := 6) (f := fdN 4 r.b) rfl
  have D6 := Lib.hid D6
  have u6x : (fdN 4 r.b).v[1]? = some (.int .u64 r.b) := by rw [fdN_v (by decide) (k32 r.hb)]; rfl
  have Sv6 := Lib.hid (lenFld (fdN 4 r.b)); have Lv6 : Hid (Fd.zero.v.length = (fdN 4 r.b).v.length) := Lib.hid (by rw [Fd.v_len, Fd.v_len]); have Ov6 := Lib.hid (oneFld (fdN 4 r.b))
  obtain ⟨rest7, D7⟩ := row_part r (k := 7) (f := fdN 4 r.d) rfl
  have D7 := Lib.hid D7
  have u7x : (fdN 4 r.d).v[1]? = some (.int .u64 r.d) := by rw [fdN_v (by decide) (k32 r.hd)]; rfl
  have Sv7 := Lib.hid (lenFld (fdN 4 r.d)); have Lv7 : Hid (Fd.zero.v.length = (fdN 4 r.d).v.length) := Lib.hid (by rw [Fd.v_len, Fd.v_len]); have Ov7 := Lib.hid (oneFld (fdN 4 r.d))
  have wc : IntKind.u8.wrap r.c = r.c := by have := r.hc; rw [IntKind.wrap_u8]; omega
  have wt : IntKind.u32.wrap r.t = r.t := by have := r.ht; rw [IntKind.wrap_u32]; omega
  have wa : IntKind.u32.wrap r.a = r.a := by have := r.ha; rw [IntKind.wrap_u32]; omega
  have wb : IntKind.u32.wrap r.b = r.b := by have := r.hb; rw [IntKind.wrap_u32]; omega
  have wd : IntKind.u32.wrap r.d = r.d := by have := r.hd; rw [IntKind.wrap_u32]; omega
  have BT := fun W => build_r3 r.c r.t r.x W
  have U0e : [Value.int .u8 r.c, .int .u32 r.t, .int .u32 0, .int .u32 0, .int .u32 0, .int .u64 r.x] = r.r3.v := rfl
  rw [U0e] at BT; clear U0e
  have S0 := Lib.hid (size_rep r.r3); have L0 := Lib.hid (len_rep Rep.zero r.r3); have O0 := Lib.hid (one_rep r.r3); have SZ := Lib.hid (size_rep Rep.zero); have SV := Lib.hid (size_rep r); have LV := Lib.hid (len_rep Rep.zero r); have OV := Lib.hid (one_rep r)
  obtain ⟨U1, W1⟩ : ∃ U, Hid (U = r.r3.v.set 2 (.int .u32 r.a)) := ⟨_, Lib.hid rfl⟩
  obtain ⟨U2, W2⟩ : ∃ U, Hid (U = U1.set 3 (.int .u32 r.b)) := ⟨_, Lib.hid rfl⟩
  have W3 : Hid (r.v = U2.set 4 (.int .u32 r.d)) := Lib.hid (by rw [W2.out, W1.out]; rfl)
  have N0 : Hid (r.r3.v.length = 6) := Lib.hid rfl; have N1 : Hid (U1.length = 6) := Lib.hid (by rw [W1.out]; rfl); have N2 : Hid (U2.length = 6) := Lib.hid (by rw [W2.out, W1.out]; rfl)
  have q8 : (8 : Int) ≤ (c : Int) := by omega
  obtain ⟨F5, hF5⟩ : ∃ F, (fdN 4 r.a).v = F := ⟨_, rfl⟩
  rw [hF5] at D5 u5x Sv5 Lv5 Ov5
  obtain ⟨F6, hF6⟩ : ∃ F, (fdN 4 r.b).v = F := ⟨_, rfl⟩
  rw [hF6] at D6 u6x Sv6 Lv6 Ov6
  obtain ⟨F7, hF7⟩ : ∃ F, (fdN 4 r.d).v = F := ⟨_, rfl⟩
  rw [hF7] at D7 u7x Sv7 Lv7 Ov7
  obtain ⟨FR, hFR⟩ : ∃ X, flatR LF r.row = X := ⟨_, rfl⟩
  rw [hFR] at g0 g4 g8 D5 D6 D7 hb
  obtain ⟨V, hV⟩ : ∃ V, r.v = V := ⟨_, rfl⟩
  rw [hV] at W3 SV LV OV ⊢
  obtain ⟨U0, hU0⟩ : ∃ V, r.r3.v = V := ⟨_, rfl⟩
  rw [hU0] at BT S0 L0 O0 W1 N0
  obtain ⟨zc, hzc⟩ : ∃ z, r.c = z := ⟨_, rfl⟩
  obtain ⟨zt, hzt⟩ : ∃ z, r.t = z := ⟨_, rfl⟩
  obtain ⟨za, hza⟩ : ∃ z, r.a = z := ⟨_, rfl⟩
  obtain ⟨zb, hzb⟩ : ∃ z, r.b = z := ⟨_, rfl⟩
  obtain ⟨zd, hzd⟩ : ∃ z, r.d = z := ⟨_, rfl⟩
  obtain ⟨zx, hzx⟩ : ∃ z, r.x = z := ⟨_, rfl⟩
  rw [hzc] at g0 wc BT; rw [hzt] at g4 wt BT; rw [hzx] at g8 BT; rw [hza] at u5x wa W1; rw [hzb] at u6x wb W2; rw [hzd] at u7x wd W3
  have zw := hb.lt
  clear hF5 hF6 hF7 hFR hV hU0 hzc hzt hza hzb hzd hzx hc
  go_enter Try.func25, Try.ntmps25
  go_upto_region 1 with fail
  refine F_gen (F := fun W => Code.wp _ _ _ _ W) (J := fun W => Box W (w.heap.size) (Rep.zero.v) ∧ Below w.heap.size w W) (And.intro (Box.newc rfl rfl) (by go_grown)) ?_
  intro w0 ⟨e_r, hB0⟩
  have hs0 := hB0.size
  have x_r0 := e_r; clear e_r
  have x_w0 : Box w0 (g) (FR) := Box.below hb hB0
  clear hb
  have low := zw; clear zw
  go_cut [3] (fun p wx => ∃ b7 : Nat, p = .pointer (some ⟨b7, 0, none⟩) ∧ w.heap.size < b7 ∧ g < b7 ∧ Box wx b7 U0 ∧ Box wx w.heap.size Rep.zero.v ∧ Box wx g FR ∧ Below w.heap.size w wx)
  case first =>
    refine wp_region_held_drew (S := fun W => Box W (w.heap.size) (Rep.zero.v) ∧ Box W (g) (FR)) (by kernel_rfl) (And.intro (x_r0).drew (x_w0).drew) (fun _ => ?_)
    refine F_drew (F := fun W => wpAnyH _ _ _ _ _ _ _ _ W) ?_
    intro Ws0 hbs0
    clear hs0
    have x_r_s0 : Box Ws0 (w.heap.size) (Rep.zero.v) := Box.below x_r0 hbs0
    have x_w_s0 : Box Ws0 (g) (FR) := Box.below x_w0 hbs0
    have Bs0 := below_thru hB0 hbs0
    clear x_r0 x_w0 hB0 hbs0
    refine takeH 0 6 (v := ?vs0_1) rfl (by rfl) (by kernel_rfl) (by kernel_rfl) (by kernel_rfl) (fun _ _ _ h => h) (Or.inl ⟨by rfl, ?_⟩) ((And.intro x_r_s0 x_w_s0)) ?_
    rotate_left
    · intro wq hSq
      go_simp
      exact rfl
    try simp only [Act.put, List.setIfInBounds_toArray, List.set_cons_zero, List.set_cons_succ]
    refine takeH 1 7 (v := ?vs1_2) rfl (by rfl) (by kernel_rfl) (by kernel_rfl) (by kernel_rfl) (fun _ _ _ h => h) (Or.inl ⟨by rfl, ?_⟩) ((And.intro x_r_s0 x_w_s0)) ?_
    rotate_left
    · intro wq hSq
      go_simp
      exact rfl
    try simp only [Act.put, List.setIfInBounds_toArray, List.set_cons_zero, List.set_cons_succ]
    refine takeH 2 8 (v := ?vs2_3) rfl (by rfl) (by kernel_rfl) (by kernel_rfl) (by kernel_rfl) (fun _ _ _ h => h) (Or.inl ⟨by rfl, ?_⟩) ((And.intro x_r_s0 x_w_s0)) ?_
    rotate_left
    · intro wq hSq
      go_simp
      exact rfl
    try simp only [Act.put, List.setIfInBounds_toArray, List.set_cons_zero, List.set_cons_succ]
    refine takeH 3 9 (v := ?vs3_4) rfl (by rfl) (by kernel_rfl) (by kernel_rfl) (by kernel_rfl) (fun _ _ _ h => h) (Or.inl ⟨by rfl, ?_⟩) ((And.intro x_r_s0 x_w_s0)) ?_
    rotate_left
    · intro wq hSq
      have cq := (hSq.2).c 1 _ g0
      have zq := lt_of_cell cq
      go_simp
      exact rfl
    try simp only [Act.put, List.setIfInBounds_toArray, List.set_cons_zero, List.set_cons_succ]
    refine takeH 4 10 (v := ?vs4_5) rfl (by rfl) (by kernel_rfl) (by kernel_rfl) (by kernel_rfl) (fun _ _ _ h => h) (Or.inl ⟨by rfl, ?_⟩) ((And.intro x_r_s0 x_w_s0)) ?_
    rotate_left
    · intro wq hSq
      go_simp
      exact rfl
    try simp only [Act.put, List.setIfInBounds_toArray, List.set_cons_zero, List.set_cons_succ]
    refine takeH 5 11 (v := ?vs5_6) rfl (by rfl) (by kernel_rfl) (by kernel_rfl) (by kernel_rfl) (fun _ _ _ h => h) (Or.inl ⟨by rfl, ?_⟩) ((And.intro x_r_s0 x_w_s0)) ?_
    rotate_left
    · intro wq hSq
      go_simp
      exact rfl
    try simp only [Act.put, List.setIfInBounds_toArray, List.set_cons_zero, List.set_cons_succ]
    refine takeH 6 12 (v := ?vs6_7) rfl (by rfl) (by kernel_rfl) (by kernel_rfl) (by kernel_rfl) (fun _ _ _ h => h) (Or.inl ⟨by rfl, ?_⟩) ((And.intro x_r_s0 x_w_s0)) ?_
    rotate_left
    · intro wq hSq
      go_simp
      exact rfl
    try simp only [Act.put, List.setIfInBounds_toArray, List.set_cons_zero, List.set_cons_succ]
    refine takeH 7 13 (v := ?vs7_8) rfl (by rfl) (by kernel_rfl) (by kernel_rfl) (by kernel_rfl) (fun _ _ _ h => h) (Or.inl ⟨by rfl, ?_⟩) ((And.intro x_r_s0 x_w_s0)) ?_
    rotate_left
    · intro wq hSq
      go_simp
      exact rfl
    try simp only [Act.put, List.setIfInBounds_toArray, List.set_cons_zero, List.set_cons_succ]
    refine takeH 8 14 (v := ?vs8_9) rfl (by rfl) (by kernel_rfl) (by kernel_rfl) (by kernel_rfl) (fun _ _ _ h => h) (Or.inl ⟨by rfl, ?_⟩) ((And.intro x_r_s0 x_w_s0)) ?_
    rotate_left
    · intro wq hSq
      have cq := (hSq.2).c 137 _ g4
      have zq := lt_of_cell cq
      go_simp
      exact rfl
    try simp only [Act.put, List.setIfInBounds_toArray, List.set_cons_zero, List.set_cons_succ]
    refine takeH 9 15 (v := ?vs9_10) rfl (by rfl) (by kernel_rfl) (by kernel_rfl) (by kernel_rfl) (fun _ _ _ h => h) (Or.inl ⟨by rfl, ?_⟩) ((And.intro x_r_s0 x_w_s0)) ?_
    rotate_left
    · intro wq hSq
      go_simp
      exact rfl
    try simp only [Act.put, List.setIfInBounds_toArray, List.set_cons_zero, List.set_cons_succ]
    refine takeH 10 16 (v := ?vs10_11) rfl (by rfl) (by kernel_rfl) (by kernel_rfl) (by kernel_rfl) (fun _ _ _ h => h) (Or.inl ⟨by rfl, ?_⟩) ((And.intro x_r_s0 x_w_s0)) ?_
    rotate_left
    · intro wq hSq
      go_simp
      exact rfl
    try simp only [Act.put, List.setIfInBounds_toArray, List.set_cons_zero, List.set_cons_succ]
    refine takeH 11 17 (v := ?vs11_12) rfl (by rfl) (by kernel_rfl) (by kernel_rfl) (by kernel_rfl) (fun _ _ _ h => h) (Or.inl ⟨by rfl, ?_⟩) ((And.intro x_r_s0 x_w_s0)) ?_
    rotate_left
    · intro wq hSq
      go_simp
      exact rfl
    try simp only [Act.put, List.setIfInBounds_toArray, List.set_cons_zero, List.set_cons_succ]
    refine takeH 12 18 (v := ?vs12_13) rfl (by rfl) (by kernel_rfl) (by kernel_rfl) (by kernel_rfl) (fun _ _ _ h => h) (Or.inl ⟨by rfl, ?_⟩) ((And.intro x_r_s0 x_w_s0)) ?_
    rotate_left
    · intro wq hSq
      go_simp
      exact rfl
    try simp only [Act.put, List.setIfInBounds_toArray, List.set_cons_zero, List.set_cons_succ]
    refine takeH 13 19 (v := ?vs13_14) rfl (by rfl) (by kernel_rfl) (by kernel_rfl) (by kernel_rfl) (fun _ _ _ h => h) (Or.inl ⟨by rfl, ?_⟩) ((And.intro x_r_s0 x_w_s0)) ?_
    rotate_left
    · intro wq hSq
      have cq := (hSq.2).c 273 _ g8
      have zq := lt_of_cell cq
      go_simp
      exact rfl
    try simp only [Act.put, List.setIfInBounds_toArray, List.set_cons_zero, List.set_cons_succ]
    refine takeH 14 20 (v := .agg U0.toArray) rfl (by rfl) (by kernel_rfl) (by kernel_rfl) (by kernel_rfl) (fun _ _ _ h => h) (yieldsIf_build (by rfl) _ _ rfl (us := #[(0, .int .u8 zc), (1, .int .u32 zt), (3, .int .u64 zx)]) (by rfl) BT) ((And.intro x_r_s0 x_w_s0)) ?_
    try simp only [Act.put, List.setIfInBounds_toArray, List.set_cons_zero, List.set_cons_succ]
    refine wpAnyH_ready (rs := [15]) (by kernel_rfl) (by simp) (AllReadyH.cons rfl (fun K hK => ?_) AllReadyH.nil)
    go_simp
    have la15 := (x_r_s0).lt; have lb15 := (x_w_s0).lt
    refine hK.out _ _ (And.intro (Box.alloc x_r_s0 _) (Box.alloc x_w_s0 _)) (fun _ => ?_); clear hK K
    refine F_gen (F := fun W => wpAnyH _ _ _ _ _ _ _ _ W) (J := fun W => Box W (Ws0.heap.size) Rep.zero.v ∧ Below Ws0.heap.size Ws0 W) (And.intro (Box.newc rfl rfl) ((Below.refl _ _).alloc (Nat.le_refl _) _)) ?_
    intro Ws15 ⟨na_c_s15, hbs15⟩
    have x_r_s15 : Box Ws15 (w.heap.size) (Rep.zero.v) := Box.below x_r_s0 hbs15
    have x_w_s15 : Box Ws15 (g) (FR) := Box.below x_w_s0 hbs15
    have Bs15 := below_thru Bs0 hbs15
    clear x_r_s0 x_w_s0 Bs0 hbs15
    refine wpAnyH_ready (rs := [16]) (by kernel_rfl) (by simp) (AllReadyH.cons rfl (fun K hK => ?_) AllReadyH.nil)
    have nz_r := (x_r_s15).lt
    have nz_w := (x_w_s15).lt
    refine step_store_box0 (cs := U0) rfl rfl _ _ _ rfl na_c_s15 rfl rfl S0.out L0.out O0.out ?_
    intro Ws16 hWs16
    have x_r_s16 : Box Ws16 (w.heap.size) (Rep.zero.v) := hWs16.past _ _ (by omega) x_r_s15
    have x_w_s16 : Box Ws16 (g) (FR) := hWs16.past _ _ (by omega) x_w_s15
    have z_c_s16 := hWs16.box
    have Bs16 := hWs16.below _ _ (by omega) Bs15
    clear nz_r nz_w x_r_s15 x_w_s15 na_c_s15 Bs15 hWs16
    refine hK.out _ _ (And.intro x_r_s16 x_w_s16) (fun _ => ?_); clear hK K
    refine wpAnyH_done (by kernel_rfl) ?_ _
    go_wp2_with fail
    go_meet
    exact ⟨_, rfl, la15, lb15, z_c_s16, x_r_s16, x_w_s16, Bs16⟩
  case rest =>
    obtain ⟨b7, rfl, lo4, lo5, x_c1, x_r1, x_w1, hB1⟩ := hcut
    clear x_r0 x_w0 hB0 hs0
    have hs1 := hB1.size
    go_wp2_with fail
    refine wp_loop_rounds 5 ?_
    rw [rounds_succ]
    have d_f5_r := (x_r1).lt
    have d_f5_w := (x_w1).lt
    have d_f5_c := (x_c1).lt
    have d_f5_0 := hs1
    go_upto_region 5 with (first
      | (refine wpList_load_rangew rfl _ _ rfl (Box.rangeMid x_w1 170 (F5) (rest5) D5.out) rfl Try.underlying54 rfl Sv5.out ?_)
      | (refine wpList_store_box (cs := F5) rfl _ _ _ rfl (Box.newc (l := Fd.zero.v) rfl rfl) rfl rfl Sv5.out Lv5.out Ov5.out ?_; intro W1_0 hW1_0))
    have hN : Below wc.heap.size wc W1_0 := (hW1_0.below _ _ (by omega) ((Below.refl _ wc).alloc (Nat.le_refl _) _))
    have x_f52 : Box W1_0 (wc.heap.size) (F5) := hW1_0.box
    have hB2 : Below w.heap.size w W1_0 := below_thru hB1 hN
    have hs2 := hB2.size
    have x_r2 : Box W1_0 (w.heap.size) (Rep.zero.v) := Box.below x_r1 hN
    have x_w2 : Box W1_0 (g) (FR) := Box.below x_w1 hN
    have x_c2 : Box W1_0 (b7) (U0) := Box.below x_c1 hN
    clear hB1 hs1 x_r1 x_w1 x_c1
    clear hN hW1_0
    have cy := (x_f52).c 1 _ u5x
    have zy := (x_f52).lt
    have lq_r := (x_r2).lt
    have lq_w := (x_w2).lt
    have lq_c := (x_c2).lt
    have lq_f5 := (x_f52).lt
    go_upto_region 6 with (first | (refine wpList_store_cell (k := 2) (ws := U1) (v := .int .u32 za) rfl _ _ _ rfl x_c2 rfl rfl rfl rfl size_u32n (by rw [N0.out]; decide) W1.out ?_; intro S2_0 hS2_0))
    have x_r3 : Box S2_0 (w.heap.size) (Rep.zero.v) := (hS2_0.past _ _ (by omega) x_r2)
    have x_w3 : Box S2_0 (g) (FR) := (hS2_0.past _ _ (by omega) x_w2)
    have x_c3 := hS2_0.box
    have x_f53 : Box S2_0 (wc.heap.size) (F5) := (hS2_0.past _ _ (by omega) x_f52)
    have hB3 := (hS2_0.below _ _ (by omega) hB2); have hs3 := hB3.size
    clear x_r2 x_w2 x_c2 x_f52 hB2 hs2 lq_r lq_w lq_c lq_f5
    clear hS2_0
    clear cy zy
    clear x_f53
    go_wp2_with fail
    rw [rounds_succ]
    have d_f6_r := (x_r3).lt
    have d_f6_w := (x_w3).lt
    have d_f6_c := (x_c3).lt
    have d_f6_0 := hs3
    go_upto_region 5 with (first
      | (refine wpList_load_rangew rfl _ _ rfl (Box.rangeMid x_w3 204 (F6) (rest6) D6.out) rfl Try.underlying54 rfl Sv6.out ?_)
      | (refine wpList_store_box (cs := F6) rfl _ _ _ rfl (Box.newc (l := Fd.zero.v) rfl rfl) rfl rfl Sv6.out Lv6.out Ov6.out ?_; intro W3_0 hW3_0))
    have hN : Below S2_0.heap.size S2_0 W3_0 := (hW3_0.below _ _ (by omega) ((Below.refl _ S2_0).alloc (Nat.le_refl _) _))
    have x_f64 : Box W3_0 (S2_0.heap.size) (F6) := hW3_0.box
    have hB4 : Below w.heap.size w W3_0 := below_thru hB3 hN
    have hs4 := hB4.size
    have x_r4 : Box W3_0 (w.heap.size) (Rep.zero.v) := Box.below x_r3 hN
    have x_w4 : Box W3_0 (g) (FR) := Box.below x_w3 hN
    have x_c4 : Box W3_0 (b7) (U1) := Box.below x_c3 hN
    clear hB3 hs3 x_r3 x_w3 x_c3
    clear hN hW3_0
    have cy := (x_f64).c 1 _ u6x
    have zy := (x_f64).lt
    have lq_r := (x_r4).lt
    have lq_w := (x_w4).lt
    have lq_c := (x_c4).lt
    have lq_f6 := (x_f64).lt
    go_upto_region 6 with (first | (refine wpList_store_cell (k := 3) (ws := U2) (v := .int .u32 zb) rfl _ _ _ rfl x_c4 rfl rfl rfl rfl size_u32n (by rw [N1.out]; decide) W2.out ?_; intro S4_0 hS4_0))
    have x_r5 : Box S4_0 (w.heap.size) (Rep.zero.v) := (hS4_0.past _ _ (by omega) x_r4)
    have x_w5 : Box S4_0 (g) (FR) := (hS4_0.past _ _ (by omega) x_w4)
    have x_c5 := hS4_0.box
    have x_f65 : Box S4_0 (S2_0.heap.size) (F6) := (hS4_0.past _ _ (by omega) x_f64)
    have hB5 := (hS4_0.below _ _ (by omega) hB4); have hs5 := hB5.size
    clear x_r4 x_w4 x_c4 x_f64 hB4 hs4 lq_r lq_w lq_c lq_f6
    clear hS4_0
    clear cy zy
    clear x_f65
    go_wp2_with fail
    rw [rounds_succ]
    have d_f7_r := (x_r5).lt
    have d_f7_w := (x_w5).lt
    have d_f7_c := (x_c5).lt
    have d_f7_0 := hs5
    go_upto_region 5 with (first
      | (refine wpList_load_rangew rfl _ _ rfl (Box.rangeMid x_w5 238 (F7) (rest7) D7.out) rfl Try.underlying54 rfl Sv7.out ?_)
      | (refine wpList_store_box (cs := F7) rfl _ _ _ rfl (Box.newc (l := Fd.zero.v) rfl rfl) rfl rfl Sv7.out Lv7.out Ov7.out ?_; intro W5_0 hW5_0))
    have hN : Below S4_0.heap.size S4_0 W5_0 := (hW5_0.below _ _ (by omega) ((Below.refl _ S4_0).alloc (Nat.le_refl _) _))
    have x_f76 : Box W5_0 (S4_0.heap.size) (F7) := hW5_0.box
    have hB6 : Below w.heap.size w W5_0 := below_thru hB5 hN
    have hs6 := hB6.size
    have x_r6 : Box W5_0 (w.heap.size) (Rep.zero.v) := Box.below x_r5 hN
    have x_w6 : Box W5_0 (g) (FR) := Box.below x_w5 hN
    have x_c6 : Box W5_0 (b7) (U2) := Box.below x_c5 hN
    clear hB5 hs5 x_r5 x_w5 x_c5
    clear hN hW5_0
    have cy := (x_f76).c 1 _ u7x
    have zy := (x_f76).lt
    have lq_r := (x_r6).lt
    have lq_w := (x_w6).lt
    have lq_c := (x_c6).lt
    have lq_f7 := (x_f76).lt
    go_upto_region 6 with (first | (refine wpList_store_cell (k := 4) (ws := V) (v := .int .u32 zd) rfl _ _ _ rfl x_c6 rfl rfl rfl rfl size_u32n (by rw [N2.out]; decide) W3.out ?_; intro S6_0 hS6_0))
    have x_r7 : Box S6_0 (w.heap.size) (Rep.zero.v) := (hS6_0.past _ _ (by omega) x_r6)
    have x_w7 : Box S6_0 (g) (FR) := (hS6_0.past _ _ (by omega) x_w6)
    have x_c7 := hS6_0.box
    have x_f77 : Box S6_0 (S4_0.heap.size) (F7) := (hS6_0.past _ _ (by omega) x_f76)
    have hB7 := (hS6_0.below _ _ (by omega) hB6); have hs7 := hB7.size
    clear x_r6 x_w6 x_c6 x_f76 hB6 hs6 lq_r lq_w lq_c lq_f7
    clear hS6_0
    clear cy zy
    clear x_f77
    go_wp2_with fail
    rw [rounds_succ]
    have lq := (x_r7).lt
    go_wp2_with (first | (refine wpList_load_box9 rfl _ _ rfl x_c7 rfl Try.underlying26 rfl SV.out ?_) | (refine wpList_store_box (cs := V) rfl _ _ _ rfl x_r7 rfl rfl SV.out LV.out OV.out ?_; intro W9 hW9))
    exact bodyPost_ret (results_box Try.results25 hW9.box rfl Try.underlying26 rfl SV.out) rfl ⟨rfl, hW9.below _ _ (by omega) hB7⟩

end Go.Proofs.Ytipkgflonioacaa
