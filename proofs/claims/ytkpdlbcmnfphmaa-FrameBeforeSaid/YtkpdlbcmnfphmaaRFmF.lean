/-
  The reference of layer 9, walked: Parse of 59 bytes, or of another number.
-/
import Derived.Test.YtkpdlbcmnfphmaaRFmE
import Derived.Test.YtkpdlbcmnfphmaaFmK
namespace Go.Proofs.Ytkpdlbcmnfphmaa
open Go.RowKit

theorem sameb_ff {v1 v2 : Value} {xs ys : List Int} (w : World) (h1 : IsL w .u8 v1 xs) (h2 : IsL w .u8 v2 ys) (h : xs ≠ ys) : Calls Try.prog 22 #[v1, v2] w fun e w' => e = .returned (.bool false) ∧ Below w.heap.size w w' := by
  obtain ⟨a1, c1, rfl, i1, _⟩ := h1
  obtain ⟨a2, c2, rfl, i2, _⟩ := h2
  refine (sameb_any a1 a2 c1 c2 xs ys w i1 i2).mono fun e w' ⟨he, n, hw⟩ => ⟨by rw [he, show sameB xs ys = false from decide_eq_false h], ?_⟩
  rw [hw]; exact below_drewN (Below.refl _ _) n
def RCase (F : Frm) (bs : List Int) (G : Frm) (q : Int) : Prop := (F.Ok ∧ F.bs = bs ∧ F = G ∧ q = 0) ∨ (F.Ok ∧ F.bs ≠ bs ∧ G = Frm.zero ∧ q = 12) ∨ (¬ F.Ok ∧ G = Frm.zero ∧ q = 12)

set_option maxRecDepth 100000 in
set_option maxHeartbeats 12800000 in
theorem rp_59 (r : Req) (x : Int) {G : Frm} {q : Int} (hc : RCase (Frm.req r) (x :: r.bs) G q) {v : Value} (w : World) (h1 : IsL w .u8 v (x :: r.bs)) : Calls Try.prog 23 #[v] w fun e w' => e = .returned (.tuple #[.agg (mcell G).toArray, .int .i64 q]) ∧ Below w.heap.size w w' := by
  have hcase := Lib.hid hc
  unfold RCase at hcase
  clear hc
  have hl : (x :: r.bs).length = 59 := by rw [List.length_cons, r.bs_len]
  obtain ⟨a0, c0, rfl, hr, _⟩ := id h1
  have i1 := hr.room
  have i2 := hr.most
  obtain ⟨b, off, rfl, _⟩ := h1.get 0 (by omega)
  have HV := Lib.hid h1
  have e0 : x :: r.bs = (x :: (r.k.msg ++ r.g)) ++ (be 2 r.ep ++ be 4 r.co) := by unfold Req.bs; simp
  have l53 : (x :: (r.k.msg ++ r.g)).length = 53 := by rw [List.length_cons, List.length_append, r.k.msg_len, r.hg]
  have c1 : ((x :: r.bs).take 53).drop 1 = r.k.msg ++ r.g := by rw [e0, List.take_left' l53]; rfl
  have c2 : ((x :: r.bs).take 55).drop 53 = be 2 r.ep := by rw [e0, List.drop_take, List.drop_left' l53, List.take_left' (be_len 2 _)]
  have c3 : ((x :: r.bs).take (55 + 4)).drop 55 = be 4 r.co := by rw [List.take_of_length_le (by omega), show x :: r.bs = ((x :: (r.k.msg ++ r.g)) ++ be 2 r.ep) ++ be 4 r.co by rw [e0, List.append_assoc], List.drop_left' (by rw [List.length_append, l53, be_len])]
  have S1 := Lib.hid (show IsL w .u8 (.slice (some ⟨b, off + 1, none⟩) 52 (c0 - 1)) (r.k.msg ++ r.g) by rw [← c1]; exact (h1.taken (m := 53) (by omega)).dropped (by rw [List.length_take]; omega) (by rw [List.length_take]; omega) rfl (Or.inl rfl))
  have S2 := Lib.hid (show IsL w .u8 (.slice (some ⟨b, off + 53, none⟩) 2 (c0 - 53)) (be 2 r.ep) by rw [← c2]; exact (h1.taken (m := 55) (by omega)).dropped (by rw [List.length_take]; omega) (by rw [List.length_take]; omega) rfl (Or.inl rfl))
  have TR := fun (W : World) (v : Value) (h : IsL W .u8 v (r.k.msg ++ r.g)) => rread_ok r.k r.hg W h
  have hep := r.hep; have hco := r.hco
  have N2 := fun (W : World) (v : Value) (h : IsL W .u8 v (be 2 r.ep)) => rnum_is W h (by rw [be_len]; omega) (be_byts _ _)
  rw [num_be 2 r.ep hep.1 (by rw [p256_2]; omega)] at N2
  have CW : ∀ (W : World) (v : Value), IsL W .u8 v (x :: r.bs) → Calls Try.prog 35 #[v, .int .i64 55] W fun e w' => e = .returned (.int .u32 r.co) ∧ Below W.heap.size W w' := fun W v h => word9_is (k := 55) W h (by omega) (by omega) c3 (be_byts _ _) (num_be 4 r.co hco.1 (by rw [p256_4]; omega)) hco
  have BT := fun W => build_rq r.k r.hg r.ep r.co W
  have HRC : rcell r = tcell r.k r.g ++ [.int .u16 r.ep, .int .u32 r.co] := rfl
  rw [← HRC] at BT
  clear HRC
  have we : IntKind.u16.wrap r.ep = r.ep := by rw [IntKind.wrap_u16]; omega
  have ST := Lib.hid (size_tok r.k r.hg); have LT := Lib.hid (len_tok Nums.zero r.k z32 r.hg); have OT := Lib.hid (tcell_one r.k r.g)
  have SR := Lib.hid (size_req r); have OR := Lib.hid (one_req r); have NR : Hid ((rcell r).length = 38) := Lib.hid (rcell_len r)
  have SZ := Lib.hid (size_frm Frm.zero); have OZ := Lib.hid (one_frm Frm.zero); have LZ := Lib.hid (len_frm Frm.zero Frm.zero); have BZ0 := fun W => build_m0 W; have SVF := Lib.hid (size_frm (Frm.req r))
  obtain ⟨U1, W1⟩ : ∃ U, Hid (U = (mcell Frm.zero).set 0 (.int .u8 1)) := ⟨_, Lib.hid rfl⟩
  have N0 : Hid ((mcell Frm.zero).length = 86) := Lib.hid (mcell_len _); have N1 : Hid (U1.length = 86) := Lib.hid (by rw [W1.out, List.length_set, N0.out])
  have W2 : Hid (mcell (Frm.req r) = U1.take 1 ++ rcell r ++ U1.drop (1 + (rcell r).length)) := Lib.hid (by
    have e1 : U1.take 1 = [.int .u8 1] := by rw [W1.out]; rfl
    have e2 : U1.drop (1 + (rcell r).length) = ccell Cmd.zero := by
      rw [W1.out, rcell_len]
      have h := mcell_c Frm.zero
      rw [List.append_nil] at h
      exact h
    rw [e1, e2]; rfl)
  obtain ⟨FR, hFR⟩ : ∃ F, Frm.req r = F := ⟨_, rfl⟩
  obtain ⟨bs, hbs⟩ : ∃ X, x :: r.bs = X := ⟨_, rfl⟩
  rw [hFR] at hcase W2 SVF
  rw [hbs] at hcase HV CW hl
  rw [hbs, hl]
  have hj : ¬ c0 = 1 ∧ ¬ c0 = 53 ∧ (1 : Int) ≤ (c0 : Int) ∧ (53 : Int) ≤ (c0 : Int) ∧ (55 : Int) ≤ (c0 : Int) ∧ ¬ c0 = 0 := by rw [hbs, hl] at i1; omega
  obtain ⟨j1, j53, q1, q53, q55, j0⟩ := hj
  rw [hl] at HV
  obtain ⟨V, hV⟩ : ∃ V, mcell FR = V := ⟨_, rfl⟩
  have HVV := Lib.hid hV
  rw [hV] at W2 SVF
  obtain ⟨TC, hTC⟩ : ∃ X, tcell r.k r.g = X := ⟨_, rfl⟩
  obtain ⟨RC, hRC⟩ : ∃ X, rcell r = X := ⟨_, rfl⟩
  obtain ⟨X1, hX1⟩ : ∃ X, r.k.msg ++ r.g = X := ⟨_, rfl⟩
  obtain ⟨E, hE⟩ : ∃ X, be 2 r.ep = X := ⟨_, rfl⟩
  rw [hTC] at TR ST LT OT BT
  rw [hRC] at BT SR OR NR W2
  rw [hX1] at TR S1
  rw [hE] at N2 S2
  clear hr h1 hl e0 l53 c1 c2 c3 hep hco hFR hbs hV hTC hRC hX1 hE i1
  go_enter Try.func23, Try.ntmps23
  go_upto_region 1 with fail
  refine F_gen (F := fun W => Code.wp _ _ _ _ W) (J := fun W => Box W (w.heap.size) (mcell Frm.zero) ∧ Below w.heap.size w W) (And.intro (Box.newc rfl rfl) (by go_grown)) ?_
  intro w0 ⟨e_r, hB0⟩
  have hs0 := hB0.size
  have x_r0 := e_r; clear e_r
  have d_f_r := (x_r0).lt
  have d_f_0 := hs0
  go_upto_region 2 with (first
    | (refine wpList_build9 rfl 43 _ rfl (us := #[]) (by rfl) (BZ0 _) ?_)
    | (refine wpList_store_box (cs := mcell Frm.zero) rfl _ _ _ rfl (Box.newc (l := mcell Frm.zero) rfl rfl) rfl rfl SZ.out LZ.out OZ.out ?_; intro W0_0 hW0_0))
  have hN : Below w0.heap.size w0 W0_0 := (hW0_0.below _ _ (by omega) ((Below.refl _ w0).alloc (Nat.le_refl _) _))
  have x_f1 : Box W0_0 (w0.heap.size) (mcell Frm.zero) := hW0_0.box
  have hB1 : Below w.heap.size w W0_0 := below_thru hB0 hN
  have hs1 := hB1.size
  have x_r1 : Box W0_0 (w.heap.size) (mcell Frm.zero) := Box.below x_r0 hN
  clear hB0 hs0 x_r0
  clear hN hW0_0
  go_wp2_with fail
  refine (TR _ _ (S1.out.below hB1)).mono ?_
  rintro e w2 ⟨rfl, hb⟩
  have hB2 : Below w.heap.size w w2 := below_thru hB1 hb
  have hs2 := hB2.size
  have x_r2 : Box w2 (w.heap.size) (mcell Frm.zero) := Box.below x_r1 hb
  have x_f2 : Box w2 (w0.heap.size) (mcell Frm.zero) := Box.below x_f1 hb
  clear hB1 hs1 x_r1 x_f1
  clear hb
  have d_t_r := (x_r2).lt
  have d_t_f := (x_f2).lt
  have d_t_0 := hs2
  go_upto_region 6 with (refine wpList_store_box (cs := TC) rfl _ _ _ rfl (Box.newc (l := zeroT) rfl rfl) rfl rfl ST.out LT.out OT.out ?_; intro W2_0 hW2_0)
  have hN : Below w2.heap.size w2 W2_0 := (hW2_0.below _ _ (by omega) ((Below.refl _ w2).alloc (Nat.le_refl _) _))
  have x_t3 : Box W2_0 (w2.heap.size) (TC) := hW2_0.box
  have hB3 : Below w.heap.size w W2_0 := below_thru hB2 hN
  have hs3 := hB3.size
  have x_r3 : Box W2_0 (w.heap.size) (mcell Frm.zero) := Box.below x_r2 hN
  have x_f3 : Box W2_0 (w0.heap.size) (mcell Frm.zero) := Box.below x_f2 hN
  clear hB2 hs2 x_r2 x_f2
  clear hN hW2_0
  have lo2 := (x_r3).lt; have lo3 := (x_f3).lt; have lo4 := (x_t3).lt
  go_upto_region 7 with (refine wpList_store_cell (k := 0) (ws := U1) (v := .int .u8 1) rfl _ _ _ rfl x_f3 rfl rfl rfl rfl size_u8n (by rw [N0.out]; decide) W1.out ?_; intro W7 hW7)
  have x_r4 : Box W7 (w.heap.size) (mcell Frm.zero) := hW7.past _ _ (by omega) x_r3
  have x_f4 := hW7.box
  have x_t4 : Box W7 (w2.heap.size) (TC) := hW7.past _ _ (by omega) x_t3
  have hB4 := hW7.below _ _ (by omega) hB3; have hs4 := hB4.size
  clear hW7 x_r3 x_f3 x_t3 hB3 hs3 lo2 lo3 lo4
  refine wp_region_held_drew (S := fun W => Box W (w.heap.size) (mcell Frm.zero) ∧ Box W (w2.heap.size) (TC)) (by kernel_rfl) (And.intro (x_r4).drew (x_t4).drew) (fun _ => ?_)
  refine F_drew (F := fun W => wpAnyH _ _ _ _ _ _ _ _ W) ?_
  intro Ws0 hbs0
  clear hs4
  have x_r_s0 : Box Ws0 (w.heap.size) (mcell Frm.zero) := Box.below x_r4 hbs0
  have x_t_s0 : Box Ws0 (w2.heap.size) (TC) := Box.below x_t4 hbs0
  have z_f_s0 : Box Ws0 (w0.heap.size) (U1) := Box.below x_f4 hbs0
  have Bs0 := below_thru hB4 hbs0
  clear x_r4 x_t4 x_f4 hB4 hbs0
  refine takeH 1 24 (v := ?vs1_1) rfl (by rfl) (by kernel_rfl) (by kernel_rfl) (by kernel_rfl) (fun _ _ _ h => h) (Or.inl ⟨by rfl, ?_⟩) ((And.intro x_r_s0 x_t_s0)) ?_
  rotate_left
  · intro wq hSq
    go_simp
    exact rfl
  try simp only [Act.put, List.setIfInBounds_toArray, List.set_cons_zero, List.set_cons_succ]
  refine takeH 2 25 (v := ?vs2_2) rfl (by rfl) (by kernel_rfl) (by kernel_rfl) (by kernel_rfl) (fun _ _ _ h => h) (Or.inl ⟨by rfl, ?_⟩) ((And.intro x_r_s0 x_t_s0)) ?_
  rotate_left
  · intro wq hSq
    go_simp
    exact rfl
  try simp only [Act.put, List.setIfInBounds_toArray, List.set_cons_zero, List.set_cons_succ]
  refine takeH 5 28 (v := ?vs5_3) rfl (by rfl) (by kernel_rfl) (by kernel_rfl) (by kernel_rfl) (fun _ _ _ h => h) (Or.inl ⟨by rfl, ?_⟩) ((And.intro x_r_s0 x_t_s0)) ?_
  rotate_left
  · intro wq hSq
    go_simp
    exact rfl
  try simp only [Act.put, List.setIfInBounds_toArray, List.set_cons_zero, List.set_cons_succ]
  refine takeH 0 23 (v := .agg (TC).toArray) rfl (by rfl) (by kernel_rfl) (by kernel_rfl) (by kernel_rfl) (fun _ _ _ h => h) (yieldsIf_load_mid (by rfl) _ _ rfl _ _ rfl (TC) _ (fun wq hq => Box.range (hq.2)) Try.underlying38 rfl ST.out) ((And.intro x_r_s0 x_t_s0)) ?_
  try simp only [Act.put, List.setIfInBounds_toArray, List.set_cons_zero, List.set_cons_succ]
  refine wpAnyH_ready (rs := [3]) (by kernel_rfl) (by simp) (AllReadyH.cons rfl (fun K hK => ?_) AllReadyH.nil)
  go_simp
  refine (N2 _ _ (S2.out.below Bs0)).mono ?_
  rintro e Ws4 ⟨rfl, hbs4⟩
  have x_r_s4 : Box Ws4 (w.heap.size) (mcell Frm.zero) := Box.below x_r_s0 hbs4
  have x_t_s4 : Box Ws4 (w2.heap.size) (TC) := Box.below x_t_s0 hbs4
  have z_f_s4 : Box Ws4 (w0.heap.size) (U1) := Box.below z_f_s0 hbs4
  have Bs4 := below_thru Bs0 hbs4
  clear x_r_s0 x_t_s0 z_f_s0 Bs0 hbs4
  refine hK.out _ _ (And.intro x_r_s4 x_t_s4) (fun _ => ?_); clear hK K
  refine takeH 4 27 (v := ?vs4_5) rfl (by rfl) (by kernel_rfl) (by kernel_rfl) (by kernel_rfl) (fun _ _ _ h => h) (Or.inl ⟨by rfl, ?_⟩) ((And.intro x_r_s4 x_t_s4)) ?_
  rotate_left
  · intro wq hSq
    go_simp
    exact rfl
  try simp only [Act.put, List.setIfInBounds_toArray, List.set_cons_zero, List.set_cons_succ]
  refine wpAnyH_ready (rs := [6]) (by kernel_rfl) (by simp) (AllReadyH.cons rfl (fun K hK => ?_) AllReadyH.nil)
  go_simp
  refine (CW _ _ (HV.out.below Bs4)).mono ?_
  rintro e Ws6 ⟨rfl, hbs6⟩
  have x_r_s6 : Box Ws6 (w.heap.size) (mcell Frm.zero) := Box.below x_r_s4 hbs6
  have x_t_s6 : Box Ws6 (w2.heap.size) (TC) := Box.below x_t_s4 hbs6
  have z_f_s6 : Box Ws6 (w0.heap.size) (U1) := Box.below z_f_s4 hbs6
  have Bs6 := below_thru Bs4 hbs6
  clear x_r_s4 x_t_s4 z_f_s4 Bs4 hbs6
  refine hK.out _ _ (And.intro x_r_s6 x_t_s6) (fun _ => ?_); clear hK K
  refine takeH 7 30 (v := .agg RC.toArray) rfl (by rfl) (by kernel_rfl) (by kernel_rfl) (by kernel_rfl) (fun _ _ _ h => h) (yieldsIf_build (by rfl) _ _ rfl (us := #[(0, .agg TC.toArray), (1, .int .u16 r.ep), (2, .int .u32 r.co)]) (by rfl) BT) ((And.intro x_r_s6 x_t_s6)) ?_
  try simp only [Act.put, List.setIfInBounds_toArray, List.set_cons_zero, List.set_cons_succ]
  refine takeH 8 31 (v := ?vs8_7) rfl (by rfl) (by kernel_rfl) (by kernel_rfl) (by kernel_rfl) (fun _ _ _ h => h) (Or.inl ⟨by rfl, ?_⟩) ((And.intro x_r_s6 x_t_s6)) ?_
  rotate_left
  · intro wq hSq
    go_simp
    exact rfl
  try simp only [Act.put, List.setIfInBounds_toArray, List.set_cons_zero, List.set_cons_succ]
  refine wpAnyH_ready (rs := [9]) (by kernel_rfl) (by simp) (AllReadyH.cons rfl (fun K hK => ?_) AllReadyH.nil)
  have nz_r := (x_r_s6).lt
  have nz_t := (x_t_s6).lt
  refine step_store_part0 (k := 1) (cs := RC) (ws := V) rfl rfl _ _ _ rfl z_f_s6 rfl rfl SR.out (by rw [NR.out, N1.out]; decide) W2.out OR.out ?_
  intro Ws8 hWs8
  have x_r_s8 : Box Ws8 (w.heap.size) (mcell Frm.zero) := hWs8.past _ _ (by omega) x_r_s6
  have x_t_s8 : Box Ws8 (w2.heap.size) (TC) := hWs8.past _ _ (by omega) x_t_s6
  have z_f_s8 := hWs8.box
  have Bs8 := hWs8.below _ _ (by omega) Bs6
  clear nz_r nz_t x_r_s6 x_t_s6 z_f_s6 Bs6 hWs8
  refine hK.out _ _ (And.intro x_r_s8 x_t_s8) (fun _ => ?_); clear hK K
  refine wpAnyH_done (by kernel_rfl) ?_ _
  have hB5 := Bs8; have hs5 := hB5.size
  have x_r5 := x_r_s8
  have x_t5 := x_t_s8
  have x_f5 := z_f_s8
  clear Bs8 x_r_s8 x_t_s8 z_f_s8
  clear x_t5
  go_upto_region 20 with fail
  have BZ := fun W => build_m0 W
  have SZ2 := Lib.hid (size_frm Frm.zero)
  rcases hcase.out with ⟨hok, hbs, rfl, rfl⟩ | ⟨hok, hbs, rfl, rfl⟩ | ⟨hok, rfl, rfl⟩
  · skip
    have CK := fun W => rchk_is FR (q := 0) (Lib.hid (Or.inl ⟨rfl, hok⟩)) W
    have RB := fun W => rby_is FR (Frm.ok_kw hok) W
    have SV := Lib.hid (size_frm FR); have OV := Lib.hid (one_frm FR); have LV := Lib.hid (len_frm Frm.zero FR)
    rw [HVV.out] at CK RB SV OV LV
    have HBS := Lib.hid hbs
    clear hbs hok
    rw [HBS.out] at RB
    go_wp2_with (refine wpList_load_box9 rfl _ _ rfl x_f5 rfl Try.underlying43 rfl SVF.out ?_)
    refine (CK _).mono ?_
    rintro e w6 ⟨rfl, hb⟩
    clear CK
    have hB6 : Below w.heap.size w w6 := below_thru hB5 hb
    have hs6 := hB6.size
    have x_r6 : Box w6 (w.heap.size) (mcell Frm.zero) := Box.below x_r5 hb
    have x_f6 : Box w6 (w0.heap.size) (V) := Box.below x_f5 hb
    clear hB5 hs5 x_r5 x_f5
    clear hb
    go_wp2_with (refine wpList_load_box9 rfl _ _ rfl x_f6 rfl Try.underlying43 rfl SV.out ?_)
    refine (RB _).mono ?_
    rintro e w56 ⟨vo, rfl, hob, hb⟩
    have hB7 : Below w.heap.size w w56 := below_thru hB6 hb
    have hs7 := hB7.size
    have x_r7 : Box w56 (w.heap.size) (mcell Frm.zero) := Box.below x_r6 hb
    have x_f7 : Box w56 (w0.heap.size) (V) := Box.below x_f6 hb
    clear hB6 hs6 x_r6 x_f6
    clear hb
    have JO := IsL.own hob rfl
    clear hob
    go_wp2_with fail
    refine (sameb_tt _ JO (HV.out.below hB7)).mono ?_
    rintro e w67 ⟨rfl, hb⟩
    clear JO
    have hB8 : Below w.heap.size w w67 := below_thru hB7 hb
    have hs8 := hB8.size
    have x_r8 : Box w67 (w.heap.size) (mcell Frm.zero) := Box.below x_r7 hb
    have x_f8 : Box w67 (w0.heap.size) (V) := Box.below x_f7 hb
    clear hB7 hs7 x_r7 x_f7
    clear hb
    go_wp2_with (first | (refine wpList_load_box9 rfl _ _ rfl x_f8 rfl Try.underlying43 rfl SV.out ?_) | (refine wpList_store_box (cs := V) rfl _ _ _ rfl x_r8 rfl rfl SV.out LV.out OV.out ?_; intro W99 hW99))
    exact bodyPost_ret (results_box2 Try.results23 hW99.box rfl rfl Try.underlying43 rfl SV.out) rfl ⟨by rw [HVV.out]; rfl, hW99.below _ _ (by omega) hB8⟩
  · skip
    have CK := fun W => rchk_is FR (q := 0) (Lib.hid (Or.inl ⟨rfl, hok⟩)) W
    have RB := fun W => rby_is FR (Frm.ok_kw hok) W
    have SV := Lib.hid (size_frm FR); have OV := Lib.hid (one_frm FR); have LV := Lib.hid (len_frm Frm.zero FR)
    rw [HVV.out] at CK RB SV OV LV
    obtain ⟨X, hX⟩ : ∃ X, FR.bs = X := ⟨_, rfl⟩
    rw [hX] at RB hbs
    have HBS := Lib.hid hbs
    clear hbs hok hX
    go_wp2_with (refine wpList_load_box9 rfl _ _ rfl x_f5 rfl Try.underlying43 rfl SVF.out ?_)
    refine (CK _).mono ?_
    rintro e w6 ⟨rfl, hb⟩
    clear CK
    have hB6 : Below w.heap.size w w6 := below_thru hB5 hb
    have hs6 := hB6.size
    have x_r6 : Box w6 (w.heap.size) (mcell Frm.zero) := Box.below x_r5 hb
    have x_f6 : Box w6 (w0.heap.size) (V) := Box.below x_f5 hb
    clear hB5 hs5 x_r5 x_f5
    clear hb
    go_wp2_with (refine wpList_load_box9 rfl _ _ rfl x_f6 rfl Try.underlying43 rfl SV.out ?_)
    refine (RB _).mono ?_
    rintro e w56 ⟨vo, rfl, hob, hb⟩
    have hB7 : Below w.heap.size w w56 := below_thru hB6 hb
    have hs7 := hB7.size
    have x_r7 : Box w56 (w.heap.size) (mcell Frm.zero) := Box.below x_r6 hb
    have x_f7 : Box w56 (w0.heap.size) (V) := Box.below x_f6 hb
    clear hB6 hs6 x_r6 x_f6
    clear hb
    have JO := IsL.own hob rfl
    clear hob
    go_wp2_with fail
    refine (sameb_ff _ JO (HV.out.below hB7) HBS.out).mono ?_
    rintro e w67 ⟨rfl, hb⟩
    clear JO
    have hB8 : Below w.heap.size w w67 := below_thru hB7 hb
    have hs8 := hB8.size
    have x_r8 : Box w67 (w.heap.size) (mcell Frm.zero) := Box.below x_r7 hb
    have x_f8 : Box w67 (w0.heap.size) (V) := Box.below x_f7 hb
    clear hB7 hs7 x_r7 x_f7
    clear hb
    go_wp2_with (first | (refine wpList_build9 rfl 43 _ rfl (us := #[]) (by rfl) (BZ _) ?_) | (refine wpList_store_box (cs := mcell Frm.zero) rfl _ _ _ rfl x_r8 rfl rfl (size_frm Frm.zero) (len_frm Frm.zero Frm.zero) (one_frm Frm.zero) ?_; intro W99 hW99))
    exact bodyPost_ret (results_box2 Try.results23 hW99.box rfl rfl Try.underlying43 rfl SZ2.out) rfl ⟨rfl, hW99.below _ _ (by omega) hB8⟩
  · skip
    have CK := fun W => rchk_is FR (q := 8) (Lib.hid (Or.inr ⟨rfl, hok⟩)) W
    have SV := Lib.hid (size_frm FR)
    rw [HVV.out] at CK SV
    clear hok
    go_wp2_with (refine wpList_load_box9 rfl _ _ rfl x_f5 rfl Try.underlying43 rfl SVF.out ?_)
    refine (CK _).mono ?_
    rintro e w6 ⟨rfl, hb⟩
    clear CK
    have hB6 : Below w.heap.size w w6 := below_thru hB5 hb
    have hs6 := hB6.size
    have x_r6 : Box w6 (w.heap.size) (mcell Frm.zero) := Box.below x_r5 hb
    have x_f6 : Box w6 (w0.heap.size) (V) := Box.below x_f5 hb
    clear hB5 hs5 x_r5 x_f5
    clear hb
    go_wp2_with (first | (refine wpList_build9 rfl 43 _ rfl (us := #[]) (by rfl) (BZ _) ?_) | (refine wpList_store_box (cs := mcell Frm.zero) rfl _ _ _ rfl x_r6 rfl rfl (size_frm Frm.zero) (len_frm Frm.zero Frm.zero) (one_frm Frm.zero) ?_; intro W99 hW99))
    exact bodyPost_ret (results_box2 Try.results23 hW99.box rfl rfl Try.underlying43 rfl SZ2.out) rfl ⟨rfl, hW99.below _ _ (by omega) hB6⟩

set_option maxRecDepth 100000 in
set_option maxHeartbeats 3200000 in
theorem rp_n {bs : List Int} (d1 : ((bs.length : Int) == 59) = false) (d2 : ((bs.length : Int) == 88) = false) {v : Value} (w : World) (h1 : IsL w .u8 v bs) : Calls Try.prog 23 #[v] w fun e w' => e = .returned (.tuple #[.agg (mcell Frm.zero).toArray, .int .i64 12]) ∧ Below w.heap.size w w' := by
  obtain ⟨a0, c0, rfl, hr, _⟩ := id h1
  have i1 := hr.room
  have i2 := hr.most
  clear hr h1
  have SZ := Lib.hid (size_frm Frm.zero); have OZ := Lib.hid (one_frm Frm.zero); have LZ := Lib.hid (len_frm Frm.zero Frm.zero); have BZ := fun W => build_m0 W
  go_enter Try.func23, Try.ntmps23
  go_upto_region 1 with fail
  refine F_gen (F := fun W => Code.wp _ _ _ _ W) (J := fun W => Box W (w.heap.size) (mcell Frm.zero) ∧ Below w.heap.size w W) (And.intro (Box.newc rfl rfl) (by go_grown)) ?_
  intro w0 ⟨e_r, hB0⟩
  have hs0 := hB0.size
  have x_r0 := e_r; clear e_r
  have d_f_r := (x_r0).lt
  have d_f_0 := hs0
  go_upto_region 2 with (first
    | (refine wpList_build9 rfl 43 _ rfl (us := #[]) (by rfl) (BZ _) ?_)
    | (refine wpList_store_box (cs := mcell Frm.zero) rfl _ _ _ rfl (Box.newc (l := mcell Frm.zero) rfl rfl) rfl rfl SZ.out LZ.out OZ.out ?_; intro W0_0 hW0_0))
  have hN : Below w0.heap.size w0 W0_0 := (hW0_0.below _ _ (by omega) ((Below.refl _ w0).alloc (Nat.le_refl _) _))
  have x_f1 : Box W0_0 (w0.heap.size) (mcell Frm.zero) := hW0_0.box
  have hB1 : Below w.heap.size w W0_0 := below_thru hB0 hN
  have hs1 := hB1.size
  have x_r1 : Box W0_0 (w.heap.size) (mcell Frm.zero) := Box.below x_r0 hN
  clear hB0 hs0 x_r0
  clear hN hW0_0
  go_wp2_with (first | (refine wpList_build9 rfl 43 _ rfl (us := #[]) (by rfl) (BZ _) ?_) | (refine wpList_store_box (cs := mcell Frm.zero) rfl _ _ _ rfl x_r1 rfl rfl SZ.out LZ.out OZ.out ?_; intro W99 hW99))
  exact bodyPost_ret (results_box2 Try.results23 hW99.box rfl rfl Try.underlying43 rfl SZ.out) rfl ⟨rfl, hW99.below _ _ (by omega) hB1⟩

end Go.Proofs.Ytkpdlbcmnfphmaa
