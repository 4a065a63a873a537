/-
  Package frame, walked: commandKinds, requestOf, commandOf's function.
-/
import Derived.Test.YtkpdlbcmnfphmaaFmG
namespace Go.Proofs.Ytkpdlbcmnfphmaa
open Go.RowKit

theorem own_box {w : World} {B e s : Nat} {v : Value} {n : Nat} {xs : List Value} (h : w.ownsRow B e s v n xs) (hn : 0 < n) : ∃ g c, v = .slice (some ⟨g, 0, none⟩) n c ∧ B ≤ g ∧ n ≤ c ∧ c ≤ 9223372036854775807 ∧ Box w g xs := by
  have hl := h.1
  rcases h.2 with ⟨_, rfl⟩ | ⟨g, cap, cur, rfl, hb, hg, h1, h2, _⟩
  · omega
  · refine ⟨g, cap, rfl, hb, h1, h2, ⟨fun i v e => ?_, fun i v e => ?_, (Array.getElem?_eq_some_iff.1 hg).1⟩⟩
    · rw [h.cellAt i (by rw [← hl]; exact (List.getElem?_eq_some_iff.1 e).1)]
      exact e
    · exact h.frozenAt i
theorem IsR.ofBoxc {α : Type} {L : Lay α} {w : World} {b n c : Nat} {V : List Value} {xs : List α} (h : Box w b V) (hV : V = flatR L xs) (hn : n = xs.length) (h1 : n ≤ c) (h2 : c ≤ 9223372036854775807) : IsR L w (.slice (some ⟨b, 0, Option.none⟩) n c) xs := by
  subst hn hV
  refine ⟨_, c, rfl, h1, h2, fun _ => ⟨b, 0, rfl, fun i x hi j v hv => ?_⟩, fun q => by cases q⟩
  rw [Nat.zero_add]
  exact h.c _ _ (flatR_at hi hv)
set_option maxRecDepth 100000 in
set_option maxHeartbeats 1600000 in
theorem cof1_is {b i : Nat} {v : Value} {fs : List Fd} {f : Fd} (w : World) (hc : w.cell? ⟨b, 0, none⟩ = some v) (h1 : IsR LF w v fs) (hi : fs[i]? = some f) (hn : f.n ≤ 4294967295) (him : i ≤ 1000) : Calls Try.prog 56 #[.int .i64 i, .pointer (some ⟨b, 0, none⟩)] w fun e w' => e = .returned (.int .i64 f.n) ∧ w' = w := by
  obtain ⟨a0, c0, rfl, hr⟩ := id h1
  have i1 := hr.room
  have i2 := hr.most
  obtain ⟨b1, off, rfl, hR⟩ := h1.get 34 rfl hi
  have c1 := hR 1 (.int .u64 f.n) rfl
  have il := (List.getElem?_eq_some_iff.1 hi).1
  have hw : IntKind.i64.wrap f.n = f.n := by have := f.hn; rw [IntKind.wrap_i64]; omega
  obtain ⟨n, hnn⟩ : ∃ n, f.n = n := ⟨_, rfl⟩
  rw [hnn] at c1 hw ⊢
  have zb := lt_of_cell hc
  have zc := lt_of_cell c1
  have i3 : (i : Int) < (fs.length : Int) := by omega
  have i4 : (0 : Int) ≤ (i : Int) := by omega
  clear hr h1 hR hi hn hnn
  go_enter Try.func56, Try.ntmps56
  go_wp2_with fail
  go_returns
  exact ⟨rfl, rfl⟩

set_option maxRecDepth 100000 in
set_option maxHeartbeats 3200000 in
theorem ck_is (w : World) : Calls Try.prog 55 #[] w (GivesOwn kin9 w) := by
  obtain ⟨ti, hin, hz0, hz1, hz2⟩ := info_parts info_u8'
  have MR := fun W => mrow_is Cmd.zero Cmd.zero_wd W
  have BC := fun W => build_c0 W
  have HKK := crow_k Cmd.zero_wd
  have HL : (crow Cmd.zero).length = 16 := rfl
  obtain ⟨Z, hZ⟩ : ∃ V, ccell Cmd.zero = V := ⟨_, rfl⟩
  obtain ⟨fs, hfs⟩ : ∃ f, crow Cmd.zero = f := ⟨_, rfl⟩
  rw [hZ] at BC MR
  rw [hfs] at MR HKK HL
  clear hZ hfs
  have HT := Lib.hid (fun (k : Nat) (h : k < fs.length) => (show kin9.take (k + 1) = kin9.take k ++ [(fs[k]).k] by
    have e : (kin9.take 16)[k]? = some (fs[k]).k := by rw [← HKK, List.getElem?_map, List.getElem?_eq_getElem h]; rfl
    rw [List.getElem?_take_of_lt (by omega)] at e
    rw [List.take_add_one, e]
    rfl))
  have HE : Hid (kin9.take 16 ++ [6] = kin9) := Lib.hid rfl
  clear HKK
  have HLL := Lib.hid HL
  go_enter Try.func55, Try.ntmps55
  go_wp2_with (refine wpList_build9 rfl 31 _ rfl (us := #[]) (by rfl) (BC _) ?_)
  refine (MR _).mono ?_
  rintro e w1 ⟨vr, rfl, hr, hb⟩
  obtain ⟨a0, c0, rfl, hrr⟩ := id hr
  have hB1 : Below w.heap.size w w1 := hb
  have HR := Lib.hid hr
  have i1 := hrr.room
  have i2 := hrr.most
  rw [HL] at i1 HR ⊢
  clear hrr hr hb MR
  have hs1 := hB1.size
  go_wp2_with fail
  go_loopw [1, 7] (fun s1 s7 wr => ∃ k : Nat, s7 = .int .i64 k ∧ k ≤ 16 ∧ Hid (wr.ownsRow w1.heap.size 5 1 s1 k ((kin9.take k).map (Value.int .u8))) ∧ Below w1.heap.size w1 wr) (fun _ s7 _ => 16 - (intOf s7).toNat)
  case atStart => exact ⟨0, rfl, by omega, Lib.hid (by simpa using ownU_nil), Below.refl _ _⟩
  case round =>
    obtain ⟨k, rfl, hk, HO, hB⟩ := hrel
    have hs2 := hB.size
    by_cases hlt : k < 16
    case neg =>
      obtain rfl : k = 16 := by omega
      have HO2 := ownR_below HO.out ((Below.refl wr.heap.size wr).alloc (Nat.le_refl _) (.cells #[.int .u8 6] 5))
      go_wp2_with (at_builtin; refine wpList_append_ints rfl _ _ 33 rfl w1.heap.size 5 ti (.int .u8 0) 1 .u8 Try.underlying33 hin hz0 hz1 hz2 rfl _ 16 _ rfl HO2 _ 1 [6] rfl ((IsL.built [6] rfl rfl rfl rfl (by simp)).ints) (fun h => by cases h) (by unfold maxLen; simp) (by simp) (by simp; omega) ?_; intro v4 w4 hown4 hgrow4)
      have hB4 : Below w1.heap.size w1 w4 := (hB.alloc hs2 _).grown hgrow4 (by simp; omega) (own_block HO2)
      have hown5 : w4.ownsRow w.heap.size 5 1 v4 kin9.length (kin9.map (Value.int .u8)) := by
        have := ownR_base hown4 hs1
        rwa [← List.map_append, HE.out] at this
      clear hown4 hgrow4
      go_wp2_with fail
      go_returns
      exact ⟨_, rfl, hown5, below_thru hB1 hB4⟩
    case pos =>
      have hlf : k < fs.length := by have := HLL.out; omega
      obtain ⟨b, off, e0, hR⟩ := HR.out.get 34 rfl (List.getElem?_eq_getElem hlf)
      subst e0
      have hR1 := range_below hR hB
      have HTk := Lib.hid (HT.out k hlf)
      obtain ⟨f, hf⟩ : ∃ f, fs[k] = f := ⟨_, rfl⟩
      rw [hf] at hR1 HTk
      have hS := lenFld f
      have h1 := oneFld f
      have hz : Fd.zero.v.length = f.v.length := by rw [f.v_len, Fd.v_len]
      have v0 : f.v[0]? = some (.int .u8 f.k) := rfl
      clear hR hf
      obtain ⟨V, hV⟩ : ∃ V, f.v = V := ⟨_, rfl⟩
      rw [hV] at hS h1 hz v0
      rw [show LF.f f = V from hV] at hR1
      obtain ⟨K, hK⟩ : ∃ K, f.k = K := ⟨_, rfl⟩
      rw [hK] at v0 HTk
      clear hV hK
      have i3 : (k : Int) < 16 := by omega
      go_upto_region 5 with (first | refine wpList_load_range rfl _ _ rfl hR1 rfl Try.underlying83 rfl hS ?_ | (refine wpList_store_box (cs := V) rfl _ _ _ rfl (Box.newc (l := Fd.zero.v) rfl rfl) rfl rfl hS hz h1 ?_; intro W1 hW1))
      have hB3 : Below w1.heap.size w1 W1 := hW1.below _ _ hs2 (by go_grown)
      have hW : Below wr.heap.size wr W1 := hW1.below _ _ (Nat.le_refl _) (by go_grown)
      have hbx := hW1.box
      have HO1 := ownR_below HO.out hW
      have HO2 := ownR_below HO1 ((Below.refl W1.heap.size W1).alloc (Nat.le_refl _) (.cells #[.int .u8 K] 5))
      have hs3 := hB3.size
      have cK := hbx.c 0 _ v0
      have zK := hbx.lt
      clear HO hW1 hW hR1
      go_wp2_with (at_builtin; refine wpList_append_ints rfl _ _ 33 rfl w1.heap.size 5 ti (.int .u8 0) 1 .u8 Try.underlying33 hin hz0 hz1 hz2 rfl _ k _ rfl HO2 _ 1 [K] rfl ((IsL.built [K] rfl rfl rfl rfl (by simp)).ints) (fun h => by cases h) (by unfold maxLen; simp; omega) (by simp; omega) (by simp; omega) ?_; intro v4 w4 hown4 hgrow4)
      have hB4 : Below w1.heap.size w1 w4 := (hB3.alloc hs3 _).grown hgrow4 (by simp; omega) (own_block HO2)
      have HO4 : Hid (w4.ownsRow w1.heap.size 5 1 v4 (k + 1) ((kin9.take (k + 1)).map (Value.int .u8))) := Lib.hid (by rw [HTk.out, List.map_append]; exact hown4)
      clear hown4 hgrow4 HO1 HO2 cK zK hbx
      go_wp2_with fail
      go_roundw
      case rel => exact ⟨k + 1, by go_num, by omega, HO4, hB4⟩
      case measure => simp [intOf]; omega

theorem rea34 (r : Req) : reaE [3, 4] (be 2 r.ep ++ be 4 r.co) = 0 ∧ reaF [3, 4] (be 2 r.ep ++ be 4 r.co) = [fdN 3 r.ep, fdN 4 r.co] := by
  have := rea_of (row2_e r)
  rw [row2_b r] at this
  rwa [show [fdN 3 r.ep, fdN 4 r.co].map Fd.k = [3, 4] by simp [fdN_k (k := 3) (n := r.ep) (by decide) (by have := r.hep; omega), fd4_k r.hco]] at this
set_option maxRecDepth 100000 in
theorem build_rq (k : Nums) {g : List Int} (h : g.length = 32) (e c : Int) (W : World) : (Instr.build 41 #[(0, .agg (tcell k g).toArray), (1, .int .u16 e), (2, .int .u32 c)]).run Try.prog W = .ok (.agg (tcell k g ++ [Value.int .u16 e, Value.int .u32 c]).toArray) W := by
  obtain ⟨x0, x1, x2, x3, x4, x5, x6, x7, x8, x9, x10, x11, x12, x13, x14, x15, x16, x17, x18, x19, x20, x21, x22, x23, x24, x25, x26, x27, x28, x29, x30, x31, rfl⟩ := list32 h
  kernel_rfl

set_option maxRecDepth 100000 in
set_option maxHeartbeats 3200000 in
theorem rqof_is (r : Req) {v : Value} (w : World) (h1 : IsL w .u8 v r.bs) : Calls Try.prog 43 #[v] w fun e w' => e = .returned (.agg (rcell r).toArray) ∧ Below w.heap.size w w' := by
  have hl := r.bs_len
  obtain ⟨a0, c0, rfl, hr, _⟩ := id h1
  have i1 := hr.room
  have i2 := hr.most
  obtain ⟨b, off, rfl, _⟩ := h1.get 0 (by omega)
  have t52 : r.bs.take 52 = r.k.msg ++ r.g := by unfold Req.bs; rw [← List.append_assoc, List.take_left' (by rw [List.length_append, r.k.msg_len, r.hg])]
  have d52 : r.bs.drop 52 = be 2 r.ep ++ be 4 r.co := by unfold Req.bs; rw [← List.append_assoc, List.drop_left' (by rw [List.length_append, r.k.msg_len, r.hg])]
  have S1 := Lib.hid (show IsL w .u8 (.slice (some ⟨b, off, none⟩) 52 c0) (r.k.msg ++ r.g) by rw [← t52]; exact h1.taken (by omega))
  have S2 := Lib.hid (show IsL w .u8 (.slice (some ⟨b, off + 52, none⟩) 6 (c0 - 52)) (be 2 r.ep ++ be 4 r.co) by rw [← d52]; exact h1.dropped (by omega) (by omega) rfl (Or.inl rfl))
  have TR := fun (W : World) (v : Value) (h : IsL W .u8 v (r.k.msg ++ r.g)) => tread_ok r.k r.hg W h
  have RD := fun (W : World) (a b : Value) (h1 : IsL W .u8 a [3, 4]) (h2 : IsL W .u8 b (be 2 r.ep ++ be 4 r.co)) => read_is W h1 h2 (by decide) ((be_byts 2 _).append (be_byts 4 _))
  rw [(rea34 r).1, (rea34 r).2] at RD
  have BT := fun W => build_rq r.k r.hg r.ep r.co W
  have we : IntKind.u16.wrap r.ep = r.ep := by have := r.hep; rw [IntKind.wrap_u16]; omega
  have wc : IntKind.u32.wrap r.co = r.co := by have := r.hco; rw [IntKind.wrap_u32]; omega
  have g1 : (flatR LF [fdN 3 r.ep, fdN 4 r.co])[1]? = some (.int .u64 r.ep) := by have := flatR_at (L := LF) (xs := [fdN 3 r.ep, fdN 4 r.co]) (i := 0) (j := 1) (v := .int .u64 r.ep) rfl (by show (fdN 3 r.ep).v[1]? = _; rw [fdN_v (by decide) (by have := r.hep; omega)]; rfl); exact this
  have g2 : (flatR LF [fdN 3 r.ep, fdN 4 r.co])[35]? = some (.int .u64 r.co) := by have := flatR_at (L := LF) (xs := [fdN 3 r.ep, fdN 4 r.co]) (i := 1) (j := 1) (v := .int .u64 r.co) rfl (by show (fdN 4 r.co).v[1]? = _; rw [fdN_v (by decide) (k32 r.hco)]; rfl); exact this
  have ST := Lib.hid (size_tok r.k r.hg); have LT := Lib.hid (len_tok Nums.zero r.k z32 r.hg); have OT := Lib.hid (tcell_one r.k r.g)
  have SF := Lib.hid (size_req r); have LF9 := Lib.hid (len_req Req.zero r); have OF := Lib.hid (one_req r); have SZ := Lib.hid (size_req Req.zero)
  have j0 : ¬ c0 = 0 := by omega
  have j52 : ¬ c0 = 52 := by omega
  have q52 : (52 : Int) ≤ (c0 : Int) := by omega
  rw [hl] at i1 ⊢
  obtain ⟨E, hE⟩ : ∃ X, be 2 r.ep ++ be 4 r.co = X := ⟨_, rfl⟩
  obtain ⟨X, hX⟩ : ∃ X, r.k.msg ++ r.g = X := ⟨_, rfl⟩
  obtain ⟨FR, hFR⟩ : ∃ X, flatR LF [fdN 3 r.ep, fdN 4 r.co] = X := ⟨_, rfl⟩
  obtain ⟨fs, hfs⟩ : ∃ X, [fdN 3 r.ep, fdN 4 r.co] = X := ⟨_, rfl⟩
  have hfl : fs.length = 2 := by rw [← hfs]; rfl
  rw [hE] at S2 RD
  rw [hX] at S1 TR
  rw [hFR] at g1 g2
  rw [hfs] at RD hFR
  have HRC : rcell r = tcell r.k r.g ++ [.int .u16 r.ep, .int .u32 r.co] := rfl
  rw [← HRC] at BT
  clear HRC
  obtain ⟨TC, hTC⟩ : ∃ V, tcell r.k r.g = V := ⟨_, rfl⟩
  obtain ⟨F, hF⟩ : ∃ V, rcell r = V := ⟨_, rfl⟩
  rw [hTC] at TR ST LT OT BT
  rw [hF] at BT SF LF9 OF ⊢
  clear hr h1 hl t52 d52 hE hX hfs hTC hF
  go_enter Try.func43, Try.ntmps43
  go_upto_region 1 with fail
  refine F_gen (F := fun W => Code.wp _ _ _ _ W) (J := fun W => Box W (w.heap.size) (rcell Req.zero) ∧ Below w.heap.size w W) (And.intro (Box.newc rfl rfl) (by go_grown)) ?_
  intro w0 ⟨e_r, hB0⟩
  have hs0 := hB0.size
  have x_r0 := e_r; clear e_r
  go_wp2_with fail
  refine (TR _ _ (S1.out.below hB0)).mono ?_
  rintro e w1 ⟨rfl, hb⟩
  have hB1 : Below w.heap.size w w1 := below_thru hB0 hb
  have hs1 := hB1.size
  have x_r1 : Box w1 (w.heap.size) (rcell Req.zero) := Box.below x_r0 hb
  clear hB0 hs0 x_r0
  clear hb
  have lo1 := (x_r1).lt
  have d_t_r := (x_r1).lt
  have d_t_0 := hs1
  go_upto_region 2 with (refine wpList_store_box (cs := TC) rfl _ _ _ rfl (Box.newc (l := zeroT) rfl rfl) rfl rfl ST.out LT.out OT.out ?_; intro W1_0 hW1_0)
  have hN : Below w1.heap.size w1 W1_0 := (hW1_0.below _ _ (by omega) ((Below.refl _ w1).alloc (Nat.le_refl _) _))
  have x_t2 : Box W1_0 (w1.heap.size) (TC) := hW1_0.box
  have hB2 : Below w.heap.size w W1_0 := below_thru hB1 hN
  have hs2 := hB2.size
  have x_r2 : Box W1_0 (w.heap.size) (rcell Req.zero) := Box.below x_r1 hN
  clear hB1 hs1 x_r1
  clear hN hW1_0
  go_wp2_with fail
  have hk : IsL (W1_0.alloc (.cells #[.int .u8 3, .int .u8 4] 5)) .u8 (.slice (some ⟨W1_0.heap.size, 0, none⟩) 2 2) [3, 4] := IsL.built [3, 4] rfl rfl rfl rfl (by decide)
  refine (RD _ _ _ hk ((S2.out.below hB2).alloc _)).mono ?_
  rintro e w9 ⟨vr, rfl, hor, hb⟩
  have hb9 : Below W1_0.heap.size W1_0 w9 := below_thru ((Below.refl _ _).alloc (Nat.le_refl _) _) hb
  clear hk
  rw [hFR, hfl] at hor
  obtain ⟨g4, c4, rfl, hg4, hc4, hc5, hbx⟩ := own_box hor (by decide)
  simp at hg4
  have lo2 : w.heap.size < g4 := by have := (x_r2).lt; omega
  clear hor hb
  have hB3 : Below w.heap.size w w9 := below_thru hB2 hb9
  have hs3 := hB3.size
  have x_r3 : Box w9 (w.heap.size) (rcell Req.zero) := Box.below x_r2 hb9
  have x_t3 : Box w9 (w1.heap.size) (TC) := Box.below x_t2 hb9
  clear hB2 hs2 x_r2 x_t2
  clear hb9
  have x_w3 : Box w9 (g4) (FR) := hbx
  clear hbx hFR hfl
  go_upto_region 3 with fail
  refine wp_region_held_drew (S := fun W => Box W (w1.heap.size) (TC) ∧ Box W (g4) (FR)) (by kernel_rfl) (And.intro (x_t3).drew (x_w3).drew) (fun _ => ?_)
  refine F_drew (F := fun W => wpAnyH _ _ _ _ _ _ _ _ W) ?_
  intro Wt0 hbt0
  clear hs3
  have x_t_t0 : Box Wt0 (w1.heap.size) (TC) := Box.below x_t3 hbt0
  have x_w_t0 : Box Wt0 (g4) (FR) := Box.below x_w3 hbt0
  have z_r_t0 : Box Wt0 (w.heap.size) (rcell Req.zero) := Box.below x_r3 hbt0
  have Bt0 := below_thru hB3 hbt0
  clear x_t3 x_w3 x_r3 hB3 hbt0
  refine takeH 1 21 (v := ?vt1_1) rfl (by rfl) (by kernel_rfl) (by kernel_rfl) (by kernel_rfl) (fun _ _ _ h => h) (Or.inl ⟨by rfl, ?_⟩) ((And.intro x_t_t0 x_w_t0)) ?_
  rotate_left
  · intro wq hSq
    go_simp
    exact rfl
  try simp only [Act.put, List.setIfInBounds_toArray, List.set_cons_zero, List.set_cons_succ]
  refine takeH 2 22 (v := ?vt2_2) rfl (by rfl) (by kernel_rfl) (by kernel_rfl) (by kernel_rfl) (fun _ _ _ h => h) (Or.inl ⟨by rfl, ?_⟩) ((And.intro x_t_t0 x_w_t0)) ?_
  rotate_left
  · intro wq hSq
    go_simp
    exact rfl
  try simp only [Act.put, List.setIfInBounds_toArray, List.set_cons_zero, List.set_cons_succ]
  refine takeH 3 23 (v := ?vt3_3) rfl (by rfl) (by kernel_rfl) (by kernel_rfl) (by kernel_rfl) (fun _ _ _ h => h) (Or.inl ⟨by rfl, ?_⟩) ((And.intro x_t_t0 x_w_t0)) ?_
  rotate_left
  · intro wq hSq
    go_simp
    exact rfl
  try simp only [Act.put, List.setIfInBounds_toArray, List.set_cons_zero, List.set_cons_succ]
  refine takeH 4 24 (v := ?vt4_4) rfl (by rfl) (by kernel_rfl) (by kernel_rfl) (by kernel_rfl) (fun _ _ _ h => h) (Or.inl ⟨by rfl, ?_⟩) ((And.intro x_t_t0 x_w_t0)) ?_
  rotate_left
  · intro wq hSq
    have cq := (hSq.2).c 1 _ g1
    have zq := lt_of_cell cq
    go_simp
    exact rfl
  try simp only [Act.put, List.setIfInBounds_toArray, List.set_cons_zero, List.set_cons_succ]
  refine takeH 5 25 (v := ?vt5_5) rfl (by rfl) (by kernel_rfl) (by kernel_rfl) (by kernel_rfl) (fun _ _ _ h => h) (Or.inl ⟨by rfl, ?_⟩) ((And.intro x_t_t0 x_w_t0)) ?_
  rotate_left
  · intro wq hSq
    go_simp
    exact rfl
  try simp only [Act.put, List.setIfInBounds_toArray, List.set_cons_zero, List.set_cons_succ]
  refine takeH 6 26 (v := ?vt6_6) rfl (by rfl) (by kernel_rfl) (by kernel_rfl) (by kernel_rfl) (fun _ _ _ h => h) (Or.inl ⟨by rfl, ?_⟩) ((And.intro x_t_t0 x_w_t0)) ?_
  rotate_left
  · intro wq hSq
    go_simp
    exact rfl
  try simp only [Act.put, List.setIfInBounds_toArray, List.set_cons_zero, List.set_cons_succ]
  refine takeH 7 27 (v := ?vt7_7) rfl (by rfl) (by kernel_rfl) (by kernel_rfl) (by kernel_rfl) (fun _ _ _ h => h) (Or.inl ⟨by rfl, ?_⟩) ((And.intro x_t_t0 x_w_t0)) ?_
  rotate_left
  · intro wq hSq
    go_simp
    exact rfl
  try simp only [Act.put, List.setIfInBounds_toArray, List.set_cons_zero, List.set_cons_succ]
  refine takeH 8 28 (v := ?vt8_8) rfl (by rfl) (by kernel_rfl) (by kernel_rfl) (by kernel_rfl) (fun _ _ _ h => h) (Or.inl ⟨by rfl, ?_⟩) ((And.intro x_t_t0 x_w_t0)) ?_
  rotate_left
  · intro wq hSq
    go_simp
    exact rfl
  try simp only [Act.put, List.setIfInBounds_toArray, List.set_cons_zero, List.set_cons_succ]
  refine takeH 9 29 (v := ?vt9_9) rfl (by rfl) (by kernel_rfl) (by kernel_rfl) (by kernel_rfl) (fun _ _ _ h => h) (Or.inl ⟨by rfl, ?_⟩) ((And.intro x_t_t0 x_w_t0)) ?_
  rotate_left
  · intro wq hSq
    have cq := (hSq.2).c 35 _ g2
    have zq := lt_of_cell cq
    go_simp
    exact rfl
  try simp only [Act.put, List.setIfInBounds_toArray, List.set_cons_zero, List.set_cons_succ]
  refine takeH 10 30 (v := ?vt10_10) rfl (by rfl) (by kernel_rfl) (by kernel_rfl) (by kernel_rfl) (fun _ _ _ h => h) (Or.inl ⟨by rfl, ?_⟩) ((And.intro x_t_t0 x_w_t0)) ?_
  rotate_left
  · intro wq hSq
    go_simp
    exact rfl
  try simp only [Act.put, List.setIfInBounds_toArray, List.set_cons_zero, List.set_cons_succ]
  refine takeH 0 20 (v := .agg (TC).toArray) rfl (by rfl) (by kernel_rfl) (by kernel_rfl) (by kernel_rfl) (fun _ _ _ h => h) (yieldsIf_load_mid (by rfl) _ _ rfl _ _ rfl (TC) _ (fun wq hq => Box.range (hq.1)) Try.underlying38 rfl ST.out) ((And.intro x_t_t0 x_w_t0)) ?_
  try simp only [Act.put, List.setIfInBounds_toArray, List.set_cons_zero, List.set_cons_succ]
  refine takeH 11 31 (v := .agg F.toArray) rfl (by rfl) (by kernel_rfl) (by kernel_rfl) (by kernel_rfl) (fun _ _ _ h => h) (yieldsIf_build (by rfl) _ _ rfl (us := #[(0, .agg TC.toArray), (1, .int .u16 r.ep), (2, .int .u32 r.co)]) (by rfl) BT) ((And.intro x_t_t0 x_w_t0)) ?_
  try simp only [Act.put, List.setIfInBounds_toArray, List.set_cons_zero, List.set_cons_succ]
  refine wpAnyH_ready (rs := [12]) (by kernel_rfl) (by simp) (AllReadyH.cons rfl (fun K hK => ?_) AllReadyH.nil)
  have nz_t := (x_t_t0).lt
  have nz_w := (x_w_t0).lt
  refine step_store_box0 (cs := F) rfl rfl _ _ _ rfl z_r_t0 rfl rfl SF.out LF9.out OF.out ?_
  intro Wt11 hWt11
  have x_t_t11 : Box Wt11 (w1.heap.size) (TC) := hWt11.past _ _ (by omega) x_t_t0
  have x_w_t11 : Box Wt11 (g4) (FR) := hWt11.past _ _ (by omega) x_w_t0
  have z_r_t11 := hWt11.box
  have Bt11 := hWt11.below _ _ (by omega) Bt0
  clear nz_t nz_w x_t_t0 x_w_t0 z_r_t0 Bt0 hWt11
  refine hK.out _ _ (And.intro x_t_t11 x_w_t11) (fun _ => ?_); clear hK K
  refine wpAnyH_done (by kernel_rfl) ?_ _
  go_wp2_with fail
  exact bodyPost_ret (results_box Try.results43 z_r_t11 rfl Try.underlying41 rfl SF.out) rfl ⟨rfl, Bt11⟩

end Go.Proofs.Ytkpdlbcmnfphmaa
