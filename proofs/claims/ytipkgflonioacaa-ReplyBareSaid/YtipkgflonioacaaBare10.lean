/-
  ReplyBare, walked.
-/
import Derived.Test.YtipkgflonioacaaAlive10
namespace Go.Proofs.Ytipkgflonioacaa
open Go.RowKit

theorem lone_bs (n : Int) (hn : 0 ≤ n ∧ n ≤ 255) : (Rep.lone n hn).bs = n :: List.replicate 31 0 := by
  unfold Rep.bs Rep.lone
  rfl
theorem lone_nth (n : Int) (hn : 0 ≤ n ∧ n ≤ 255) {i : Nat} (h : 1 ≤ i) (h2 : i < 32) : ((Rep.lone n hn).bs.map (Value.int .u8))[i]? = some (.int .u8 0) := by
  rw [lone_bs]
  obtain ⟨j, rfl⟩ : ∃ j, i = j + 1 := ⟨i - 1, by omega⟩
  rw [List.map_cons, List.getElem?_cons_succ, List.map_replicate, List.getElem?_replicate]
  rw [if_pos (by omega)]
set_option maxRecDepth 100000 in
set_option maxHeartbeats 6400000 in
theorem bare10_lo (n : Int) (hn : 0 ≤ n ∧ n ≤ 255) (h : n < 1) (s : Rep) (w : World) : Calls Try.prog 7 #[.int .u8 n, .agg s.v.toArray] w fun e w' => e = .returned (.bool true) ∧ Below w.heap.size w w' := by
  have SS := Lib.hid (size_rep s)
  have CD := fun W => code_is n hn (G := Rep.zero) (q := 2) (Or.inr ⟨rfl, by unfold Sole; omega, rfl⟩) W
  have d1 : decide (n < 1) = true := decide_eq_true h
  have SZ := Lib.hid (size_rep Rep.zero); have OZ := Lib.hid (one_rep Rep.zero)
  obtain ⟨VS, hVS⟩ : ∃ V, s.v = V := ⟨_, rfl⟩
  rw [hVS] at SS ⊢
  clear hVS hn
  go_enter Try.func7, Try.ntmps7
  go_upto_region 1 with fail
  refine F_gen (F := fun W => Code.wp _ _ _ _ W) (J := fun W => Box W (w.heap.size) (VS) ∧ Below w.heap.size w W) (And.intro (Box.newc rfl rfl) (by go_grown)) ?_
  intro w0 ⟨e_s, hB0⟩
  have hs0 := hB0.size
  have x_s0 := e_s; clear e_s
  go_wp2_with fail
  refine (CD _).mono ?_
  rintro e w1 ⟨rfl, hb⟩
  have hB1 : Below w.heap.size w w1 := below_thru hB0 hb
  have hs1 := hB1.size
  have x_s1 : Box w1 (w.heap.size) (VS) := Box.below x_s0 hb
  clear hB0 hs0 x_s0
  clear hb
  have d_r_s := (x_s1).lt
  have d_r_0 := hs1
  go_upto_region 2 with (refine wpList_store_box (cs := Rep.zero.v) rfl _ _ _ rfl (Box.newc (l := Rep.zero.v) rfl rfl) rfl rfl SZ.out (len_rep Rep.zero Rep.zero) OZ.out ?_; intro W1_0 hW1_0)
  have hN : Below w1.heap.size w1 W1_0 := (hW1_0.below _ _ (by omega) ((Below.refl _ w1).alloc (Nat.le_refl _) _))
  have x_r2 : Box W1_0 (w1.heap.size) (Rep.zero.v) := hW1_0.box
  have hB2 : Below w.heap.size w W1_0 := below_thru hB1 hN
  have hs2 := hB2.size
  have x_s2 : Box W1_0 (w.heap.size) (VS) := Box.below x_s1 hN
  clear hB1 hs1 x_s1
  clear hN hW1_0
  go_wp2_with fail
  refine (alive10_is _).mono ?_
  rintro e w3 ⟨rfl, hb⟩
  have hB3 : Below w.heap.size w w3 := below_thru hB2 hb
  have hs3 := hB3.size
  have x_s3 : Box w3 (w.heap.size) (VS) := Box.below x_s2 hb
  have x_r3 : Box w3 (w1.heap.size) (Rep.zero.v) := Box.below x_r2 hb
  clear hB2 hs2 x_s2 x_r2
  clear hb
  go_wp2_with fail
  go_returns
  exact ⟨rfl, hB3⟩

set_option maxRecDepth 100000 in
set_option maxHeartbeats 6400000 in
theorem bare10_hi (n : Int) (hn : 0 ≤ n ∧ n ≤ 255) (h : 8 < n) (s : Rep) (w : World) : Calls Try.prog 7 #[.int .u8 n, .agg s.v.toArray] w fun e w' => e = .returned (.bool true) ∧ Below w.heap.size w w' := by
  have SS := Lib.hid (size_rep s)
  have CD := fun W => code_is n hn (G := Rep.zero) (q := 2) (Or.inr ⟨rfl, by unfold Sole; omega, rfl⟩) W
  have d1 : decide (n < 1) = false := decide_eq_false (by omega)
  have d2 : decide (8 < n) = true := decide_eq_true h
  have SZ := Lib.hid (size_rep Rep.zero); have OZ := Lib.hid (one_rep Rep.zero)
  obtain ⟨VS, hVS⟩ : ∃ V, s.v = V := ⟨_, rfl⟩
  rw [hVS] at SS ⊢
  clear hVS hn
  go_enter Try.func7, Try.ntmps7
  go_upto_region 1 with fail
  refine F_gen (F := fun W => Code.wp _ _ _ _ W) (J := fun W => Box W (w.heap.size) (VS) ∧ Below w.heap.size w W) (And.intro (Box.newc rfl rfl) (by go_grown)) ?_
  intro w0 ⟨e_s, hB0⟩
  have hs0 := hB0.size
  have x_s0 := e_s; clear e_s
  go_wp2_with fail
  refine (CD _).mono ?_
  rintro e w1 ⟨rfl, hb⟩
  have hB1 : Below w.heap.size w w1 := below_thru hB0 hb
  have hs1 := hB1.size
  have x_s1 : Box w1 (w.heap.size) (VS) := Box.below x_s0 hb
  clear hB0 hs0 x_s0
  clear hb
  have d_r_s := (x_s1).lt
  have d_r_0 := hs1
  go_upto_region 2 with (refine wpList_store_box (cs := Rep.zero.v) rfl _ _ _ rfl (Box.newc (l := Rep.zero.v) rfl rfl) rfl rfl SZ.out (len_rep Rep.zero Rep.zero) OZ.out ?_; intro W1_0 hW1_0)
  have hN : Below w1.heap.size w1 W1_0 := (hW1_0.below _ _ (by omega) ((Below.refl _ w1).alloc (Nat.le_refl _) _))
  have x_r2 : Box W1_0 (w1.heap.size) (Rep.zero.v) := hW1_0.box
  have hB2 : Below w.heap.size w W1_0 := below_thru hB1 hN
  have hs2 := hB2.size
  have x_s2 : Box W1_0 (w.heap.size) (VS) := Box.below x_s1 hN
  clear hB1 hs1 x_s1
  clear hN hW1_0
  go_wp2_with fail
  refine (alive10_is _).mono ?_
  rintro e w3 ⟨rfl, hb⟩
  have hB3 : Below w.heap.size w w3 := below_thru hB2 hb
  have hs3 := hB3.size
  have x_s3 : Box w3 (w.heap.size) (VS) := Box.below x_s2 hb
  have x_r3 : Box w3 (w1.heap.size) (Rep.zero.v) := Box.below x_r2 hb
  clear hB2 hs2 x_s2 x_r2
  clear hb
  go_wp2_with fail
  go_returns
  exact ⟨rfl, hB3⟩

set_option maxRecDepth 100000 in
set_option maxHeartbeats 6400000 in
theorem bare10_2 (s : Rep) (w : World) : Calls Try.prog 7 #[.int .u8 2, .agg s.v.toArray] w fun e w' => e = .returned (.bool true) ∧ Below w.heap.size w w' := by
  have SS := Lib.hid (size_rep s)
  have CD := fun W => code_is 2 (by decide) (G := Rep.zero) (q := 2) (Or.inr ⟨rfl, by unfold Sole; omega, rfl⟩) W
  have SZ := Lib.hid (size_rep Rep.zero); have OZ := Lib.hid (one_rep Rep.zero)
  obtain ⟨VS, hVS⟩ : ∃ V, s.v = V := ⟨_, rfl⟩
  rw [hVS] at SS ⊢
  clear hVS
  go_enter Try.func7, Try.ntmps7
  go_upto_region 1 with fail
  refine F_gen (F := fun W => Code.wp _ _ _ _ W) (J := fun W => Box W (w.heap.size) (VS) ∧ Below w.heap.size w W) (And.intro (Box.newc rfl rfl) (by go_grown)) ?_
  intro w0 ⟨e_s, hB0⟩
  have hs0 := hB0.size
  have x_s0 := e_s; clear e_s
  go_wp2_with fail
  refine (CD _).mono ?_
  rintro e w1 ⟨rfl, hb⟩
  have hB1 : Below w.heap.size w w1 := below_thru hB0 hb
  have hs1 := hB1.size
  have x_s1 : Box w1 (w.heap.size) (VS) := Box.below x_s0 hb
  clear hB0 hs0 x_s0
  clear hb
  have d_r_s := (x_s1).lt
  have d_r_0 := hs1
  go_upto_region 2 with (refine wpList_store_box (cs := Rep.zero.v) rfl _ _ _ rfl (Box.newc (l := Rep.zero.v) rfl rfl) rfl rfl SZ.out (len_rep Rep.zero Rep.zero) OZ.out ?_; intro W1_0 hW1_0)
  have hN : Below w1.heap.size w1 W1_0 := (hW1_0.below _ _ (by omega) ((Below.refl _ w1).alloc (Nat.le_refl _) _))
  have x_r2 : Box W1_0 (w1.heap.size) (Rep.zero.v) := hW1_0.box
  have hB2 : Below w.heap.size w W1_0 := below_thru hB1 hN
  have hs2 := hB2.size
  have x_s2 : Box W1_0 (w.heap.size) (VS) := Box.below x_s1 hN
  clear hB1 hs1 x_s1
  clear hN hW1_0
  go_wp2_with fail
  refine (alive10_is _).mono ?_
  rintro e w3 ⟨rfl, hb⟩
  have hB3 : Below w.heap.size w w3 := below_thru hB2 hb
  have hs3 := hB3.size
  have x_s3 : Box w3 (w.heap.size) (VS) := Box.below x_s2 hb
  have x_r3 : Box w3 (w1.heap.size) (Rep.zero.v) := Box.below x_r2 hb
  clear hB2 hs2 x_s2 x_r2
  clear hb
  go_wp2_with fail
  go_returns
  exact ⟨rfl, hB3⟩

set_option maxRecDepth 100000 in
set_option maxHeartbeats 6400000 in
theorem bare10_3 (s : Rep) (w : World) : Calls Try.prog 7 #[.int .u8 3, .agg s.v.toArray] w fun e w' => e = .returned (.bool true) ∧ Below w.heap.size w w' := by
  have SS := Lib.hid (size_rep s)
  have CD := fun W => code_is 3 (by decide) (G := Rep.zero) (q := 2) (Or.inr ⟨rfl, by unfold Sole; omega, rfl⟩) W
  have SZ := Lib.hid (size_rep Rep.zero); have OZ := Lib.hid (one_rep Rep.zero)
  obtain ⟨VS, hVS⟩ : ∃ V, s.v = V := ⟨_, rfl⟩
  rw [hVS] at SS ⊢
  clear hVS
  go_enter Try.func7, Try.ntmps7
  go_upto_region 1 with fail
  refine F_gen (F := fun W => Code.wp _ _ _ _ W) (J := fun W => Box W (w.heap.size) (VS) ∧ Below w.heap.size w W) (And.intro (Box.newc rfl rfl) (by go_grown)) ?_
  intro w0 ⟨e_s, hB0⟩
  have hs0 := hB0.size
  have x_s0 := e_s; clear e_s
  go_wp2_with fail
  refine (CD _).mono ?_
  rintro e w1 ⟨rfl, hb⟩
  have hB1 : Below w.heap.size w w1 := below_thru hB0 hb
  have hs1 := hB1.size
  have x_s1 : Box w1 (w.heap.size) (VS) := Box.below x_s0 hb
  clear hB0 hs0 x_s0
  clear hb
  have d_r_s := (x_s1).lt
  have d_r_0 := hs1
  go_upto_region 2 with (refine wpList_store_box (cs := Rep.zero.v) rfl _ _ _ rfl (Box.newc (l := Rep.zero.v) rfl rfl) rfl rfl SZ.out (len_rep Rep.zero Rep.zero) OZ.out ?_; intro W1_0 hW1_0)
  have hN : Below w1.heap.size w1 W1_0 := (hW1_0.below _ _ (by omega) ((Below.refl _ w1).alloc (Nat.le_refl _) _))
  have x_r2 : Box W1_0 (w1.heap.size) (Rep.zero.v) := hW1_0.box
  have hB2 : Below w.heap.size w W1_0 := below_thru hB1 hN
  have hs2 := hB2.size
  have x_s2 : Box W1_0 (w.heap.size) (VS) := Box.below x_s1 hN
  clear hB1 hs1 x_s1
  clear hN hW1_0
  go_wp2_with fail
  refine (alive10_is _).mono ?_
  rintro e w3 ⟨rfl, hb⟩
  have hB3 : Below w.heap.size w w3 := below_thru hB2 hb
  have hs3 := hB3.size
  have x_s3 : Box w3 (w.heap.size) (VS) := Box.below x_s2 hb
  have x_r3 : Box w3 (w1.heap.size) (Rep.zero.v) := Box.below x_r2 hb
  clear hB2 hs2 x_s2 x_r2
  clear hb
  go_wp2_with fail
  go_returns
  exact ⟨rfl, hB3⟩

set_option maxRecDepth 100000 in
set_option maxHeartbeats 6400000 in
theorem bare10_same (n : Int) (hn : 0 ≤ n ∧ n ≤ 255) (hs : Sole n) (w : World) : Calls Try.prog 7 #[.int .u8 n, .agg (Rep.lone n hn).v.toArray] w fun e w' => e = .returned (.bool true) ∧ Below w.heap.size w w' := by
  have hok := Rep.lone_ok hn hs
  have CD := fun W => code_is n hn (G := Rep.lone n hn) (q := 0) (Or.inl ⟨rfl, hs, hn, rfl⟩) W
  have WR := fun W => pwr_is (Rep.lone n hn) (xs := (Rep.lone n hn).bs) (q := 0) (Or.inl ⟨rfl, hok, rfl⟩) W; have PA := pparse_self hok; unfold PReads at PA; have LX := Lib.hid (Rep.lone n hn).bs_len
  have HN := Lib.hid (fun (i : Nat) (h : 1 ≤ i) (h2 : i < 32) => lone_nth n hn h h2); have x0 : ((Rep.lone n hn).bs.map (Value.int .u8))[0]? = some (.int .u8 n) := by rw [lone_bs]; rfl
  have SV := Lib.hid (size_rep (Rep.lone n hn)); have LV := Lib.hid (len_rep Rep.zero (Rep.lone n hn)); have OV := Lib.hid (one_rep (Rep.lone n hn)); have EV := fun W => eqp_t (rfl : Rep.lone n hn = Rep.lone n hn) W
  have SS := Lib.hid (size_rep (Rep.lone n hn)); have v0 : (Rep.lone n hn).v[0]? = some (.int .u8 n) := rfl
  obtain ⟨XS, hXS⟩ : ∃ X, (Rep.lone n hn).bs = X := ⟨_, rfl⟩
  rw [hXS] at WR PA LX HN x0
  obtain ⟨V, hV⟩ : ∃ V, (Rep.lone n hn).v = V := ⟨_, rfl⟩
  rw [hV] at CD WR PA SV LV OV EV SS v0 ⊢
  clear hV hXS hok hs hn
  go_enter Try.func7, Try.ntmps7
  go_upto_region 1 with fail
  refine F_gen (F := fun W => Code.wp _ _ _ _ W) (J := fun W => Box W (w.heap.size) (V) ∧ Below w.heap.size w W) (And.intro (Box.newc rfl rfl) (by go_grown)) ?_
  intro w0 ⟨e_s, hB0⟩
  have hs0 := hB0.size
  have x_s0 := e_s; clear e_s
  go_wp2_with fail
  refine (CD _).mono ?_
  rintro e w1 ⟨rfl, hb⟩
  clear CD
  have hB1 : Below w.heap.size w w1 := below_thru hB0 hb
  have hs1 := hB1.size
  have x_s1 : Box w1 (w.heap.size) (V) := Box.below x_s0 hb
  clear hB0 hs0 x_s0
  clear hb
  have d_r_s := (x_s1).lt
  have d_r_0 := hs1
  go_upto_region 2 with (refine wpList_store_box (cs := V) rfl _ _ _ rfl (Box.newc (l := Rep.zero.v) rfl rfl) rfl rfl SV.out LV.out OV.out ?_; intro W1_0 hW1_0)
  have hN : Below w1.heap.size w1 W1_0 := (hW1_0.below _ _ (by omega) ((Below.refl _ w1).alloc (Nat.le_refl _) _))
  have x_r2 : Box W1_0 (w1.heap.size) (V) := hW1_0.box
  have hB2 : Below w.heap.size w W1_0 := below_thru hB1 hN
  have hs2 := hB2.size
  have x_s2 : Box W1_0 (w.heap.size) (V) := Box.below x_s1 hN
  clear hB1 hs1 x_s1
  clear hN hW1_0
  obtain ⟨br, hbr⟩ : ∃ b, w1.heap.size = b := ⟨_, rfl⟩; rw [hbr] at x_r2 ⊢; clear hbr
  go_wp2_with (refine wpList_load_box9 rfl _ _ rfl x_r2 rfl Try.underlying26 rfl SV.out ?_)
  refine (WR _).mono ?_
  rintro e w3 ⟨va, rfl, hoa, hb⟩
  have hB3 : Below w.heap.size w w3 := below_thru hB2 hb
  have hs3 := hB3.size
  have x_s3 : Box w3 (w.heap.size) (V) := Box.below x_s2 hb
  have x_r3 : Box w3 (br) (V) := Box.below x_r2 hb
  clear hB2 hs2 x_s2 x_r2
  clear hb
  obtain ⟨ga, ca, rfl, _, lo, hi, hbx⟩ := own_box hoa (by rw [LX.out]; decide); rw [LX.out] at lo ⊢; clear hoa
  have x_x3 : Box w3 (ga) (XS.map (Value.int .u8)) := hbx
  clear hbx
  have ca := (x_x3).c 0 _ x0
  have za := (x_x3).lt
  go_upto_region 8 with fail
  clear ca za
  go_loopw [9] (fun s9 wr => ∃ i : Nat, s9 = .int .i64 i ∧ 1 ≤ i ∧ i ≤ 32 ∧ Box wr w.heap.size V ∧ Box wr br V ∧ Box wr ga (XS.map (Value.int .u8)) ∧ Below w.heap.size w wr) (fun s9 _ => 32 - (intOf s9).toNat)
  case atStart => exact ⟨1, rfl, by omega, by omega, x_s3, x_r3, x_x3, hB3⟩
  case round =>
    clear x_s3 x_r3 x_x3 hB3 hs3
    obtain ⟨i, rfl, h1, h2, hS, hR, hX, hB⟩ := hrel
    by_cases hlt : i < 32
    · have ci := hX.c i _ (HN.out i h1 hlt)
      have zi := hX.lt
      have i3 : (i : Int) < 32 := by omega
      have i4 : (0 : Int) ≤ (i : Int) := by omega
      go_wp2_with fail
      go_roundw
      case rel => exact ⟨i + 1, by go_num, by omega, by omega, hS, hR, hX, hB⟩
      case measure => simp [intOf]; omega
    · skip
      obtain rfl : i = 32 := by omega
      clear hlt h1 h2 HN
      have x_s4 := hS; have x_r4 := hR; have x_x4 := hX; have hB4 := hB; have hs4 := hB.size; clear hS hR hX hB
      go_wp2_with fail
      refine (PA _ _ (IsL.range 32 ca LX.out x_x4.range (by omega) (by omega))).mono ?_
      rintro e w5 ⟨rfl, hb⟩
      clear PA
      have hB5 : Below w.heap.size w w5 := below_thru hB4 hb
      have hs5 := hB5.size
      have x_s5 : Box w5 (w.heap.size) (V) := Box.below x_s4 hb
      have x_r5 : Box w5 (br) (V) := Box.below x_r4 hb
      have x_x5 : Box w5 (ga) (XS.map (Value.int .u8)) := Box.below x_x4 hb
      clear hB4 hs4 x_s4 x_r4 x_x4
      clear hb
      clear x_x5
      have d_t_s := (x_s5).lt
      have d_t_r := (x_r5).lt
      have d_t_0 := hs5
      go_upto_region 13 with (refine wpList_store_box (cs := V) rfl _ _ _ rfl (Box.newc (l := Rep.zero.v) rfl rfl) rfl rfl SV.out LV.out OV.out ?_; intro W5_0 hW5_0)
      have hN : Below w5.heap.size w5 W5_0 := (hW5_0.below _ _ (by omega) ((Below.refl _ w5).alloc (Nat.le_refl _) _))
      have x_t6 : Box W5_0 (w5.heap.size) (V) := hW5_0.box
      have hB6 : Below w.heap.size w W5_0 := below_thru hB5 hN
      have hs6 := hB6.size
      have x_s6 : Box W5_0 (w.heap.size) (V) := Box.below x_s5 hN
      have x_r6 : Box W5_0 (br) (V) := Box.below x_r5 hN
      clear hB5 hs5 x_s5 x_r5
      clear hN hW5_0
      go_wp2_with (refine wpList_load_box9 rfl _ _ rfl x_s6 rfl Try.underlying26 rfl SS.out ?_)
      refine (WR _).mono ?_
      rintro e w7 ⟨vc, rfl, hoc, hb⟩
      clear hoc
      have hB7 : Below w.heap.size w w7 := below_thru hB6 hb
      have hs7 := hB7.size
      have x_s7 : Box w7 (w.heap.size) (V) := Box.below x_s6 hb
      have x_r7 : Box w7 (br) (V) := Box.below x_r6 hb
      have x_t7 : Box w7 (w5.heap.size) (V) := Box.below x_t6 hb
      clear hB6 hs6 x_s6 x_r6 x_t6
      clear hb
      have cb := (x_s7).c 0 _ v0
      have zb := (x_s7).lt
      go_wp2_with (first
        | (refine wpList_load_box9 rfl _ _ rfl x_t7 rfl Try.underlying26 rfl SV.out ?_)
        | (refine wpList_load_box9 rfl _ _ rfl x_r7 rfl Try.underlying26 rfl SV.out ?_)
        | (refine wpList_load_box9 rfl _ _ rfl x_s7 rfl Try.underlying26 rfl SS.out ?_))
      refine (alive10_is _).mono ?_
      rintro e w8 ⟨rfl, hb⟩
      have hB8 : Below w.heap.size w w8 := below_thru hB7 hb
      have hs8 := hB8.size
      have x_s8 : Box w8 (w.heap.size) (V) := Box.below x_s7 hb
      have x_r8 : Box w8 (br) (V) := Box.below x_r7 hb
      have x_t8 : Box w8 (w5.heap.size) (V) := Box.below x_t7 hb
      clear hB7 hs7 x_s7 x_r7 x_t7
      clear hb
      go_wp2_with fail
      go_returns
      exact ⟨rfl, hB8⟩

set_option maxRecDepth 100000 in
set_option maxHeartbeats 6400000 in
theorem bare10_other (n : Int) (hn : 0 ≤ n ∧ n ≤ 255) (hs : Sole n) (s : Rep) (hS : s.Ok) (hc : s.c ≠ n) (w : World) : Calls Try.prog 7 #[.int .u8 n, .agg s.v.toArray] w fun e w' => e = .returned (.bool true) ∧ Below w.heap.size w w' := by
  have hok := Rep.lone_ok hn hs
  have CD := fun W => code_is n hn (G := Rep.lone n hn) (q := 0) (Or.inl ⟨rfl, hs, hn, rfl⟩) W
  have WR := fun W => pwr_is (Rep.lone n hn) (xs := (Rep.lone n hn).bs) (q := 0) (Or.inl ⟨rfl, hok, rfl⟩) W; have PA := pparse_self hok; unfold PReads at PA; have LX := Lib.hid (Rep.lone n hn).bs_len
  have HN := Lib.hid (fun (i : Nat) (h : 1 ≤ i) (h2 : i < 32) => lone_nth n hn h h2); have x0 : ((Rep.lone n hn).bs.map (Value.int .u8))[0]? = some (.int .u8 n) := by rw [lone_bs]; rfl
  have SV := Lib.hid (size_rep (Rep.lone n hn)); have LV := Lib.hid (len_rep Rep.zero (Rep.lone n hn)); have OV := Lib.hid (one_rep (Rep.lone n hn)); have EV := fun W => eqp_t (rfl : Rep.lone n hn = Rep.lone n hn) W
  have SS := Lib.hid (size_rep s)
  have WS := fun W => pwr_is s (xs := s.bs) (q := 0) (Or.inl ⟨rfl, hS, rfl⟩) W; have v0 : s.v[0]? = some (.int .u8 s.c) := rfl; have d0 : (s.c != n) = true := bne_iff_ne.2 hc
  obtain ⟨VS, hVS⟩ : ∃ V, s.v = V := ⟨_, rfl⟩
  rw [hVS] at SS WS v0 ⊢
  clear hVS hS hc
  obtain ⟨XS, hXS⟩ : ∃ X, (Rep.lone n hn).bs = X := ⟨_, rfl⟩
  rw [hXS] at WR PA LX HN x0
  obtain ⟨V, hV⟩ : ∃ V, (Rep.lone n hn).v = V := ⟨_, rfl⟩
  rw [hV] at CD WR PA SV LV OV EV
  clear hV hXS hok hs hn
  go_enter Try.func7, Try.ntmps7
  go_upto_region 1 with fail
  refine F_gen (F := fun W => Code.wp _ _ _ _ W) (J := fun W => Box W (w.heap.size) (VS) ∧ Below w.heap.size w W) (And.intro (Box.newc rfl rfl) (by go_grown)) ?_
  intro w0 ⟨e_s, hB0⟩
  have hs0 := hB0.size
  have x_s0 := e_s; clear e_s
  go_wp2_with fail
  refine (CD _).mono ?_
  rintro e w1 ⟨rfl, hb⟩
  clear CD
  have hB1 : Below w.heap.size w w1 := below_thru hB0 hb
  have hs1 := hB1.size
  have x_s1 : Box w1 (w.heap.size) (VS) := Box.below x_s0 hb
  clear hB0 hs0 x_s0
  clear hb
  have d_r_s := (x_s1).lt
  have d_r_0 := hs1
  go_upto_region 2 with (refine wpList_store_box (cs := V) rfl _ _ _ rfl (Box.newc (l := Rep.zero.v) rfl rfl) rfl rfl SV.out LV.out OV.out ?_; intro W1_0 hW1_0)
  have hN : Below w1.heap.size w1 W1_0 := (hW1_0.below _ _ (by omega) ((Below.refl _ w1).alloc (Nat.le_refl _) _))
  have x_r2 : Box W1_0 (w1.heap.size) (V) := hW1_0.box
  have hB2 : Below w.heap.size w W1_0 := below_thru hB1 hN
  have hs2 := hB2.size
  have x_s2 : Box W1_0 (w.heap.size) (VS) := Box.below x_s1 hN
  clear hB1 hs1 x_s1
  clear hN hW1_0
  obtain ⟨br, hbr⟩ : ∃ b, w1.heap.size = b := ⟨_, rfl⟩; rw [hbr] at x_r2 ⊢; clear hbr
  go_wp2_with (refine wpList_load_box9 rfl _ _ rfl x_r2 rfl Try.underlying26 rfl SV.out ?_)
  refine (WR _).mono ?_
  rintro e w3 ⟨va, rfl, hoa, hb⟩
  clear WR
  have hB3 : Below w.heap.size w w3 := below_thru hB2 hb
  have hs3 := hB3.size
  have x_s3 : Box w3 (w.heap.size) (VS) := Box.below x_s2 hb
  have x_r3 : Box w3 (br) (V) := Box.below x_r2 hb
  clear hB2 hs2 x_s2 x_r2
  clear hb
  obtain ⟨ga, ca, rfl, _, lo, hi, hbx⟩ := own_box hoa (by rw [LX.out]; decide); rw [LX.out] at lo ⊢; clear hoa
  have x_x3 : Box w3 (ga) (XS.map (Value.int .u8)) := hbx
  clear hbx
  have ca := (x_x3).c 0 _ x0
  have za := (x_x3).lt
  go_upto_region 8 with fail
  clear ca za
  go_loopw [9] (fun s9 wr => ∃ i : Nat, s9 = .int .i64 i ∧ 1 ≤ i ∧ i ≤ 32 ∧ Box wr w.heap.size VS ∧ Box wr br V ∧ Box wr ga (XS.map (Value.int .u8)) ∧ Below w.heap.size w wr) (fun s9 _ => 32 - (intOf s9).toNat)
  case atStart => exact ⟨1, rfl, by omega, by omega, x_s3, x_r3, x_x3, hB3⟩
  case round =>
    clear x_s3 x_r3 x_x3 hB3 hs3
    obtain ⟨i, rfl, h1, h2, hS, hR, hX, hB⟩ := hrel
    by_cases hlt : i < 32
    · have ci := hX.c i _ (HN.out i h1 hlt)
      have zi := hX.lt
      have i3 : (i : Int) < 32 := by omega
      have i4 : (0 : Int) ≤ (i : Int) := by omega
      go_wp2_with fail
      go_roundw
      case rel => exact ⟨i + 1, by go_num, by omega, by omega, hS, hR, hX, hB⟩
      case measure => simp [intOf]; omega
    · skip
      obtain rfl : i = 32 := by omega
      clear hlt h1 h2 HN
      have x_s4 := hS; have x_r4 := hR; have x_x4 := hX; have hB4 := hB; have hs4 := hB.size; clear hS hR hX hB
      go_wp2_with fail
      refine (PA _ _ (IsL.range 32 ca LX.out x_x4.range (by omega) (by omega))).mono ?_
      rintro e w5 ⟨rfl, hb⟩
      clear PA
      have hB5 : Below w.heap.size w w5 := below_thru hB4 hb
      have hs5 := hB5.size
      have x_s5 : Box w5 (w.heap.size) (VS) := Box.below x_s4 hb
      have x_r5 : Box w5 (br) (V) := Box.below x_r4 hb
      have x_x5 : Box w5 (ga) (XS.map (Value.int .u8)) := Box.below x_x4 hb
      clear hB4 hs4 x_s4 x_r4 x_x4
      clear hb
      clear x_x5
      have d_t_s := (x_s5).lt
      have d_t_r := (x_r5).lt
      have d_t_0 := hs5
      go_upto_region 13 with (refine wpList_store_box (cs := V) rfl _ _ _ rfl (Box.newc (l := Rep.zero.v) rfl rfl) rfl rfl SV.out LV.out OV.out ?_; intro W5_0 hW5_0)
      have hN : Below w5.heap.size w5 W5_0 := (hW5_0.below _ _ (by omega) ((Below.refl _ w5).alloc (Nat.le_refl _) _))
      have x_t6 : Box W5_0 (w5.heap.size) (V) := hW5_0.box
      have hB6 : Below w.heap.size w W5_0 := below_thru hB5 hN
      have hs6 := hB6.size
      have x_s6 : Box W5_0 (w.heap.size) (VS) := Box.below x_s5 hN
      have x_r6 : Box W5_0 (br) (V) := Box.below x_r5 hN
      clear hB5 hs5 x_s5 x_r5
      clear hN hW5_0
      go_wp2_with (refine wpList_load_box9 rfl _ _ rfl x_s6 rfl Try.underlying26 rfl SS.out ?_)
      refine (WS _).mono ?_
      rintro e w7 ⟨vc, rfl, hoc, hb⟩
      clear hoc
      have hB7 : Below w.heap.size w w7 := below_thru hB6 hb
      have hs7 := hB7.size
      have x_s7 : Box w7 (w.heap.size) (VS) := Box.below x_s6 hb
      have x_r7 : Box w7 (br) (V) := Box.below x_r6 hb
      have x_t7 : Box w7 (w5.heap.size) (V) := Box.below x_t6 hb
      clear hB6 hs6 x_s6 x_r6 x_t6
      clear hb
      have cb := (x_s7).c 0 _ v0
      have zb := (x_s7).lt
      go_wp2_with (first
        | (refine wpList_load_box9 rfl _ _ rfl x_t7 rfl Try.underlying26 rfl SV.out ?_)
        | (refine wpList_load_box9 rfl _ _ rfl x_r7 rfl Try.underlying26 rfl SV.out ?_)
        | (refine wpList_load_box9 rfl _ _ rfl x_s7 rfl Try.underlying26 rfl SS.out ?_))
      refine (alive10_is _).mono ?_
      rintro e w8 ⟨rfl, hb⟩
      have hB8 : Below w.heap.size w w8 := below_thru hB7 hb
      have hs8 := hB8.size
      have x_s8 : Box w8 (w.heap.size) (VS) := Box.below x_s7 hb
      have x_r8 : Box w8 (br) (V) := Box.below x_r7 hb
      have x_t8 : Box w8 (w5.heap.size) (V) := Box.below x_t7 hb
      clear hB7 hs7 x_s7 x_r7 x_t7
      clear hb
      go_wp2_with fail
      go_returns
      exact ⟨rfl, hB8⟩

set_option maxRecDepth 100000 in
set_option maxHeartbeats 6400000 in
theorem bare10_no (n : Int) (hn : 0 ≤ n ∧ n ≤ 255) (hs : Sole n) (s : Rep) (hS : ¬ s.Ok) (w : World) : Calls Try.prog 7 #[.int .u8 n, .agg s.v.toArray] w fun e w' => e = .returned (.bool true) ∧ Below w.heap.size w w' := by
  have hok := Rep.lone_ok hn hs
  have CD := fun W => code_is n hn (G := Rep.lone n hn) (q := 0) (Or.inl ⟨rfl, hs, hn, rfl⟩) W
  have WR := fun W => pwr_is (Rep.lone n hn) (xs := (Rep.lone n hn).bs) (q := 0) (Or.inl ⟨rfl, hok, rfl⟩) W; have PA := pparse_self hok; unfold PReads at PA; have LX := Lib.hid (Rep.lone n hn).bs_len
  have HN := Lib.hid (fun (i : Nat) (h : 1 ≤ i) (h2 : i < 32) => lone_nth n hn h h2); have x0 : ((Rep.lone n hn).bs.map (Value.int .u8))[0]? = some (.int .u8 n) := by rw [lone_bs]; rfl
  have SV := Lib.hid (size_rep (Rep.lone n hn)); have LV := Lib.hid (len_rep Rep.zero (Rep.lone n hn)); have OV := Lib.hid (one_rep (Rep.lone n hn)); have EV := fun W => eqp_t (rfl : Rep.lone n hn = Rep.lone n hn) W
  have SS := Lib.hid (size_rep s)
  have WS := fun W => pwr_is s (xs := []) (q := 8) (Or.inr ⟨rfl, hS, rfl⟩) W
  obtain ⟨VS, hVS⟩ : ∃ V, s.v = V := ⟨_, rfl⟩
  rw [hVS] at SS WS ⊢
  clear hVS hS
  obtain ⟨XS, hXS⟩ : ∃ X, (Rep.lone n hn).bs = X := ⟨_, rfl⟩
  rw [hXS] at WR PA LX HN x0
  obtain ⟨V, hV⟩ : ∃ V, (Rep.lone n hn).v = V := ⟨_, rfl⟩
  rw [hV] at CD WR PA SV LV OV EV
  clear hV hXS hok hs hn
  go_enter Try.func7, Try.ntmps7
  go_upto_region 1 with fail
  refine F_gen (F := fun W => Code.wp _ _ _ _ W) (J := fun W => Box W (w.heap.size) (VS) ∧ Below w.heap.size w W) (And.intro (Box.newc rfl rfl) (by go_grown)) ?_
  intro w0 ⟨e_s, hB0⟩
  have hs0 := hB0.size
  have x_s0 := e_s; clear e_s
  go_wp2_with fail
  refine (CD _).mono ?_
  rintro e w1 ⟨rfl, hb⟩
  clear CD
  have hB1 : Below w.heap.size w w1 := below_thru hB0 hb
  have hs1 := hB1.size
  have x_s1 : Box w1 (w.heap.size) (VS) := Box.below x_s0 hb
  clear hB0 hs0 x_s0
  clear hb
  have d_r_s := (x_s1).lt
  have d_r_0 := hs1
  go_upto_region 2 with (refine wpList_store_box (cs := V) rfl _ _ _ rfl (Box.newc (l := Rep.zero.v) rfl rfl) rfl rfl SV.out LV.out OV.out ?_; intro W1_0 hW1_0)
  have hN : Below w1.heap.size w1 W1_0 := (hW1_0.below _ _ (by omega) ((Below.refl _ w1).alloc (Nat.le_refl _) _))
  have x_r2 : Box W1_0 (w1.heap.size) (V) := hW1_0.box
  have hB2 : Below w.heap.size w W1_0 := below_thru hB1 hN
  have hs2 := hB2.size
  have x_s2 : Box W1_0 (w.heap.size) (VS) := Box.below x_s1 hN
  clear hB1 hs1 x_s1
  clear hN hW1_0
  obtain ⟨br, hbr⟩ : ∃ b, w1.heap.size = b := ⟨_, rfl⟩; rw [hbr] at x_r2 ⊢; clear hbr
  go_wp2_with (refine wpList_load_box9 rfl _ _ rfl x_r2 rfl Try.underlying26 rfl SV.out ?_)
  refine (WR _).mono ?_
  rintro e w3 ⟨va, rfl, hoa, hb⟩
  clear WR
  have hB3 : Below w.heap.size w w3 := below_thru hB2 hb
  have hs3 := hB3.size
  have x_s3 : Box w3 (w.heap.size) (VS) := Box.below x_s2 hb
  have x_r3 : Box w3 (br) (V) := Box.below x_r2 hb
  clear hB2 hs2 x_s2 x_r2
  clear hb
  obtain ⟨ga, ca, rfl, _, lo, hi, hbx⟩ := own_box hoa (by rw [LX.out]; decide); rw [LX.out] at lo ⊢; clear hoa
  have x_x3 : Box w3 (ga) (XS.map (Value.int .u8)) := hbx
  clear hbx
  have ca := (x_x3).c 0 _ x0
  have za := (x_x3).lt
  go_upto_region 8 with fail
  clear ca za
  go_loopw [9] (fun s9 wr => ∃ i : Nat, s9 = .int .i64 i ∧ 1 ≤ i ∧ i ≤ 32 ∧ Box wr w.heap.size VS ∧ Box wr br V ∧ Box wr ga (XS.map (Value.int .u8)) ∧ Below w.heap.size w wr) (fun s9 _ => 32 - (intOf s9).toNat)
  case atStart => exact ⟨1, rfl, by omega, by omega, x_s3, x_r3, x_x3, hB3⟩
  case round =>
    clear x_s3 x_r3 x_x3 hB3 hs3
    obtain ⟨i, rfl, h1, h2, hS, hR, hX, hB⟩ := hrel
    by_cases hlt : i < 32
    · have ci := hX.c i _ (HN.out i h1 hlt)
      have zi := hX.lt
      have i3 : (i : Int) < 32 := by omega
      have i4 : (0 : Int) ≤ (i : Int) := by omega
      go_wp2_with fail
      go_roundw
      case rel => exact ⟨i + 1, by go_num, by omega, by omega, hS, hR, hX, hB⟩
      case measure => simp [intOf]; omega
    · skip
      obtain rfl : i = 32 := by omega
      clear hlt h1 h2 HN
      have x_s4 := hS; have x_r4 := hR; have x_x4 := hX; have hB4 := hB; have hs4 := hB.size; clear hS hR hX hB
      go_wp2_with fail
      refine (PA _ _ (IsL.range 32 ca LX.out x_x4.range (by omega) (by omega))).mono ?_
      rintro e w5 ⟨rfl, hb⟩
      clear PA
      have hB5 : Below w.heap.size w w5 := below_thru hB4 hb
      have hs5 := hB5.size
      have x_s5 : Box w5 (w.heap.size) (VS) := Box.below x_s4 hb
      have x_r5 : Box w5 (br) (V) := Box.below x_r4 hb
      have x_x5 : Box w5 (ga) (XS.map (Value.int .u8)) := Box.below x_x4 hb
      clear hB4 hs4 x_s4 x_r4 x_x4
      clear hb
      clear x_x5
      have d_t_s := (x_s5).lt
      have d_t_r := (x_r5).lt
      have d_t_0 := hs5
      go_upto_region 13 with (refine wpList_store_box (cs := V) rfl _ _ _ rfl (Box.newc (l := Rep.zero.v) rfl rfl) rfl rfl SV.out LV.out OV.out ?_; intro W5_0 hW5_0)
      have hN : Below w5.heap.size w5 W5_0 := (hW5_0.below _ _ (by omega) ((Below.refl _ w5).alloc (Nat.le_refl _) _))
      have x_t6 : Box W5_0 (w5.heap.size) (V) := hW5_0.box
      have hB6 : Below w.heap.size w W5_0 := below_thru hB5 hN
      have hs6 := hB6.size
      have x_s6 : Box W5_0 (w.heap.size) (VS) := Box.below x_s5 hN
      have x_r6 : Box W5_0 (br) (V) := Box.below x_r5 hN
      clear hB5 hs5 x_s5 x_r5
      clear hN hW5_0
      go_wp2_with (refine wpList_load_box9 rfl _ _ rfl x_s6 rfl Try.underlying26 rfl SS.out ?_)
      refine (WS _).mono ?_
      rintro e w7 ⟨vc, rfl, hoc, hb⟩
      clear hoc
      have hB7 : Below w.heap.size w w7 := below_thru hB6 hb
      have hs7 := hB7.size
      have x_s7 : Box w7 (w.heap.size) (VS) := Box.below x_s6 hb
      have x_r7 : Box w7 (br) (V) := Box.below x_r6 hb
      have x_t7 : Box w7 (w5.heap.size) (V) := Box.below x_t6 hb
      clear hB6 hs6 x_s6 x_r6 x_t6
      clear hb
      go_wp2_with (first
        | (refine wpList_load_box9 rfl _ _ rfl x_t7 rfl Try.underlying26 rfl SV.out ?_)
        | (refine wpList_load_box9 rfl _ _ rfl x_r7 rfl Try.underlying26 rfl SV.out ?_)
        | (refine wpList_load_box9 rfl _ _ rfl x_s7 rfl Try.underlying26 rfl SS.out ?_))
      refine (alive10_is _).mono ?_
      rintro e w8 ⟨rfl, hb⟩
      have hB8 : Below w.heap.size w w8 := below_thru hB7 hb
      have hs8 := hB8.size
      have x_s8 : Box w8 (w.heap.size) (VS) := Box.below x_s7 hb
      have x_r8 : Box w8 (br) (V) := Box.below x_r7 hb
      have x_t8 : Box w8 (w5.heap.size) (V) := Box.below x_t7 hb
      clear hB7 hs7 x_s7 x_r7 x_t7
      clear hb
      go_wp2_with fail
      go_returns
      exact ⟨rfl, hB8⟩

theorem bare_same {s : Rep} (h : s.Ok) {n : Int} (hn : 0 ≤ n ∧ n ≤ 255) (hs : Sole n) (hc : s.c = n) : s = Rep.lone n hn := by
  subst hc
  rcases h with h | h | h
  · exact absurd h.1 (fun e => hs.not_two (Or.inl e))
  · exact absurd h.1 (fun e => hs.not_two (Or.inr e))
  · exact h.2
theorem bare10_is (n : Int) (hn : 0 ≤ n ∧ n ≤ 255) (s : Rep) (w : World) : Calls Try.prog 7 #[.int .u8 n, .agg s.v.toArray] w fun e w' => e = .returned (.bool true) ∧ Below w.heap.size w w' := by
  by_cases hs : Sole n
  · by_cases hS : s.Ok
    · by_cases hc : s.c = n
      · rw [bare_same hS hn hs hc]
        exact bare10_same n hn hs w
      · exact bare10_other n hn hs s hS hc w
    · exact bare10_no n hn hs s hS w
  by_cases h1 : n < 1
  · exact bare10_lo n hn h1 s w
  by_cases h2 : 8 < n
  · exact bare10_hi n hn h2 s w
  have h3 : n = 2 ∨ n = 3 := by unfold Sole at hs; omega
  rcases h3 with rfl | rfl
  · exact bare10_2 s w
  · exact bare10_3 s w

end Go.Proofs.Ytipkgflonioacaa
