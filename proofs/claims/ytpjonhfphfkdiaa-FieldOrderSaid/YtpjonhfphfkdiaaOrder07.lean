/-
  FieldOrder, walked.
-/
import Derived.Test.YtpjonhfphfkdiaaAlive07
namespace Go.Proofs.Ytpjonhfphfkdiaa
open Go.RowKit

theorem num_app : ∀ (bs ps : List Int), num (ps ++ bs) = num ps * 256 ^ bs.length + num bs := by
  intro bs
  induction bs with
  | nil => intro ps; simp [num]
  | cons b bs ih =>
    intro ps
    rw [show ps ++ b :: bs = (ps ++ [b]) ++ bs by simp, ih, num_snoc, show b :: bs = [b] ++ bs from rfl, ih [b], show num [b] = b by simp [num], List.length_append, List.length_singleton, Nat.add_comm 1, Int.pow_succ]
    rw [Int.add_mul, Int.mul_comm 256 (num ps), Int.mul_assoc, Int.mul_comm 256]
    omega
theorem split_nth {xs : List Int} {i : Nat} (h : i < xs.length) : xs = xs.take i ++ ([nth xs i] ++ xs.drop (i + 1)) := by
  have e := take_succ_nth h
  have := List.take_append_drop (i + 1) xs
  rw [e, List.append_assoc] at this
  exact this.symm
theorem lex_lt {ps bs : List Int} {i : Nat} (hl : ps.length = bs.length) (hi : i < ps.length) (ha : Byts ps) (hb : Byts bs) (ht : ps.take i = bs.take i) (h : nth ps i < nth bs i) : num ps < num bs := by
  have hj : i < bs.length := by omega
  have e1 := num_app (ps.drop (i + 1)) ((ps.take i) ++ [nth ps i])
  have e2 := num_app (bs.drop (i + 1)) ((bs.take i) ++ [nth bs i])
  rw [List.append_assoc, ← split_nth hi, num_snoc] at e1
  rw [List.append_assoc, ← split_nth hj, num_snoc] at e2
  have l : (ps.drop (i + 1)).length = (bs.drop (i + 1)).length := by rw [List.length_drop, List.length_drop, hl]
  have b1 := num_bound _ (ps.drop (i + 1)) rfl (ha.drop _)
  have b2 := num_bound _ (bs.drop (i + 1)) rfl (hb.drop _)
  rw [l] at e1 b1
  rw [ht] at e1
  rw [e1, e2]
  generalize (256 : Int) ^ (bs.drop (i + 1)).length = m at b1 b2 ⊢
  generalize num (ps.drop (i + 1)) = p at b1 ⊢
  generalize num (bs.drop (i + 1)) = q at b2 ⊢
  generalize num (bs.take i) = z
  have h2 : (256 * z + nth ps i + 1) * m ≤ (256 * z + nth bs i) * m := Int.mul_le_mul_of_nonneg_right (by omega) (by omega)
  rw [Int.add_mul, Int.one_mul] at h2
  omega
/-- Two fields of a kind with valid numbers: their bytes. -/
structure OrdF (x y : Int) (ps bs : List Int) : Prop where
  len : ps.length = bs.length
  lt : ∀ i, i < ps.length → ps.take i = bs.take i → nth ps i < nth bs i → x < y
  gt : ∀ i, i < ps.length → ps.take i = bs.take i → nth bs i < nth ps i → y < x
  eq : ps = bs → x = y
theorem ord_of {k x y : Int} (hk : 0 ≤ k ∧ k ≤ 255) (hx : 0 ≤ x ∧ x ≤ 18446744073709551615) (hy : 0 ≤ y ∧ y ≤ 18446744073709551615) (h1 : (Fd.num k x hk hx).ok = true) (h2 : (Fd.num k y hk hy).ok = true) : OrdF x y (Fd.num k x hk hx).bs (Fd.num k y hk hy).bs := by
  unfold Fd.ok at h1 h2
  simp only [Bool.and_eq_true, Fd.num] at h1 h2
  by_cases h6 : k = 6
  · subst h6
    have g : gre 6 = 0 := rfl
    have g1 := of_decide_eq_true h1.1.2
    have g2 := of_decide_eq_true h2.1.2
    obtain rfl : x = 0 := by omega
    obtain rfl : y = 0 := by omega
    exact ⟨rfl, fun i _ _ h => absurd h (Int.lt_irrefl _), fun i _ _ h => absurd h (Int.lt_irrefl _), fun _ => rfl⟩
  · have e1 : (Fd.num k x hk hx).bs = be (wid k) x := if_neg h6
    have e2 : (Fd.num k y hk hy).bs = be (wid k) y := if_neg h6
    rw [e1, e2]
    have g := gre_lt h6 (of_decide_eq_true h1.1.1)
    have g1 := of_decide_eq_true h1.1.2
    have g2 := of_decide_eq_true h2.1.2
    have n1 := num_be (wid k) x hx.1 (by omega)
    have n2 := num_be (wid k) y hy.1 (by omega)
    refine ⟨by rw [be_len, be_len], fun i hi ht h => ?_, fun i hi ht h => ?_, fun h => ?_⟩
    · have := lex_lt (by rw [be_len, be_len]) hi (be_byts _ _) (be_byts _ _) ht h
      rwa [n1, n2] at this
    · have := lex_lt (by rw [be_len, be_len]) (by rw [be_len] at hi ⊢; exact hi) (be_byts _ _) (be_byts _ _) ht.symm h
      rwa [n1, n2] at this
    · rw [← n1, ← n2, h]

set_option maxRecDepth 100000 in
set_option maxHeartbeats 3200000 in
theorem order_is (k x y : Int) (w : World) (hk : 0 ≤ k ∧ k ≤ 255) (hx : 0 ≤ x ∧ x ≤ 18446744073709551615) (hy : 0 ≤ y ∧ y ≤ 18446744073709551615) : Calls Try.prog 8 #[.int .u8 k, .int .u64 x, .int .u64 y] w fun e w' => e = .returned (.bool true) ∧ Below w.heap.size w w' := by
  have N1 := number_is k x
  have N2 := number_is k y
  have R1 := rcheck_is (Fd.num k x hk hx)
  have R2 := rcheck_is (Fd.num k y hk hy)
  have E1 : (Fd.num k x hk hx).v = fcell k x zeroD := rfl
  have E2 : (Fd.num k y hk hy).v = fcell k y zeroD := rfl
  rw [E1] at R1
  rw [E2] at R2
  have s1 := sizeC k x zeroD rfl
  have s2 := sizeC k y zeroD rfl
  have l1 : (fcell k x zeroD).length = 34 := rfl
  have l2 : (fcell k y zeroD).length = 34 := rfl
  have o1 := oneC k x zeroD
  have o2 := oneC k y zeroD
  have t1 := rfl (a := (fcell k x zeroD).length)
  have hzl : Fd.zero.v.length = 34 := rfl
  obtain ⟨V, hV⟩ : ∃ V, fcell k x zeroD = V := ⟨_, rfl⟩
  obtain ⟨U, hU⟩ : ∃ U, fcell k y zeroD = U := ⟨_, rfl⟩
  rw [hV] at N1 R1 s1 l1 o1
  rw [hU] at N2 R2 s2 l2 o2
  have z1 : Fd.zero.v.length = V.length := by rw [l1]; rfl
  have z2 : Fd.zero.v.length = U.length := by rw [l2]; rfl
  have HV : Hid (flatR LF [Fd.num k x hk hx] = V) := Lib.hid (by rw [flatR_one, ← hV]; rfl)
  have HU : Hid (flatR LF [Fd.num k y hk hy] = U) := Lib.hid (by rw [flatR_one, ← hU]; rfl)
  clear t1 hzl
  rcases Fd.err_two (Fd.num k x hk hx) with ⟨p1, p2⟩ | ⟨p1, p2⟩
  case inr =>
    rw [p2] at R1
    clear p1 p2 hV hU HV HU R2
    go_enter Try.func8, Try.ntmps8
    go_wp2_with fail
    refine (N1 _).mono ?_
    rintro e w1 ⟨rfl, hb1⟩
    go_wp2_with fail
    refine (N2 _).mono ?_
    rintro e w2 ⟨rfl, hb2⟩
    have hB2 := below_thru hb1 hb2
    have hs2 := hB2.size
    go_upto_region 2 with (first | (refine wpList_store_box (cs := V) rfl _ _ _ rfl (Box.alloc (Box.newc (l := Fd.zero.v) rfl rfl) _) rfl rfl s1 z1 o1 ?_; intro w3 hW3) | (refine wpList_store_box (cs := U) rfl _ _ _ rfl (hW3.past _ _ (by omega) (Box.newc (l := Fd.zero.v) rfl (by simp))) rfl rfl s2 z2 o2 ?_; intro w4 hW4))
    have hX4 := hW4.past _ _ (by omega) hW3.box
    have hY4 := hW4.box
    have hB4 : Below w.heap.size w w4 := hW4.below _ _ (by omega) (hW3.below _ _ (by omega) (by go_grown))
    have hs4 := hB4.size
    clear hW4 hW3 hb1 hb2 hB2
    go_wp2_with (refine wpList_load_box rfl _ _ rfl hX4 rfl Try.underlying30 rfl s1 ?_)
    refine (R1 _).mono ?_
    rintro e w5 ⟨rfl, hb5⟩
    have hB5 := below_thru hB4 hb5
    go_wp2_with fail
    refine (alive_is _).mono ?_
    rintro e w6 ⟨rfl, hb6⟩
    go_wp2_with fail
    go_returns
    exact ⟨rfl, below_thru hB5 hb6⟩
  case inl =>
    rw [p2] at R1
    rcases Fd.err_two (Fd.num k y hk hy) with ⟨q1, q2⟩ | ⟨q1, q2⟩
    case inr =>
      rw [q2] at R2
      clear p1 p2 q1 q2 hV hU HV HU
      go_enter Try.func8, Try.ntmps8
      go_wp2_with fail
      refine (N1 _).mono ?_
      rintro e w1 ⟨rfl, hb1⟩
      go_wp2_with fail
      refine (N2 _).mono ?_
      rintro e w2 ⟨rfl, hb2⟩
      have hB2 := below_thru hb1 hb2
      have hs2 := hB2.size
      go_upto_region 2 with (first | (refine wpList_store_box (cs := V) rfl _ _ _ rfl (Box.alloc (Box.newc (l := Fd.zero.v) rfl rfl) _) rfl rfl s1 z1 o1 ?_; intro w3 hW3) | (refine wpList_store_box (cs := U) rfl _ _ _ rfl (hW3.past _ _ (by omega) (Box.newc (l := Fd.zero.v) rfl (by simp))) rfl rfl s2 z2 o2 ?_; intro w4 hW4))
      have hX4 := hW4.past _ _ (by omega) hW3.box
      have hY4 := hW4.box
      have hB4 : Below w.heap.size w w4 := hW4.below _ _ (by omega) (hW3.below _ _ (by omega) (by go_grown))
      have hs4 := hB4.size
      clear hW4 hW3 hb1 hb2 hB2
      go_wp2_with (refine wpList_load_box rfl _ _ rfl hX4 rfl Try.underlying30 rfl s1 ?_)
      refine (R1 _).mono ?_
      rintro e w5 ⟨rfl, hb5⟩
      have hB5 := below_thru hB4 hb5
      have hY5 := hY4.below hb5
      go_wp2_with (refine wpList_load_rangew (by rfl) _ _ rfl hY5.range rfl Try.underlying30 rfl s2 ?_)
      refine (R2 _).mono ?_
      rintro e w6 ⟨rfl, hb6⟩
      have hB6 := below_thru hB5 hb6
      go_wp2_with fail
      refine (alive_is _).mono ?_
      rintro e w7 ⟨rfl, hb7⟩
      go_wp2_with fail
      go_returns
      exact ⟨rfl, below_thru hB6 hb7⟩
    case inl =>
      rw [q2] at R2
      have HO := Lib.hid (ord_of hk hx hy p1 q1)
      have W1 := fun (W : World) (v : Value) (h : IsR LF W v [Fd.num k x hk hx]) => write_is W h
      have W2 := fun (W : World) (v : Value) (h : IsR LF W v [Fd.num k y hk hy]) => write_is W h
      have r1 : rowE [Fd.num k x hk hx] = 0 := rowE_ok (by simp) (fun f hf => by simp at hf; rw [hf]; exact p1)
      have r2 : rowE [Fd.num k y hk hy] = 0 := rowE_ok (by simp) (fun f hf => by simp at hf; rw [hf]; exact q1)
      rw [rowV_ok r1, r1, rowB_cons, rowB_nil, List.append_nil] at W1
      rw [rowV_ok r2, r2, rowB_cons, rowB_nil, List.append_nil] at W2
      have la : (Fd.num k x hk hx).bs.length = wid k := Fd.bs_len _
      have lb : (Fd.num k y hk hy).bs.length = wid k := Fd.bs_len _
      have wz : wid k ≠ 0 := by
        unfold Fd.ok at p1
        simp only [Bool.and_eq_true, Fd.num] at p1
        exact of_decide_eq_true p1.1.1
      have WD := width_is k
      rw [show widE k = 0 from if_neg wz] at WD
      have wl := wid_le k
      obtain ⟨ps, has⟩ : ∃ ps, (Fd.num k x hk hx).bs = ps := ⟨_, rfl⟩
      obtain ⟨bs, hbs⟩ : ∃ bs, (Fd.num k y hk hy).bs = bs := ⟨_, rfl⟩
      rw [has] at W1 HO la
      rw [hbs] at W2 HO lb
      obtain ⟨m, hm⟩ : ∃ m, wid k = m := ⟨_, rfl⟩
      rw [hm] at WD wl la lb
      obtain ⟨ti, hin, hz0, hz1, hz2⟩ := info_parts info_fld
      have HB1 := Lib.hid (fun W => run_bslice (P := Try.prog) W 32 30 ti _ 34 Try.underlying32 hin hz0 hz1 rfl V l1 (by decide) (by decide))
      have HB2 := Lib.hid (fun W => run_bslice (P := Try.prog) W 32 30 ti _ 34 Try.underlying32 hin hz0 hz1 rfl U l2 (by decide) (by decide))
      have LA := Lib.hid la
      have LB := Lib.hid lb
      have wx := Lib.hid hx
      clear p1 p2 q1 q2 hV hU r1 r2 la lb wz has hbs hm
      go_enter Try.func8, Try.ntmps8
      go_wp2_with fail
      refine (N1 _).mono ?_
      rintro e w1 ⟨rfl, hb1⟩
      go_wp2_with fail
      refine (N2 _).mono ?_
      rintro e w2 ⟨rfl, hb2⟩
      have hB2 := below_thru hb1 hb2
      have hs2 := hB2.size
      go_upto_region 2 with (first | (refine wpList_store_box (cs := V) rfl _ _ _ rfl (Box.alloc (Box.newc (l := Fd.zero.v) rfl rfl) _) rfl rfl s1 z1 o1 ?_; intro w3 hW3) | (refine wpList_store_box (cs := U) rfl _ _ _ rfl (hW3.past _ _ (by omega) (Box.newc (l := Fd.zero.v) rfl (by simp))) rfl rfl s2 z2 o2 ?_; intro w4 hW4))
      have hX4 := hW4.past _ _ (by omega) hW3.box
      have hY4 := hW4.box
      have hB4 : Below w.heap.size w w4 := hW4.below _ _ (by omega) (hW3.below _ _ (by omega) (by go_grown))
      have hs4 := hB4.size
      clear hW4 hW3 hb1 hb2 hB2
      go_wp2_with (refine wpList_load_box rfl _ _ rfl hX4 rfl Try.underlying30 rfl s1 ?_)
      refine (R1 _).mono ?_
      rintro e w5 ⟨rfl, hb5⟩
      have hB5 := below_thru hB4 hb5
      have hX5 := hX4.below hb5
      have hY5 := hY4.below hb5
      clear hB4 hX4 hY4 hb5
      go_wp2_with (refine wpList_load_rangew (by rfl) _ _ rfl hY5.range rfl Try.underlying30 rfl s2 ?_)
      refine (R2 _).mono ?_
      rintro e w6 ⟨rfl, hb6⟩
      have hB6 := below_thru hB5 hb6
      have hX6 := hX5.below hb6
      have hY6 := hY5.below hb6
      have hs6 := hB6.size
      clear hB5 hX5 hY5 hb6 R1 R2
      go_wp2_with (first | refine wpList_load_box rfl _ _ rfl hX6 rfl Try.underlying30 rfl s1 ?_ | refine wpList_bslice rfl 32 1 _ rfl (u := .agg V.toArray) (by rfl) (HB1.out _) ?_)
      refine (W1 _ _ (IsR.ofBox (Box.newc rfl rfl) HV.out.symm rfl (by simp))).mono ?_
      rintro e w7 ⟨v7, rfl, hl7, hb7⟩
      have hB7 := below_thru (hB6.alloc hs6 _) hb7
      have hY7 := (hY6.alloc (.cells V.toArray 30)).below hb7
      have hs7 := hB7.size
      have L7 := Lib.hid hl7
      clear hB6 hX6 hY6 hb7 hs6 hl7 W1
      go_wp2_with (first | refine wpList_load_box rfl _ _ rfl hY7 rfl Try.underlying30 rfl s2 ?_ | refine wpList_bslice rfl 32 1 _ rfl (u := .agg U.toArray) (by rfl) (HB2.out _) ?_)
      refine (W2 _ _ (IsR.ofBox (Box.newc rfl rfl) HU.out.symm rfl (by simp))).mono ?_
      rintro e w8 ⟨v8, rfl, hl8, hb8⟩
      have hB8 := below_thru (hB7.alloc hs7 _) hb8
      have L8 := Lib.hid ((L7.out.alloc (.cells U.toArray 30)).below hb8)
      have M8 := Lib.hid hl8
      clear hB7 hY7 hb8 hs7 hl8 W2 L7 HB1 HB2 HV HU N1 N2 s1 s2 l1 l2 o1 o2 z1 z2
      go_wp2_with fail
      refine (WD _).mono ?_
      rintro e w9 ⟨rfl, rfl⟩
      obtain ⟨a9, c9, rfl, hr9, _⟩ := id L8.out
      obtain ⟨a8, c8, rfl, hr8, _⟩ := id M8.out
      have k1 := hr9.room
      have k2 := hr9.most
      have k3 := hr8.room
      have k4 := hr8.most
      clear hr9 hr8 WD
      have da : ((ps.length : Int) != (m : Int)) = false := by rw [LA.out]; simp
      have db : ((bs.length : Int) != (m : Int)) = false := by rw [LB.out]; simp
      have AM := Lib.hid (show ps.length ≤ 32 by rw [LA.out]; exact wl)
      go_wp2_with fail
      clear da db
      go_loopw [15] (fun s15 wr => ∃ j : Nat, s15 = .int .i64 j ∧ j ≤ ps.length ∧ Hid (ps.take j = bs.take j) ∧ Below w9.heap.size w9 wr) (fun s15 _ => ps.length - (intOf s15).toNat)
      case atStart => exact ⟨0, rfl, by omega, Lib.hid rfl, Below.refl _ _⟩
      case round =>
        obtain ⟨j, rfl, hj, HT, hB⟩ := hrel
        have hBw := below_thru hB8 hB
        by_cases hlt : j < ps.length
        case neg =>
          have hxy : x = y := HO.out.eq (by
            have e := HT.out
            have := HO.out.len
            rwa [List.take_of_length_le (by omega), List.take_of_length_le (by omega)] at e)
          subst hxy
          go_wp2_with fail
          refine (alive_is _).mono ?_
          rintro e x1 ⟨rfl, hb⟩
          go_wp2_with fail
          go_returns
          exact ⟨rfl, below_thru hBw hb⟩
        case pos =>
          have hlt2 : j < bs.length := by have := HO.out.len; omega
          obtain ⟨b, off, rfl, hc⟩ := L8.out.get j hlt
          obtain ⟨b', off', rfl, hc'⟩ := M8.out.get j hlt2
          have g1 := cell_below hB hc
          have g2 := cell_below hB hc'
          have i0 : (0 : Int) ≤ (j : Int) := by omega
          have i1 : (j : Int) < (ps.length : Int) := by omega
          have i2 : (j : Int) < (bs.length : Int) := by omega
          have S1 := Lib.hid (take_succ_nth hlt)
          have S2 := Lib.hid (take_succ_nth hlt2)
          have HL := Lib.hid (HO.out.lt j hlt HT.out)
          have HG := Lib.hid (HO.out.gt j hlt HT.out)
          obtain ⟨p, hp⟩ : ∃ p, nth ps j = p := ⟨_, rfl⟩
          obtain ⟨q, hq⟩ : ∃ q, nth bs j = q := ⟨_, rfl⟩
          rw [hp] at g1 S1 HL HG
          rw [hq] at g2 S2 HL HG
          clear hc hc' hp hq
          by_cases hpq : p = q
          · subst hpq
            have HT2 := Lib.hid (show ps.take (j + 1) = bs.take (j + 1) by rw [S1.out, S2.out, HT.out])
            have h0 := bne_self_eq_false p
            go_wp2_with fail
            go_quiet (fail)
            go_wp2_with fail
            go_roundw
            case rel => exact ⟨j + 1, by go_num, by omega, HT2, below_drewN hB _⟩
            case measure => simp [intOf]; omega
          · have hne : (p != q) = true := by simpa using hpq
            have hlt3 : decide (p < q) = decide (x < y) := by
              rcases Int.lt_or_lt_of_ne hpq with h | h
              · rw [decide_eq_true h, decide_eq_true (HL.out h)]
              · have := HG.out h
                rw [decide_eq_false (by omega), decide_eq_false (by omega)]
            have hxy : (x != y) = true := by
              rw [bne_iff_ne]
              rcases Int.lt_or_lt_of_ne hpq with h | h
              · have := HL.out h; omega
              · have := HG.out h; omega
            obtain ⟨t, ht⟩ : ∃ t, decide (x < y) = t := ⟨_, rfl⟩
            rw [ht] at hlt3
            have htt : (t == t) = true := by cases t <;> rfl
            clear hpq
            go_wp2_with fail
            go_quiet (fail)
            go_upto_region 13 with fail
            refine wp_region_held_drew (S := fun w' => w'.cell? ⟨b, off + j, none⟩ = some (.int .u8 p) ∧ w'.cell? ⟨b', off' + j, none⟩ = some (.int .u8 q)) (by kernel_rfl) ⟨g1, g2⟩ (fun _ => ?_)
            refine F_drew (F := fun W => wpAnyH _ _ _ _ _ _ _ _ W) ?_
            intro W0 hb0
            have hb0' := below_thru (below_drewN (Below.refl wr.heap.size wr) nq) hb0
            have hx0 := And.intro (cell_below hb0' g1) (cell_below hb0' g2); have hB0 := below_thru hBw hb0'
            refine takeH 0 85 (v := ?vr0_1) rfl (by rfl) (by kernel_rfl) (by kernel_rfl) (by kernel_rfl) (fun _ _ _ h => h) (Or.inl ⟨by rfl, ?_⟩) (hx0) ?_
            rotate_left
            · intro wq hSq
              go_simp
              exact rfl
            try simp only [Act.put, List.setIfInBounds_toArray, List.set_cons_zero, List.set_cons_succ]
            refine takeH 1 86 (v := ?vr1_2) rfl (by rfl) (by kernel_rfl) (by kernel_rfl) (by kernel_rfl) (fun _ _ _ h => h) (Or.inl ⟨by rfl, ?_⟩) (hx0) ?_
            rotate_left
            · intro wq hSq
              go_simp
              exact rfl
            try simp only [Act.put, List.setIfInBounds_toArray, List.set_cons_zero, List.set_cons_succ]
            refine takeH 2 87 (v := ?vr2_3) rfl (by rfl) (by kernel_rfl) (by kernel_rfl) (by kernel_rfl) (fun _ _ _ h => h) (Or.inl ⟨by rfl, ?_⟩) (hx0) ?_
            rotate_left
            · intro wq hSq
              go_simp
              exact rfl
            try simp only [Act.put, List.setIfInBounds_toArray, List.set_cons_zero, List.set_cons_succ]
            refine takeH 3 88 (v := ?vr3_4) rfl (by rfl) (by kernel_rfl) (by kernel_rfl) (by kernel_rfl) (fun _ _ _ h => h) (Or.inl ⟨by rfl, ?_⟩) (hx0) ?_
            rotate_left
            · intro wq hSq
              have cq := hSq.1
              have zq := lt_of_cell cq
              go_simp
              exact rfl
            try simp only [Act.put, List.setIfInBounds_toArray, List.set_cons_zero, List.set_cons_succ]
            refine takeH 4 89 (v := ?vr4_5) rfl (by rfl) (by kernel_rfl) (by kernel_rfl) (by kernel_rfl) (fun _ _ _ h => h) (Or.inl ⟨by rfl, ?_⟩) (hx0) ?_
            rotate_left
            · intro wq hSq
              go_simp
              exact rfl
            try simp only [Act.put, List.setIfInBounds_toArray, List.set_cons_zero, List.set_cons_succ]
            refine takeH 5 90 (v := ?vr5_6) rfl (by rfl) (by kernel_rfl) (by kernel_rfl) (by kernel_rfl) (fun _ _ _ h => h) (Or.inl ⟨by rfl, ?_⟩) (hx0) ?_
            rotate_left
            · intro wq hSq
              go_simp
              exact rfl
            try simp only [Act.put, List.setIfInBounds_toArray, List.set_cons_zero, List.set_cons_succ]
            refine takeH 6 91 (v := ?vr6_7) rfl (by rfl) (by kernel_rfl) (by kernel_rfl) (by kernel_rfl) (fun _ _ _ h => h) (Or.inl ⟨by rfl, ?_⟩) (hx0) ?_
            rotate_left
            · intro wq hSq
              go_simp
              exact rfl
            try simp only [Act.put, List.setIfInBounds_toArray, List.set_cons_zero, List.set_cons_succ]
            refine takeH 7 92 (v := ?vr7_8) rfl (by rfl) (by kernel_rfl) (by kernel_rfl) (by kernel_rfl) (fun _ _ _ h => h) (Or.inl ⟨by rfl, ?_⟩) (hx0) ?_
            rotate_left
            · intro wq hSq
              have cq := hSq.2
              have zq := lt_of_cell cq
              go_simp
              exact rfl
            try simp only [Act.put, List.setIfInBounds_toArray, List.set_cons_zero, List.set_cons_succ]
            refine takeH 8 93 (v := ?vr8_9) rfl (by rfl) (by kernel_rfl) (by kernel_rfl) (by kernel_rfl) (fun _ _ _ h => h) (Or.inl ⟨by rfl, ?_⟩) (hx0) ?_
            rotate_left
            · intro wq hSq
              go_simp
              exact rfl
            try simp only [Act.put, List.setIfInBounds_toArray, List.set_cons_zero, List.set_cons_succ]
            refine takeH 9 94 (v := ?vr9_10) rfl (by rfl) (by kernel_rfl) (by kernel_rfl) (by kernel_rfl) (fun _ _ _ h => h) (Or.inl ⟨by rfl, ?_⟩) (hx0) ?_
            rotate_left
            · intro wq hSq
              go_simp
              exact rfl
            try simp only [Act.put, List.setIfInBounds_toArray, List.set_cons_zero, List.set_cons_succ]
            refine takeH 10 95 (v := ?vr10_11) rfl (by rfl) (by kernel_rfl) (by kernel_rfl) (by kernel_rfl) (fun _ _ _ h => h) (Or.inl ⟨by rfl, ?_⟩) (hx0) ?_
            rotate_left
            · intro wq hSq
              go_simp
              exact rfl
            try simp only [Act.put, List.setIfInBounds_toArray, List.set_cons_zero, List.set_cons_succ]
            refine takeH 11 96 (v := ?vr11_12) rfl (by rfl) (by kernel_rfl) (by kernel_rfl) (by kernel_rfl) (fun _ _ _ h => h) (Or.inl ⟨by rfl, ?_⟩) (hx0) ?_
            rotate_left
            · intro wq hSq
              go_simp
              exact rfl
            try simp only [Act.put, List.setIfInBounds_toArray, List.set_cons_zero, List.set_cons_succ]
            refine takeH 12 97 (v := ?vr12_13) rfl (by rfl) (by kernel_rfl) (by kernel_rfl) (by kernel_rfl) (fun _ _ _ h => h) (Or.inl ⟨by rfl, ?_⟩) (hx0) ?_
            rotate_left
            · intro wq hSq
              go_simp
              exact rfl
            try simp only [Act.put, List.setIfInBounds_toArray, List.set_cons_zero, List.set_cons_succ]
            refine takeH 13 98 (v := ?vr13_14) rfl (by rfl) (by kernel_rfl) (by kernel_rfl) (by kernel_rfl) (fun _ _ _ h => h) (Or.inl ⟨by rfl, ?_⟩) (hx0) ?_
            rotate_left
            · intro wq hSq
              go_simp
              exact rfl
            try simp only [Act.put, List.setIfInBounds_toArray, List.set_cons_zero, List.set_cons_succ]
            refine takeH 14 99 (v := ?vr14_15) rfl (by rfl) (by kernel_rfl) (by kernel_rfl) (by kernel_rfl) (fun _ _ _ h => h) (Or.inl ⟨by rfl, ?_⟩) (hx0) ?_
            rotate_left
            · intro wq hSq
              go_simp
              exact rfl
            try simp only [Act.put, List.setIfInBounds_toArray, List.set_cons_zero, List.set_cons_succ]
            refine takeH 15 100 (v := ?vr15_16) rfl (by rfl) (by kernel_rfl) (by kernel_rfl) (by kernel_rfl) (fun _ _ _ h => h) (Or.inl ⟨by rfl, ?_⟩) (hx0) ?_
            rotate_left
            · intro wq hSq
              go_simp
              exact rfl
            try simp only [Act.put, List.setIfInBounds_toArray, List.set_cons_zero, List.set_cons_succ]
            refine takeH 16 101 (v := ?vr16_17) rfl (by rfl) (by kernel_rfl) (by kernel_rfl) (by kernel_rfl) (fun _ _ _ h => h) (Or.inl ⟨by rfl, ?_⟩) (hx0) ?_
            rotate_left
            · intro wq hSq
              go_simp
              exact rfl
            try simp only [Act.put, List.setIfInBounds_toArray, List.set_cons_zero, List.set_cons_succ]
            refine takeH 17 102 (v := ?vr17_18) rfl (by rfl) (by kernel_rfl) (by kernel_rfl) (by kernel_rfl) (fun _ _ _ h => h) (Or.inl ⟨by rfl, ?_⟩) (hx0) ?_
            rotate_left
            · intro wq hSq
              go_simp
              exact rfl
            try simp only [Act.put, List.setIfInBounds_toArray, List.set_cons_zero, List.set_cons_succ]
            refine takeH 18 103 (v := ?vr18_19) rfl (by rfl) (by kernel_rfl) (by kernel_rfl) (by kernel_rfl) (fun _ _ _ h => h) (Or.inl ⟨by rfl, ?_⟩) (hx0) ?_
            rotate_left
            · intro wq hSq
              go_simp
              exact rfl
            try simp only [Act.put, List.setIfInBounds_toArray, List.set_cons_zero, List.set_cons_succ]
            refine wpAnyH_ready (rs := [19]) (by kernel_rfl) (by simp) (AllReadyH.cons rfl (fun K hK => ?_) AllReadyH.nil)
            go_simp
            refine (alive_is _).mono ?_
            rintro e W20 ⟨rfl, hb20⟩
            have hB20 := below_thru hB0 hb20
            have hx20 := And.intro (cell_below hb20 hx0.1) (cell_below hb20 hx0.2)
            refine hK.out _ _ hx20 (fun _ => ?_); clear hK K
            refine takeH 20 105 (v := ?vr20_21) rfl (by rfl) (by kernel_rfl) (by kernel_rfl) (by kernel_rfl) (fun _ _ _ h => h) (Or.inl ⟨by rfl, ?_⟩) (hx20) ?_
            rotate_left
            · intro wq hSq
              go_simp
              exact rfl
            try simp only [Act.put, List.setIfInBounds_toArray, List.set_cons_zero, List.set_cons_succ]
            refine takeH 21 6 (v := ?vr21_22) rfl (by rfl) (by kernel_rfl) (by kernel_rfl) (by kernel_rfl) (fun _ _ _ h => h) (Or.inl ⟨by rfl, ?_⟩) (hx20) ?_
            rotate_left
            · intro wq hSq
              go_simp
              exact rfl
            try simp only [Act.put, List.setIfInBounds_toArray, List.set_cons_zero, List.set_cons_succ]
            refine wpAnyH_done (by kernel_rfl) ?_ _
            go_wp2_with fail
            go_returns
            exact ⟨rfl, hB20⟩


end Go.Proofs.Ytpjonhfphfkdiaa
