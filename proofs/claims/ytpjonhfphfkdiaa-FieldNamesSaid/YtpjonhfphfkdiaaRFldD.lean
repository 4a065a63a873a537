/-
  The reference of layer 7: Same, Row, one, Kinds.
-/
import Derived.Test.YtpjonhfphfkdiaaRFldC
namespace Go.Proofs.Ytpjonhfphfkdiaa
open Go.RowKit

instance : DecidableEq Fd := fun f g => decidable_of_iff (eqF f g = true) eqF_iff
def sameF (fs gs : List Fd) : Bool := decide (fs = gs)
theorem ret_b {a b : Bool} (h : a = b) : Ending.returned (.bool a) = .returned (.bool b) := by rw [h]
theorem eqF_dec (f g : Fd) : eqF f g = decide (f = g) := by
  cases h : eqF f g with
  | true => exact (decide_eq_true (eqF_iff.1 h)).symm
  | false => exact (decide_eq_false (fun q => by rw [eqF_iff.2 q] at h; cases h)).symm
theorem same_step {fs gs : List Fd} {k : Nat} (h1 : k < fs.length) (h2 : k < gs.length) (h : fs.take k = gs.take k) (hq : fs[k] = gs[k]) : fs.take (k + 1) = gs.take (k + 1) := by
  rw [List.take_succ_eq_append_getElem h1, List.take_succ_eq_append_getElem h2, h, hq]

set_option maxRecDepth 100000 in
set_option maxHeartbeats 1600000 in
theorem rsame_is {v u : Value} {fs gs : List Fd} (w : World) (h1 : IsR LF w v fs) (h2 : IsR LF w u gs) : Calls Try.prog 24 #[v, u] w fun e w' => e = .returned (.bool (sameF fs gs)) ∧ Below w.heap.size w w' := by
  obtain ⟨a1, c1, rfl, hr1⟩ := id h1
  obtain ⟨a2, c2, rfl, hr2⟩ := id h2
  have m1 := hr1.most
  have r1 := hr1.room
  have m2 := hr2.most
  have r2 := hr2.room
  have H1 := Lib.hid h1
  have H2 := Lib.hid h2
  clear h1 h2 hr1 hr2
  by_cases hl : fs.length = gs.length
  · have hd : ((fs.length : Int) != (gs.length : Int)) = false := by rw [hl]; simp
    have HL := Lib.hid hl
    clear hl
    go_enter Try.func24, Try.ntmps24
    go_wp2_with fail
    go_loopw [5] (fun i wr => ∃ k : Nat, k ≤ fs.length ∧ i = .int .i64 k ∧ Hid (fs.take k = gs.take k) ∧ Below w.heap.size w wr) (fun i _ => fs.length - (intOf i).toNat)
    case atStart => exact ⟨0, Nat.zero_le _, rfl, Lib.hid rfl, Below.refl _ _⟩
    case round =>
      obtain ⟨k, hk, rfl, HE, hB⟩ := hrel
      by_cases hlt : k < fs.length
      · have hlt2 : k < gs.length := by rw [← HL.out]; exact hlt
        obtain ⟨b1, o1, rfl, hR1⟩ := H1.out.get 34 rfl (List.getElem?_eq_getElem hlt)
        obtain ⟨b2, o2, rfl, hR2⟩ := H2.out.get 34 rfl (List.getElem?_eq_getElem hlt2)
        have x1 := range_below hR1 hB
        have x2 := range_below hR2 hB
        have HS := Lib.hid (same_step hlt hlt2 HE.out)
        have hno : fs[k] ≠ gs[k] → fs ≠ gs := fun q e => by subst e; exact q rfl
        have HNO := Lib.hid hno
        obtain ⟨f, hf⟩ : ∃ f, fs[k] = f := ⟨_, rfl⟩
        obtain ⟨g, hg⟩ : ∃ g, gs[k] = g := ⟨_, rfl⟩
        rw [hf] at x1
        rw [hg] at x2
        rw [hf, hg] at HS HNO
        have hS := lenFld f
        have hS2 := lenFld g
        have E := eq_fld f g
        clear hR1 hR2 hf hg hno
        obtain ⟨V, hV⟩ : ∃ V, f.v = V := ⟨_, rfl⟩
        obtain ⟨U, hU⟩ : ∃ U, g.v = U := ⟨_, rfl⟩
        rw [show LF.f f = V from hV] at x1
        rw [show LF.f g = U from hU] at x2
        rw [hV, hU] at E
        rw [hV] at hS
        rw [hU] at hS2
        clear hV hU
        have i0 : (0 : Int) ≤ (k : Int) := by omega
        have i1 : (k : Int) < (fs.length : Int) := by omega
        have i2 : (k : Int) < (gs.length : Int) := by omega
        cases hq : eqF f g with
        | true =>
          have HT := Lib.hid (HS.out (eqF_iff.1 hq))
          rw [hq] at E
          clear hq
          go_upto_region 6 with fail
          refine wp_region_held_drew (S := fun w' => w'.rangeAt b1 (o1 + k * 34) V ∧ w'.rangeAt b2 (o2 + k * 34) U) (by kernel_rfl) ⟨range_below x1 ((Below.refl _ _).drew), range_below x2 ((Below.refl _ _).drew)⟩ (fun _ => ?_)
          refine F_drew (F := fun W => wpAnyH _ _ _ _ _ _ _ _ W) ?_
          intro W0 hb0
          have hx0 := And.intro (range_below x1 hb0) (range_below x2 hb0); have hB0 := below_thru hB hb0
          clear x1 x2 hB hb0
          refine takeH 0 17 (v := ?vs0_1) rfl (by rfl) (by kernel_rfl) (by kernel_rfl) (by kernel_rfl) (fun _ _ _ h => h) (Or.inl ⟨by rfl, ?_⟩) (hx0) ?_
          rotate_left
          · intro wq hSq
            go_simp
            exact rfl
          try simp only [Act.put, List.setIfInBounds_toArray, List.set_cons_zero, List.set_cons_succ]
          refine takeH 1 18 (v := ?vs1_2) rfl (by rfl) (by kernel_rfl) (by kernel_rfl) (by kernel_rfl) (fun _ _ _ h => h) (Or.inl ⟨by rfl, ?_⟩) (hx0) ?_
          rotate_left
          · intro wq hSq
            go_simp
            exact rfl
          try simp only [Act.put, List.setIfInBounds_toArray, List.set_cons_zero, List.set_cons_succ]
          refine takeH 2 19 (v := ?vs2_3) rfl (by rfl) (by kernel_rfl) (by kernel_rfl) (by kernel_rfl) (fun _ _ _ h => h) (Or.inl ⟨by rfl, ?_⟩) (hx0) ?_
          rotate_left
          · intro wq hSq
            go_simp
            exact rfl
          try simp only [Act.put, List.setIfInBounds_toArray, List.set_cons_zero, List.set_cons_succ]
          refine takeH 4 21 (v := ?vs4_4) rfl (by rfl) (by kernel_rfl) (by kernel_rfl) (by kernel_rfl) (fun _ _ _ h => h) (Or.inl ⟨by rfl, ?_⟩) (hx0) ?_
          rotate_left
          · intro wq hSq
            go_simp
            exact rfl
          try simp only [Act.put, List.setIfInBounds_toArray, List.set_cons_zero, List.set_cons_succ]
          refine takeH 5 22 (v := ?vs5_5) rfl (by rfl) (by kernel_rfl) (by kernel_rfl) (by kernel_rfl) (fun _ _ _ h => h) (Or.inl ⟨by rfl, ?_⟩) (hx0) ?_
          rotate_left
          · intro wq hSq
            go_simp
            exact rfl
          try simp only [Act.put, List.setIfInBounds_toArray, List.set_cons_zero, List.set_cons_succ]
          refine takeH 6 23 (v := ?vs6_6) rfl (by rfl) (by kernel_rfl) (by kernel_rfl) (by kernel_rfl) (fun _ _ _ h => h) (Or.inl ⟨by rfl, ?_⟩) (hx0) ?_
          rotate_left
          · intro wq hSq
            go_simp
            exact rfl
          try simp only [Act.put, List.setIfInBounds_toArray, List.set_cons_zero, List.set_cons_succ]
          refine takeH 3 20 (v := .agg V.toArray) rfl (by rfl) (by kernel_rfl) (by kernel_rfl) (by kernel_rfl) (fun _ _ _ h => h) (yieldsIf_load_mid (by rfl) _ _ rfl _ _ rfl V _ (fun wq hq => hq.1) Try.underlying30 rfl hS) (hx0) ?_
          try simp only [Act.put, List.setIfInBounds_toArray, List.set_cons_zero, List.set_cons_succ]
          refine takeH 7 24 (v := .agg U.toArray) rfl (by rfl) (by kernel_rfl) (by kernel_rfl) (by kernel_rfl) (fun _ _ _ h => h) (yieldsIf_load_mid (by rfl) _ _ rfl _ _ rfl U _ (fun wq hq => hq.2) Try.underlying30 rfl hS2) (hx0) ?_
          try simp only [Act.put, List.setIfInBounds_toArray, List.set_cons_zero, List.set_cons_succ]
          refine takeH 8 25 (v := ?vs8_7) rfl (by rfl) (by kernel_rfl) (by kernel_rfl) (by kernel_rfl) (fun _ _ _ h => h) (Or.inl ⟨by rfl, ?_⟩) (hx0) ?_
          rotate_left
          · intro wq hSq
            go_simp
            exact rfl
          try simp only [Act.put, List.setIfInBounds_toArray, List.set_cons_zero, List.set_cons_succ]
          refine wpAnyH_done (by kernel_rfl) ?_ _
          go_wp2_with fail
          go_roundw
          case rel => exact ⟨k + 1, by omega, by go_num, HT, hB0⟩
          case measure => simp [intOf]; omega

        | false =>
          have HX := Lib.hid (show false = sameF fs gs from (decide_eq_false (HNO.out (fun q => by rw [eqF_iff.2 q] at hq; cases hq))).symm)
          rw [hq] at E
          clear hq
          go_upto_region 6 with fail
          refine wp_region_held_drew (S := fun w' => w'.rangeAt b1 (o1 + k * 34) V ∧ w'.rangeAt b2 (o2 + k * 34) U) (by kernel_rfl) ⟨range_below x1 ((Below.refl _ _).drew), range_below x2 ((Below.refl _ _).drew)⟩ (fun _ => ?_)
          refine F_drew (F := fun W => wpAnyH _ _ _ _ _ _ _ _ W) ?_
          intro W0 hb0
          have hx0 := And.intro (range_below x1 hb0) (range_below x2 hb0); have hB0 := below_thru hB hb0
          clear x1 x2 hB hb0
          refine takeH 0 17 (v := ?vt0_1) rfl (by rfl) (by kernel_rfl) (by kernel_rfl) (by kernel_rfl) (fun _ _ _ h => h) (Or.inl ⟨by rfl, ?_⟩) (hx0) ?_
          rotate_left
          · intro wq hSq
            go_simp
            exact rfl
          try simp only [Act.put, List.setIfInBounds_toArray, List.set_cons_zero, List.set_cons_succ]
          refine takeH 1 18 (v := ?vt1_2) rfl (by rfl) (by kernel_rfl) (by kernel_rfl) (by kernel_rfl) (fun _ _ _ h => h) (Or.inl ⟨by rfl, ?_⟩) (hx0) ?_
          rotate_left
          · intro wq hSq
            go_simp
            exact rfl
          try simp only [Act.put, List.setIfInBounds_toArray, List.set_cons_zero, List.set_cons_succ]
          refine takeH 2 19 (v := ?vt2_3) rfl (by rfl) (by kernel_rfl) (by kernel_rfl) (by kernel_rfl) (fun _ _ _ h => h) (Or.inl ⟨by rfl, ?_⟩) (hx0) ?_
          rotate_left
          · intro wq hSq
            go_simp
            exact rfl
          try simp only [Act.put, List.setIfInBounds_toArray, List.set_cons_zero, List.set_cons_succ]
          refine takeH 4 21 (v := ?vt4_4) rfl (by rfl) (by kernel_rfl) (by kernel_rfl) (by kernel_rfl) (fun _ _ _ h => h) (Or.inl ⟨by rfl, ?_⟩) (hx0) ?_
          rotate_left
          · intro wq hSq
            go_simp
            exact rfl
          try simp only [Act.put, List.setIfInBounds_toArray, List.set_cons_zero, List.set_cons_succ]
          refine takeH 5 22 (v := ?vt5_5) rfl (by rfl) (by kernel_rfl) (by kernel_rfl) (by kernel_rfl) (fun _ _ _ h => h) (Or.inl ⟨by rfl, ?_⟩) (hx0) ?_
          rotate_left
          · intro wq hSq
            go_simp
            exact rfl
          try simp only [Act.put, List.setIfInBounds_toArray, List.set_cons_zero, List.set_cons_succ]
          refine takeH 6 23 (v := ?vt6_6) rfl (by rfl) (by kernel_rfl) (by kernel_rfl) (by kernel_rfl) (fun _ _ _ h => h) (Or.inl ⟨by rfl, ?_⟩) (hx0) ?_
          rotate_left
          · intro wq hSq
            go_simp
            exact rfl
          try simp only [Act.put, List.setIfInBounds_toArray, List.set_cons_zero, List.set_cons_succ]
          refine takeH 3 20 (v := .agg V.toArray) rfl (by rfl) (by kernel_rfl) (by kernel_rfl) (by kernel_rfl) (fun _ _ _ h => h) (yieldsIf_load_mid (by rfl) _ _ rfl _ _ rfl V _ (fun wq hq => hq.1) Try.underlying30 rfl hS) (hx0) ?_
          try simp only [Act.put, List.setIfInBounds_toArray, List.set_cons_zero, List.set_cons_succ]
          refine takeH 7 24 (v := .agg U.toArray) rfl (by rfl) (by kernel_rfl) (by kernel_rfl) (by kernel_rfl) (fun _ _ _ h => h) (yieldsIf_load_mid (by rfl) _ _ rfl _ _ rfl U _ (fun wq hq => hq.2) Try.underlying30 rfl hS2) (hx0) ?_
          try simp only [Act.put, List.setIfInBounds_toArray, List.set_cons_zero, List.set_cons_succ]
          refine takeH 8 25 (v := ?vt8_7) rfl (by rfl) (by kernel_rfl) (by kernel_rfl) (by kernel_rfl) (fun _ _ _ h => h) (Or.inl ⟨by rfl, ?_⟩) (hx0) ?_
          rotate_left
          · intro wq hSq
            go_simp
            exact rfl
          try simp only [Act.put, List.setIfInBounds_toArray, List.set_cons_zero, List.set_cons_succ]
          refine wpAnyH_done (by kernel_rfl) ?_ _
          go_wp2_with fail
          go_returns
          exact ⟨ret_b HX.out, hB0⟩

      · have HX := Lib.hid (show true = sameF fs gs by
          have e := HE.out
          rw [List.take_of_length_le (by omega), List.take_of_length_le (by have := HL.out; omega)] at e
          exact (decide_eq_true e).symm)
        go_wp2_with fail
        go_returns
        exact ⟨ret_b HX.out, hB⟩
  · have hd : ((fs.length : Int) != (gs.length : Int)) = true := by rw [bne_iff_ne]; omega
    have HX := Lib.hid (show false = sameF fs gs from (decide_eq_false (fun q => hl (by rw [q]))).symm)
    clear hl
    go_enter Try.func24, Try.ntmps24
    go_wp2_with fail
    go_returns
    exact ⟨ret_b HX.out, Below.refl _ _⟩

set_option maxRecDepth 100000 in
set_option maxHeartbeats 1600000 in
theorem rrow_is {v : Value} {fs : List Fd} (w : World) (h1 : IsR LF w v fs) : Calls Try.prog 25 #[v] w fun e w' => e = .returned (.int .i64 (rowE fs)) ∧ Below w.heap.size w w' := by
  obtain ⟨a0, c0, rfl, hr⟩ := id h1
  have i1 := hr.room
  have i2 := hr.most
  clear hr
  by_cases hl : 40 < fs.length
  · have e1 := rowE_many hl
    have d1 : decide ((40 : Int) < (fs.length : Int)) = true := decide_eq_true (by omega)
    rw [e1]
    clear e1 hl h1
    go_enter Try.func25, Try.ntmps25
    go_wp2_with fail
    go_returns
    exact ⟨rfl, Below.refl _ _⟩
  · have d1 : decide ((40 : Int) < (fs.length : Int)) = false := decide_eq_false (by omega)
    have HR := Lib.hid h1
    clear h1
    go_enter Try.func25, Try.ntmps25
    go_wp2_with fail
    go_loopw [3] (fun s3 wr => ∃ k : Nat, s3 = .int .i64 k ∧ k ≤ fs.length ∧ Hid (∀ f ∈ fs.take k, f.ok = true) ∧ Below w.heap.size w wr) (fun s3 _ => fs.length - (intOf s3).toNat)
    case atStart => exact ⟨0, rfl, by omega, Lib.hid (fun f hf => by simp at hf), Below.refl _ _⟩
    case round =>
      obtain ⟨k, rfl, hk, HE, hB⟩ := hrel
      have hs := hB.size
      by_cases hlt : k < fs.length
      case neg =>
        have hkk : fs.take k = fs := List.take_of_length_le (by omega)
        have HX := Lib.hid (show (0 : Int) = rowE fs from (rowE_ok (by omega) (by have := HE.out; rwa [hkk] at this)).symm)
        clear hkk
        go_wp2_with fail
        go_returns
        exact ⟨ret_i HX.out, hB⟩
      case pos =>
        obtain ⟨b, off, rfl, hR⟩ := HR.out.get 34 rfl (List.getElem?_eq_getElem hlt)
        have hR1 := range_below hR hB
        obtain ⟨f, hf⟩ : ∃ f, fs[k] = f := ⟨_, rfl⟩
        rw [hf] at hR1
        have hS := lenFld f
        have C := rcheck_is f
        clear hR
        have i0 : (0 : Int) ≤ (k : Int) := by omega
        have i3 : (k : Int) < (fs.length : Int) := by omega
        obtain ⟨V, hV⟩ : ∃ V, f.v = V := ⟨_, rfl⟩
        rw [hV] at hS C
        rw [show LF.f f = V from hV] at hR1
        clear hV
        rcases Fd.err_two f with ⟨q1, q2⟩ | ⟨q1, q2⟩
        · have HE2 := Lib.hid (all_take_succ hlt HE.out (by rw [hf]; exact q1))
          rw [q2] at C
          clear q1 q2 hf
          go_wp2_with (refine wpList_load_range rfl _ _ rfl hR1 rfl Try.underlying30 rfl hS ?_)
          refine (C _).mono ?_
          rintro e w2 ⟨rfl, hb⟩
          have hB2 := below_thru hB hb
          go_wp2_with fail
          go_roundw
          case rel => exact ⟨k + 1, by go_num, by omega, HE2, hB2⟩
          case measure => simp [intOf]; omega
        · have HX := Lib.hid (show (8 : Int) = rowE fs from (rowE_bad (fs := fs) (by omega) (List.getElem_mem hlt) (by rw [hf]; exact q1)).symm)
          rw [q2] at C
          clear q1 q2 hf
          go_wp2_with (refine wpList_load_range rfl _ _ rfl hR1 rfl Try.underlying30 rfl hS ?_)
          refine (C _).mono ?_
          rintro e w2 ⟨rfl, hb⟩
          have hB2 := below_thru hB hb
          go_wp2_with fail
          go_returns
          exact ⟨ret_i HX.out, hB2⟩

set_option maxRecDepth 100000 in
set_option maxHeartbeats 1600000 in
theorem rone_is (f : Fd) (w : World) : Calls Try.prog 37 #[.agg f.v.toArray] w (GivesL f.bs w) := by
  have hX : Box (w.alloc (.cells f.v.toArray 30)) w.heap.size f.v := Box.newc rfl rfl
  have hB : Below w.heap.size w (w.alloc (.cells f.v.toArray 30)) := by go_grown
  obtain ⟨ti, hin, hz0, hz1, hz2⟩ := info_parts info_u8'
  have HF := Lib.hid f.hl
  obtain ⟨V, hV⟩ : ∃ V, f.v = V := ⟨_, rfl⟩
  rw [hV] at hX hB ⊢
  obtain ⟨w1, hw1⟩ : ∃ w1, w.alloc (.cells V.toArray 30) = w1 := ⟨_, rfl⟩
  have v0 : V[0]? = some (.int .u8 f.k) := by rw [← hV]; rfl
  have v1 : V[1]? = some (.int .u64 f.n) := by rw [← hV]; rfl
  have c0 := hX.c 0 _ v0
  have hz := hX.lt
  rw [hw1] at c0 hB hz hX
  by_cases h6 : f.k = 6
  · have hbs : f.bs = f.d := if_pos h6
    have hD := Lib.hid (IsL.range 32 32 f.hl (hX.rangeFrom 2 (f.d.map (Value.int .u8)) (by rw [← hV]; rfl)) (by omega) (by omega))
    rw [h6] at c0
    rw [hbs]
    clear hX hV hbs h6 v0 v1
    go_enter Try.func37, Try.ntmps37
    go_wp2_with (at_builtin; refine wpList_append_built rfl _ _ 33 rfl 5 ti (.int .u8 0) 1 .u8 Try.underlying33 hin hz0 hz1 hz2 rfl [] f.d _ (.slice (some ⟨w.heap.size, 2, none⟩) 32 32) _ _ _ rfl rfl rfl rfl rfl rfl hD.out (by unfold maxLen; simp [HF.out]) (by simp [HF.out]) ?_; intro v1 w2 ho hb)
    go_returns
    exact ⟨_, rfl, IsL.own ho rfl, below_thru hB hb⟩
  · have hbs : f.bs = be (wid f.k) f.n := if_neg h6
    have hk6 : (f.k == 6) = false := by simpa using h6
    have W := wide_is f.k
    have hw8 : wid f.k ≤ 8 := by
      have : f.k = 6 ∨ wid f.k ≤ 8 := by unfold wid; (repeat' split) <;> simp_all
      omega
    have RB := fun W => rbytes_is f.n (wid f.k) W f.hn.1 f.hn.2 hw8
    rw [hbs]
    obtain ⟨L, hL⟩ : ∃ L, be (wid f.k) f.n = L := ⟨_, rfl⟩
    rw [hL] at RB ⊢
    obtain ⟨m, hm⟩ : ∃ m, wid f.k = m := ⟨_, rfl⟩
    rw [hm] at RB W
    obtain ⟨k, hk⟩ : ∃ k, f.k = k := ⟨_, rfl⟩
    obtain ⟨n, hn⟩ : ∃ n, f.n = n := ⟨_, rfl⟩
    rw [hk] at v0 c0 W hk6
    rw [hn] at v1 RB
    clear hV hbs h6 hL hm hw8 hk hn
    go_enter Try.func37, Try.ntmps37
    go_upto_region 3 with fail
    refine wp_region_held_drew (S := fun w' => Box w' w.heap.size V) (by kernel_rfl) (Box.drew hX) (fun _ => ?_)
    refine F_drew (F := fun W => wpAnyH _ _ _ _ _ _ _ _ W) ?_
    intro W0 hb0
    have hx0 := Box.below hX hb0; have hB0 := below_thru hB hb0
    clear hX hB hb0 c0 hz hw1
    refine takeH 0 10 (v := ?vo0_1) rfl (by rfl) (by kernel_rfl) (by kernel_rfl) (by kernel_rfl) (fun _ _ _ h => h) (Or.inl ⟨by rfl, ?_⟩) (hx0) ?_
    rotate_left
    · intro wq hSq
      go_simp
      exact rfl
    try simp only [Act.put, List.setIfInBounds_toArray, List.set_cons_zero, List.set_cons_succ]
    refine takeH 1 11 (v := ?vo1_2) rfl (by rfl) (by kernel_rfl) (by kernel_rfl) (by kernel_rfl) (fun _ _ _ h => h) (Or.inl ⟨by rfl, ?_⟩) (hx0) ?_
    rotate_left
    · intro wq hSq
      have cq := hSq.c 1 _ v1
      have zq := hSq.lt
      go_simp
      exact rfl
    try simp only [Act.put, List.setIfInBounds_toArray, List.set_cons_zero, List.set_cons_succ]
    refine takeH 2 12 (v := ?vo2_3) rfl (by rfl) (by kernel_rfl) (by kernel_rfl) (by kernel_rfl) (fun _ _ _ h => h) (Or.inl ⟨by rfl, ?_⟩) (hx0) ?_
    rotate_left
    · intro wq hSq
      go_simp
      exact rfl
    try simp only [Act.put, List.setIfInBounds_toArray, List.set_cons_zero, List.set_cons_succ]
    refine takeH 3 13 (v := ?vo3_4) rfl (by rfl) (by kernel_rfl) (by kernel_rfl) (by kernel_rfl) (fun _ _ _ h => h) (Or.inl ⟨by rfl, ?_⟩) (hx0) ?_
    rotate_left
    · intro wq hSq
      have cq := hSq.c 0 _ v0
      have zq := hSq.lt
      go_simp
      exact rfl
    try simp only [Act.put, List.setIfInBounds_toArray, List.set_cons_zero, List.set_cons_succ]
    refine wpAnyH_ready (rs := [4]) (by kernel_rfl) (by simp) (AllReadyH.cons rfl (fun K hK => ?_) AllReadyH.nil)
    go_simp
    refine (W _).mono ?_
    rintro e W5 ⟨rfl, rfl⟩
    refine hK.out _ _ hx0 (fun _ => ?_); clear hK K
    refine wpAnyH_ready (rs := [5]) (by kernel_rfl) (by simp) (AllReadyH.cons rfl (fun K hK => ?_) AllReadyH.nil)
    go_simp
    refine (RB _).mono ?_
    rintro e W6 ⟨vb, rfl, hLb, hb6⟩
    have hx6 := Box.below hx0 hb6; have hB6 := below_thru hB0 hb6
    refine hK.out _ _ hx6 (fun _ => ?_); clear hK K
    refine takeH 6 2 (v := ?vo6_7) rfl (by rfl) (by kernel_rfl) (by kernel_rfl) (by kernel_rfl) (fun _ _ _ h => h) (Or.inl ⟨by rfl, ?_⟩) (hx6) ?_
    rotate_left
    · intro wq hSq
      go_simp
      exact rfl
    try simp only [Act.put, List.setIfInBounds_toArray, List.set_cons_zero, List.set_cons_succ]
    refine wpAnyH_done (by kernel_rfl) ?_ _
    go_wp2_with fail
    go_returns
    exact ⟨_, rfl, hLb, hB6⟩


set_option maxRecDepth 100000 in
set_option maxHeartbeats 1600000 in
theorem rkinds_is {v : Value} {fs : List Fd} (w : World) (h1 : IsR LF w v fs) (hl : fs.length ≤ 100) : Calls Try.prog 26 #[v] w (GivesL (fs.map Fd.k) w) := by
  obtain ⟨a0, c0, rfl, hr⟩ := id h1
  have i1 := hr.room
  have i2 := hr.most
  obtain ⟨ti, hin, hz0, hz1, hz2⟩ := info_parts info_u8'
  have HR := Lib.hid h1
  clear h1 hr
  go_enter Try.func26, Try.ntmps26
  go_wp2_with fail
  go_loopw [3, 4] (fun s3 s4 wr => ∃ k : Nat, s4 = .int .i64 k ∧ k ≤ fs.length ∧ Hid (wr.ownsRow w.heap.size 5 1 s3 k (((fs.take k).map Fd.k).map (Value.int .u8))) ∧ Below w.heap.size w wr) (fun _ s4 _ => fs.length - (intOf s4).toNat)
  case atStart => exact ⟨0, rfl, by omega, Lib.hid (by simpa using ownU_nil), by go_grown⟩
  case round =>
    obtain ⟨k, rfl, hk, HO, hB⟩ := hrel
    have hs := hB.size
    by_cases hlt : k < fs.length
    case neg =>
      have hkk : fs.take k = fs := List.take_of_length_le (by omega)
      have HX := Lib.hid hkk
      clear hkk
      go_wp2_with fail
      go_returns
      refine ⟨_, rfl, ?_, hB⟩
      have := IsL.own HO.out (by rw [List.length_map, List.length_take]; omega)
      rwa [HX.out] at this
    case pos =>
      obtain ⟨b, off, rfl, hR⟩ := HR.out.get 34 rfl (List.getElem?_eq_getElem hlt)
      have hR1 := range_below hR hB
      obtain ⟨f, hf⟩ : ∃ f, fs[k] = f := ⟨_, rfl⟩
      rw [hf] at hR1
      have cc : wr.cell? ⟨b, off + k * 34, none⟩ = some (.int .u8 f.k) := hR1 0 (.int .u8 f.k) rfl
      have HT := Lib.hid (show (fs.take (k + 1)).map Fd.k = (fs.take k).map Fd.k ++ [f.k] by rw [List.take_succ_eq_append_getElem hlt, hf]; simp)
      obtain ⟨x, hx⟩ : ∃ x, f.k = x := ⟨_, rfl⟩
      rw [hx] at cc HT
      have i0 : (0 : Int) ≤ (k : Int) := by omega
      have i3 : (k : Int) < (fs.length : Int) := by omega
      have hO2 := ownR_below HO.out ((Below.refl wr.heap.size wr).alloc (Nat.le_refl _) (.cells #[.int .u8 x] 5))
      have HO2 := Lib.hid hO2
      clear hR hR1 hx hf hO2 HO
      go_wp2_with (at_builtin; refine wpList_append_ints rfl _ _ 33 rfl w.heap.size 5 ti (.int .u8 0) 1 .u8 Try.underlying33 hin hz0 hz1 hz2 rfl _ k _ rfl HO2.out _ 1 [x] rfl ((IsL.built [x] rfl rfl rfl rfl (by simp)).ints) (fun h => by cases h) (by unfold maxLen; simp; omega) (by simp; omega) (by simp; omega) ?_; intro v4 w4 hown4 hgrow4)
      have hB4 : Below w.heap.size w w4 := (hB.alloc hs _).grown hgrow4 (by simp; omega) (own_block HO2.out)
      have HO4 := Lib.hid (show w4.ownsRow w.heap.size 5 1 v4 (k + 1) (((fs.take (k + 1)).map Fd.k).map (Value.int .u8)) by rw [HT.out, List.map_append]; exact hown4)
      clear hown4 hgrow4 HO2
      go_wp2_with fail
      go_roundw
      case rel => exact ⟨k + 1, by go_num, by omega, HO4, hB4⟩
      case measure => simp [intOf]; omega

end Go.Proofs.Ytpjonhfphfkdiaa
