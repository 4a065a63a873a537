/-
  FieldWrites, walked.
-/
import Derived.Test.YtpjonhfphfkdiaaRFldE
namespace Go.Proofs.Ytpjonhfphfkdiaa
open Go.RowKit

theorem sameb_b {v1 v2 : Value} {xs ys : List Int} (w : World) (h1 : IsL w .u8 v1 xs) (h2 : IsL w .u8 v2 ys) : Calls Try.prog 16 #[v1, v2] w fun e w' => e = .returned (.bool (sameB xs ys)) ∧ Below w.heap.size w w' := by
  obtain ⟨a1, c1, rfl, i1, _⟩ := h1
  obtain ⟨a2, c2, rfl, i2, _⟩ := h2
  refine (sameb_any a1 a2 c1 c2 xs ys w i1 i2).mono fun e w' ⟨he, n, hw⟩ => ⟨he, ?_⟩
  rw [hw]; exact below_drewN (Below.refl _ _) n

set_option maxRecDepth 100000 in
set_option maxHeartbeats 3200000 in
theorem writes_is {v : Value} {fs : List Fd} (k : Int) (w : World) (h1 : IsR LF w v fs) : Calls Try.prog 4 #[.int .u8 k, v] w fun e w' => e = .returned (.bool true) ∧ Below w.heap.size w w' := by
  obtain ⟨a0, c0, rfl, hr⟩ := id h1
  have i1 := hr.room
  have i2 := hr.most
  clear hr
  by_cases hl : 60 < fs.length
  · have d1 : decide ((60 : Int) < (fs.length : Int)) = true := decide_eq_true (by omega)
    clear hl h1
    go_enter Try.func4, Try.ntmps4
    go_wp2_with fail
    go_returns
    exact ⟨rfl, Below.refl _ _⟩
  have d1 : decide ((60 : Int) < (fs.length : Int)) = false := decide_eq_false (by omega)
  have HR := Lib.hid h1
  clear h1
  go_enter Try.func4, Try.ntmps4
  go_wp2_with fail
  go_loopw [5] (fun s5 wr => ∃ j : Nat, s5 = .int .i64 j ∧ j ≤ fs.length ∧ Below w.heap.size w wr) (fun s5 _ => fs.length - (intOf s5).toNat)
  case atStart => exact ⟨0, rfl, by omega, Below.refl _ _⟩
  case round =>
    obtain ⟨j, rfl, hj, hB⟩ := hrel
    by_cases hlt : j < fs.length
    case pos =>
      obtain ⟨b, off, rfl, hR⟩ := HR.out.get 34 rfl (List.getElem?_eq_getElem hlt)
      have hR1 := range_below hR hB
      obtain ⟨f, hf⟩ : ∃ f, fs[j] = f := ⟨_, rfl⟩
      rw [hf] at hR1
      have hS := lenFld f
      have C := check_is f
      have R := rcheck_is f
      have i0 : (0 : Int) ≤ (j : Int) := by omega
      have i3 : (j : Int) < (fs.length : Int) := by omega
      clear hR hf
      obtain ⟨V, hV⟩ : ∃ V, f.v = V := ⟨_, rfl⟩
      obtain ⟨r, hr⟩ : ∃ r, f.err = r := ⟨_, rfl⟩
      rw [hV] at hS C R
      rw [hr] at C R
      rw [show LF.f f = V from hV] at hR1
      have hq := bne_self_eq_false r
      clear hV hr
      go_upto_region 6 with fail
      refine wp_region_held_drew (S := fun w' => w'.rangeAt b (off + j * 34) V) (by kernel_rfl) (range_below hR1 ((Below.refl _ _).drew)) (fun _ => ?_)
      refine F_drew (F := fun W => wpAnyH _ _ _ _ _ _ _ _ W) ?_
      intro W0 hb0
      have hx0 := range_below hR1 hb0; have hB0 := below_thru hB hb0
      clear hR1 hB hb0
      refine takeH 0 27 (v := ?vw0_1) rfl (by rfl) (by kernel_rfl) (by kernel_rfl) (by kernel_rfl) (fun _ _ _ h => h) (Or.inl ⟨by rfl, ?_⟩) (hx0) ?_
      rotate_left
      · intro wq hSq
        go_simp
        exact rfl
      try simp only [Act.put, List.setIfInBounds_toArray, List.set_cons_zero, List.set_cons_succ]
      refine takeH 1 28 (v := ?vw1_2) rfl (by rfl) (by kernel_rfl) (by kernel_rfl) (by kernel_rfl) (fun _ _ _ h => h) (Or.inl ⟨by rfl, ?_⟩) (hx0) ?_
      rotate_left
      · intro wq hSq
        go_simp
        exact rfl
      try simp only [Act.put, List.setIfInBounds_toArray, List.set_cons_zero, List.set_cons_succ]
      refine takeH 2 29 (v := ?vw2_3) rfl (by rfl) (by kernel_rfl) (by kernel_rfl) (by kernel_rfl) (fun _ _ _ h => h) (Or.inl ⟨by rfl, ?_⟩) (hx0) ?_
      rotate_left
      · intro wq hSq
        go_simp
        exact rfl
      try simp only [Act.put, List.setIfInBounds_toArray, List.set_cons_zero, List.set_cons_succ]
      refine takeH 5 32 (v := ?vw5_4) rfl (by rfl) (by kernel_rfl) (by kernel_rfl) (by kernel_rfl) (fun _ _ _ h => h) (Or.inl ⟨by rfl, ?_⟩) (hx0) ?_
      rotate_left
      · intro wq hSq
        go_simp
        exact rfl
      try simp only [Act.put, List.setIfInBounds_toArray, List.set_cons_zero, List.set_cons_succ]
      refine takeH 6 33 (v := ?vw6_5) rfl (by rfl) (by kernel_rfl) (by kernel_rfl) (by kernel_rfl) (fun _ _ _ h => h) (Or.inl ⟨by rfl, ?_⟩) (hx0) ?_
      rotate_left
      · intro wq hSq
        go_simp
        exact rfl
      try simp only [Act.put, List.setIfInBounds_toArray, List.set_cons_zero, List.set_cons_succ]
      refine takeH 7 34 (v := ?vw7_6) rfl (by rfl) (by kernel_rfl) (by kernel_rfl) (by kernel_rfl) (fun _ _ _ h => h) (Or.inl ⟨by rfl, ?_⟩) (hx0) ?_
      rotate_left
      · intro wq hSq
        go_simp
        exact rfl
      try simp only [Act.put, List.setIfInBounds_toArray, List.set_cons_zero, List.set_cons_succ]
      refine takeH 3 30 (v := .agg V.toArray) rfl (by rfl) (by kernel_rfl) (by kernel_rfl) (by kernel_rfl) (fun _ _ _ h => h) (yieldsIf_load_mid (by rfl) _ _ rfl _ _ rfl V _ (fun wq hq => hq) Try.underlying30 rfl hS) (hx0) ?_
      try simp only [Act.put, List.setIfInBounds_toArray, List.set_cons_zero, List.set_cons_succ]
      refine takeH 8 35 (v := .agg V.toArray) rfl (by rfl) (by kernel_rfl) (by kernel_rfl) (by kernel_rfl) (fun _ _ _ h => h) (yieldsIf_load_mid (by rfl) _ _ rfl _ _ rfl V _ (fun wq hq => hq) Try.underlying30 rfl hS) (hx0) ?_
      try simp only [Act.put, List.setIfInBounds_toArray, List.set_cons_zero, List.set_cons_succ]
      refine wpAnyH_ready (rs := [4]) (by kernel_rfl) (by simp) (AllReadyH.cons rfl (fun K hK => ?_) AllReadyH.nil)
      go_simp
      refine (C _).mono ?_
      rintro e W7 ⟨rfl, hb7⟩
      have hx7 := range_below hx0 hb7; have hB7 := below_thru hB0 hb7
      refine hK.out _ _ hx7 (fun _ => ?_); clear hK K
      refine wpAnyH_ready (rs := [9]) (by kernel_rfl) (by simp) (AllReadyH.cons rfl (fun K hK => ?_) AllReadyH.nil)
      go_simp
      refine (R _).mono ?_
      rintro e W8 ⟨rfl, hb8⟩
      have hx8 := range_below hx7 hb8; have hB8 := below_thru hB7 hb8
      refine hK.out _ _ hx8 (fun _ => ?_); clear hK K
      refine takeH 10 37 (v := ?vw10_9) rfl (by rfl) (by kernel_rfl) (by kernel_rfl) (by kernel_rfl) (fun _ _ _ h => h) (Or.inl ⟨by rfl, ?_⟩) (hx8) ?_
      rotate_left
      · intro wq hSq
        go_simp
        exact rfl
      try simp only [Act.put, List.setIfInBounds_toArray, List.set_cons_zero, List.set_cons_succ]
      refine wpAnyH_done (by kernel_rfl) ?_ _
      go_wp2_with fail
      go_roundw
      case rel => exact ⟨j + 1, by go_num, by omega, hB8⟩
      case measure => simp [intOf]; omega

    case neg =>
      obtain ⟨n, hn⟩ : ∃ n : Int, ((wid k : Nat) : Int) = n := ⟨_, rfl⟩
      obtain ⟨c, hc⟩ : ∃ c, widE k = c := ⟨_, rfl⟩
      have A1 := width_is k
      have A2 := rwidth_is k
      rw [hn, hc] at A1 A2
      have B1 := fun W (h : IsR LF W (.slice a0 fs.length c0) fs) => size_is W h
      have B2 := fun W (h : IsR LF W (.slice a0 fs.length c0) fs) => rsize_is W h
      have C1 := fun W (h : IsR LF W (.slice a0 fs.length c0) fs) => write_is W h
      have C2 := fun W (h : IsR LF W (.slice a0 fs.length c0) fs) => rwrite_is W h
      obtain ⟨bs, hbs⟩ : ∃ bs, rowV fs = bs := ⟨_, rfl⟩
      obtain ⟨r, hr⟩ : ∃ r, rowE fs = r := ⟨_, rfl⟩
      rw [hbs, hr] at B1 B2 C1 C2
      obtain ⟨m, hm⟩ : ∃ m : Int, ((bs.length : Nat) : Int) = m := ⟨_, rfl⟩
      rw [hm] at B1 B2
      clear hn hc hbs hr hm
      have HL := Lib.hid (HR.out.below hB)
      go_wp2_with fail
      refine (A1 _).mono ?_
      rintro e w1 ⟨rfl, rfl⟩
      go_wp2_with fail
      refine (A2 _).mono ?_
      rintro e w2 ⟨rfl, rfl⟩
      go_wp2_with fail
      refine (B1 _ HL.out).mono ?_
      rintro e w3 ⟨rfl, hb3⟩
      go_wp2_with fail
      refine (B2 _ (HL.out.below hb3)).mono ?_
      rintro e w4 ⟨rfl, hb4⟩
      have hg4 := below_thru hb3 hb4
      go_wp2_with fail
      refine (C1 _ (HL.out.below hg4)).mono ?_
      rintro e w5 ⟨v5, rfl, hl5, hb5⟩
      have hg5 := below_thru hg4 hb5
      go_wp2_with fail
      refine (C2 _ (HL.out.below hg5)).mono ?_
      rintro e w6 ⟨v6, rfl, hl6, hb6⟩
      have hg6 := below_thru hg5 hb6
      have hB6 := below_thru hB hg6
      have hl56 := hl5.below hb6
      clear A1 A2 B1 B2 C1 C2
      go_wp2_with fail
      refine (sameb_tt _ hl56 hl6).mono ?_
      rintro e w7 ⟨rfl, hb7⟩
      go_wp2_with fail
      go_returns
      exact ⟨rfl, below_thru hB6 hb7⟩

end Go.Proofs.Ytpjonhfphfkdiaa
