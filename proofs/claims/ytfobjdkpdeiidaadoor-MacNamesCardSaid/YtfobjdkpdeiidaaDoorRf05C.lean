/-
  The reference of layer 5: digests, all whole blocks, paddings.
-/
import Derived.Test.YtfobjdkpdeiidaaDoorRf05B
import Derived.Test.YtfobjdkpdeiidaaDoorBlk05
namespace Go.Proofs.YtfobjdkpdeiidaaDoor
open Go.RowKit

set_option maxRecDepth 100000 in
set_option maxHeartbeats 1600000 in
theorem rdigest_any (h : W8) (w : World) : Calls Tryd.prog 35 #[.agg (hv h).toArray] w fun e w' => e = .returned (dv (dig h)) ∧ Below w.heap.size w w' := by
  obtain ⟨V, hV⟩ : ∃ V, V = hv h := ⟨_, rfl⟩
  have hVg : ∀ i, i < 8 → V[i]? = some (.int .u32 (un (h.l.getD i 0))) := by rw [hV]; exact hv_get h
  rw [← hV]
  have HG := Lib.hid hVg
  clear hVg hV
  go_enter Tryd.func35, Tryd.ntmps35
  go_upto_region 1 with fail
  go_cut [1, 2, 3] (fun p q r wx => p = .pointer (some ⟨w.heap.size, 0, none⟩) ∧ q = .pointer (some ⟨w.heap.size + 1, 0, none⟩) ∧ r = .pointer (some ⟨w.heap.size + 2, 0, none⟩) ∧ Box wx w.heap.size V ∧ Box wx (w.heap.size + 1) ((List.replicate 32 (0 : Int)).map (Value.int .u8)) ∧ Box wx (w.heap.size + 2) ((digS h 0).map (Value.int .u8)) ∧ Below w.heap.size w wx)
  case first =>
    go_wp2_with fail
    go_meet
    refine ⟨rfl, rfl, rfl, Box.alloc (Box.alloc (Box.newc (by simp) rfl) _) _, Box.alloc (Box.newc rfl (by simp)) _, Box.newc (by rw [digS_zero]; rfl) (by simp), ?_⟩
    go_grown
  case rest =>
    obtain ⟨rfl, rfl, rfl, hV, hR, hX, hB⟩ := hcut
    obtain ⟨w1, rfl⟩ : ∃ u : World, u = wc := ⟨_, rfl⟩
    go_wp2_with fail
    go_loopw [4] (fun i wr => ∃ k : Nat, k ≤ 32 ∧ i = .int .i64 k ∧ Box wr w.heap.size V ∧ Box wr (w.heap.size + 1) ((List.replicate 32 (0 : Int)).map (Value.int .u8)) ∧ Box wr (w.heap.size + 2) ((digS h k).map (Value.int .u8)) ∧ Below w.heap.size w wr) (fun i _ => 32 - (intOf i).toNat)
    case atStart => exact ⟨0, by omega, rfl, hV, hR, hX, hB⟩
    case round =>
      clear hV hR hX hB
      obtain ⟨k, hk, rfl, hV, hR, hX, hB⟩ := hrel
      have z1 := hX.lt
      by_cases hlt : k < 32
      · have c0 := hV.c (k / 4) _ (HG.out (k / 4) (by omega))
        have c1 := hX.c k _ (nth_get k (by rw [digS_len]; omega))
        have f1 := hX.f k _ (nth_get k (by rw [digS_len]; omega))
        obtain ⟨s, hs⟩ : ∃ s : Nat, s = 24 - k % 4 * 8 := ⟨_, rfl⟩
        have e1 : (24 : Int) - 8 * ((k : Int) % 4) = (s : Int) := by omega
        have s1 : s ≤ 24 := by omega
        have E : un (h.l.getD (k / 4) 0) / 2 ^ s % 256 = digB h k := by rw [hs]; rfl
        have S := Lib.hid (digS_succ h k hlt)
        clear hs
        generalize h.l.getD (k / 4) 0 = v at *
        generalize digB h k = D at *
        go_wp2_with fail
        go_roundw
        case rel =>
          refine ⟨k + 1, by omega, by go_num, hV.other (by show w.heap.size + 2 ≠ w.heap.size; omega) _, hR.other (by show w.heap.size + 2 ≠ w.heap.size + 1; omega) _, ?_, hB.setCell (show w.heap.size ≤ w.heap.size + 2 by omega) _⟩
          rw [← S.out, List.map_set]
          exact hX.set k _
        case measure => simp [intOf]; omega
      · obtain rfl : k = 32 := by omega
        obtain ⟨R, hRe⟩ : ∃ R, R = (digS h 32).map (Value.int .u8) := ⟨_, rfl⟩
        have hRl : R.length = 32 := by rw [hRe, List.length_map, digS_len]
        have hRo : R.toArray.all (·.oneCell') = true := by rw [hRe]; exact oneCell_ints _
        have HRE := Lib.hid (show (Value.agg R.toArray) = dv (dig h) by rw [hRe, digS_all]; rfl)
        rw [← hRe] at hX
        clear hRe hlt hk
        have I32 := Lib.hid (show (Tryd.prog.info? 31).map (·.size) = some R.length by rw [hRl]; exact size32)
        have HLL := Lib.hid (show ((List.replicate 32 (0 : Int)).map (Value.int .u8)).length = R.length by rw [hRl]; rfl)
        have HRO := Lib.hid hRo
        clear hRl hRo
        go_upto_region 6 with fail
        go_wp2_with (first | (refine wpList_load_box rfl _ _ rfl hX rfl Tryd.underlying31 rfl I32.out ?_) | (refine wpList_store_box rfl _ _ _ rfl hR rfl rfl I32.out HLL.out HRO.out ?_; intro W3 hW3))
        exact bodyPost_ret (v := .agg R.toArray) (results_box Tryd.results35 hW3.box rfl Tryd.underlying31 rfl I32.out) rfl ⟨by rw [HRE.out], hW3.below _ _ (by omega) hB⟩


theorem rtaken_is {h T : W8} {v : Value} {xs : List Int} (w : World) (hT : Hid (taken h xs = T)) (hi : IsL w .u8 v xs) (hl : Hid (xs.length = 64)) (hx : Hid (bytesL xs)) :
    Calls Tryd.prog 45 #[.agg (hv h).toArray, v] w fun e w' => e = .returned (.agg (hv T).toArray) ∧ Below w.heap.size w w' := by
  obtain ⟨at0, cap, rfl, hi, h0⟩ := hi
  rw [← hT.out]
  exact rtaken_any h at0 cap xs w hi hl.out (by have := hx.out; unfold bytesL at this; rw [hl.out] at this; exact this)
set_option maxRecDepth 100000 in
set_option maxHeartbeats 3200000 in
theorem rafter_any {T0 T : W8} {a0 : Option Addr} {c0 : Nat} {xs : List Int} (w : World) (q0 : xs.length ≤ 1000000) (hT : Hid (after T0 xs = T)) (i0 : Hid (IsL w .u8 (.slice a0 xs.length c0) xs)) (b0 : Hid (bytesL xs)) :
    Calls Tryd.prog 36 #[.agg (hv T0).toArray, .slice a0 xs.length c0] w fun e w' => e = .returned (.agg (hv T).toArray) ∧ Below w.heap.size w w' := by
  obtain ⟨V, hV⟩ : ∃ V, V = hv T0 := ⟨_, rfl⟩
  rw [← hV]
  have HV := Lib.hid hV
  have m0 := i0.out.room
  have m1 := m0.2.1
  have m2 := m0.2.2
  clear hV m0
  go_enter Tryd.func36, Tryd.ntmps36
  go_wp2_with fail
  go_loopw [5] (fun i wr => ∃ k : Nat, 64 * k ≤ xs.length ∧ i = .int .i64 ((64 * k : Nat) : Int) ∧ Box wr w.heap.size (hv (aft k T0 xs)) ∧ Box wr (w.heap.size + 1) (List.replicate 8 (.int .u32 0)) ∧ Below w.heap.size w wr) (fun i _ => xs.length - (intOf i).toNat)
  case atStart => exact ⟨0, Nat.zero_le _, rfl, Box.alloc (Box.newc (by rw [HV.out]; rfl) rfl) _, Box.newc rfl (by simp), by go_grown⟩
  case round =>
    obtain ⟨k, hk, rfl, hxw, hxr, hB⟩ := hrel
    obtain ⟨m, hm⟩ : ∃ m, m = 64 * k := ⟨_, rfl⟩
    rw [← hm]
    have hsz := hB.size
    have hz0 := hxw.lt
    by_cases hlt : m + 64 ≤ xs.length
    · obtain ⟨ba, oa, rfl, _⟩ := i0.out.get 0 (by omega)
      have hsub0 : IsL wr .u8 (.slice (some ⟨ba, oa + m, none⟩) 64 (c0 - m)) ((xs.drop m).take 64) := (IsL.off (IsL.below i0.out hB) m (by omega)).sub 64 (by omega)
      obtain ⟨Tk, hTk⟩ : ∃ Tk, aft k T0 xs = Tk := ⟨_, rfl⟩
      rw [hTk] at hxw
      obtain ⟨B, hB'⟩ : ∃ B, (xs.drop m).take 64 = B := ⟨_, rfl⟩
      obtain ⟨Tn, hTn⟩ : ∃ Tn, taken Tk B = Tn := ⟨_, rfl⟩
      have HTn := Lib.hid hTn
      have HTs := Lib.hid (show aft (k + 1) T0 xs = Tn by rw [aft_succ, hTk, ← hm, hB', hTn])
      have hl64 := Lib.hid (show B.length = 64 by rw [← hB', List.length_take, List.length_drop]; omega)
      have hb64 := Lib.hid (show bytesL B by rw [← hB']; exact (b0.out.drop m).take 64)
      rw [hB'] at hsub0
      have hsub := Lib.hid hsub0
      have ne : ¬ c0 = m := by omega
      have MM := Lib.hid hm
      have z64 : IntKind.i64.wrap ((m : Int) + 64) = (m : Int) + 64 := IntWalk.i64_in _ (by omega)
      have d64 : decide ((m : Int) + 64 ≤ (xs.length : Int)) = true := decide_eq_true (by omega)
      clear hsub0 hTn hTk hB' hm
      go_upto_region 4 with fail
      refine wp_region_any (by kernel_rfl) ?_
      try (change wpAny _ _ _ _ _ _ _ (World.drew _))
      refine wpAny_take (i := 1) (v := .slice (some ⟨ba, oa, none⟩) xs.length c0) rfl (by kernel_rfl) (by kernel_rfl) (by kernel_rfl) (fun _ _ _ h => h) (Or.inl ⟨by rfl, ?_⟩) ?_
      · intro w; go_simp
      refine wpAny_take (i := 2) (v := .int .i64 (m : Int)) rfl (by kernel_rfl) (by kernel_rfl) (by kernel_rfl) (fun _ _ _ h => h) (Or.inl ⟨by rfl, ?_⟩) ?_
      · intro w; go_simp
      refine wpAny_take (i := 3) (v := .int .i64 (m : Int)) rfl (by kernel_rfl) (by kernel_rfl) (by kernel_rfl) (fun _ _ _ h => h) (Or.inl ⟨by rfl, ?_⟩) ?_
      · intro w; go_simp
      refine wpAny_take (i := 4) (v := .int .i64 ((m : Int) + 64)) rfl (by kernel_rfl) (by kernel_rfl) (by kernel_rfl) (fun _ _ _ h => h) (Or.inl ⟨by rfl, ?_⟩) ?_
      · intro w; go_simp
      refine wpAny_take (i := 5) (v := .slice (some ⟨ba, oa + m, none⟩) 64 (c0 - m)) rfl (by kernel_rfl) (by kernel_rfl) (by kernel_rfl) (fun _ _ _ h => h) (Or.inl ⟨by rfl, ?_⟩) ?_
      · intro w; go_simp
        rw [if_pos (show 0 ≤ (m : Int) + 64 ∧ (m : Int) + 64 ≤ (c0 : Int) by omega), if_pos (show m ≤ ((m : Int) + 64).toNat by omega), show ((m : Int) + 64).toNat - m = 64 by omega]
      refine wpAny_ready (rs := [0]) (by kernel_rfl) (by simp) (AllReady.cons rfl (fun K hK => ?_) AllReady.nil)
      refine step_load_box rfl _ _ rfl hxw.drew rfl Tryd.underlying59 rfl size8 ?_
      refine hK _ _ ?_; clear hK K
      refine wpAny_ready (rs := [6]) (by kernel_rfl) (by simp) (AllReady.cons rfl (fun K hK => ?_) AllReady.nil)
      go_simp
      refine (rtaken_is _ HTn hsub.out.drew hl64 hb64).mono ?_
      rintro e w1 ⟨rfl, hb⟩
      refine hK _ _ ?_; clear hK K
      have hB1 : Below w.heap.size w w1 := below_thru hB.drew hb
      have hT2 : Box w1 w.heap.size (hv Tk) := hxw.drew.below hb
      have hO2 : Box w1 (w.heap.size + 1) (List.replicate 8 (.int .u32 0)) := hxr.drew.below hb
      clear hb
      refine wpAny_ready (rs := [7]) (by kernel_rfl) (by simp) (AllReady.cons rfl (fun K hK => ?_) AllReady.nil)
      refine step_store_box (cs := hv Tn) rfl _ _ _ rfl hT2 rfl rfl size8 rfl (hv_one _) ?_
      intro W hW
      refine hK _ _ ?_; clear hK K
      refine wpAny_done (by kernel_rfl) ?_ _
      go_wp2_with fail
      go_roundw
      case rel => exact ⟨k + 1, by have := MM.out; omega, by rw [show 64 * (k + 1) = m + 64 by have := MM.out; omega]; go_num, by rw [HTs.out]; exact hW.box, hW.past _ _ (by omega) hO2, hW.below _ _ (Nat.le_refl _) hB1⟩
      case measure => simp [intOf]; omega
    · have hkx : xs.length / 64 = k := by omega
      have hTk : aft k T0 xs = T := by rw [← hT.out]; unfold after; rw [hkx]
      rw [hTk] at hxw
      have z64 : IntKind.i64.wrap ((m : Int) + 64) = (m : Int) + 64 := IntWalk.i64_in _ (by omega)
      have d64 : decide ((m : Int) + 64 ≤ (xs.length : Int)) = false := decide_eq_false (by omega)
      clear hkx hTk hm hlt
      go_wp2_with (first | (refine wpList_load_box rfl _ _ rfl hxw rfl Tryd.underlying59 rfl size8 ?_) | (refine wpList_store_box (cs := hv T) rfl _ _ _ rfl hxr rfl rfl size8 rfl (hv_one _) ?_; intro W hW))
      exact bodyPost_ret (v := .agg (hv T).toArray) (results_box Tryd.results36 hW.box rfl Tryd.underlying59 rfl size8) rfl ⟨rfl, hW.below _ _ (Nat.le_succ _) hB⟩

/-- A padding as it grows: its zeros, its last bytes. -/
def padG (n z k : Nat) : List Int := 128 :: (List.replicate z 0 ++ (List.range k).map (padB n))
theorem padG_len (n z k : Nat) : (padG n z k).length = 1 + z + k := by simp [padG]; omega
theorem padG_zero (n z : Nat) : padG n (z + 1) 0 = padG n z 0 ++ [0] := by simp [padG, List.replicate_succ']
theorem padG_succ (n z k : Nat) : padG n z (k + 1) = padG n z k ++ [padB n k] := by simp [padG, List.range_succ]
theorem padG_all (n : Nat) : padG n (63 - (n + 8) % 64) 8 = padL n := rfl
set_option maxRecDepth 100000 in
set_option maxHeartbeats 3200000 in
theorem rpadding_any (n : Nat) (w : World) (hn : n ≤ 128000) :
    Calls Tryd.prog 38 #[.int .i64 (n : Int)] w fun e w' => ∃ v, e = .returned v ∧ IsL w' .u8 v (padL n) ∧ Below w.heap.size w w' := by
  obtain ⟨z, hz⟩ : ∃ z : Nat, z = 63 - (n + 8) % 64 := ⟨_, rfl⟩
  obtain ⟨ti, hin, hz0, hz1, hz2⟩ := info8
  have hz2' : z ≤ 63 := by omega
  have HZ := Lib.hid hz
  have own1 := owns_built (w := w) (base := w.heap.size) (e := 5) [.int .u8 128] (Nat.le_refl _) (by unfold maxLen; simp)
  clear hz
  go_enter Tryd.func38, Tryd.ntmps38
  go_wp2_with fail
  go_loopw [3] (fun v wr => ∃ k : Nat, k ≤ z ∧ wr.ownsRow w.heap.size 5 1 v (padG n k 0).length ((padG n k 0).map (Value.int .u8)) ∧ Below w.heap.size w wr) (fun v _ => 64 - lenOf v)
  case atStart => exact ⟨0, by omega, own1, by go_grown⟩
  case round =>
    clear own1
    obtain ⟨k, hk, hown, hB⟩ := hrel
    obtain ⟨g, cp, hcp, rfl, hcell⟩ := own_form (1 + k) (padG_len n k 0) hown (by omega)
    clear hcell
    have LK := padG_len n k 0
    have hsz := hB.size
    by_cases hlt : k < z
    · have e1 : ((n : Int) + (1 + (k : Int)) + 8) % 64 = 64 - ((z - k : Nat) : Int) := by have := HZ.out; omega
      have e2 : ((64 - ((z - k : Nat) : Int)) != 0) = true := by rw [bne_iff_ne]; omega
      have S := Lib.hid (padG_zero n k)
      go_wp2_with (at_builtin; refine wpList_append_onto rfl _ _ 23 rfl w.heap.size 5 ti (.int .u8 0) 1 .u8 Tryd.underlying23 hin hz0 hz1 hz2 rfl _ (padG n k 0) [0] _ rfl rfl (World.ownsRow.alloc hown _) (IsL.built [0] rfl rfl rfl rfl (by simp)) (by unfold maxLen; simp <;> omega) (by simp <;> omega) (by simp; omega) ?_; intro va wa howa hba)
      go_roundw
      case rel => exact ⟨k + 1, by omega, by rw [S.out]; exact howa, (hB.alloc hsz _).trans hba⟩
      case measure =>
        obtain ⟨g', cp', _, rfl, _⟩ := own_form (1 + k + 1) (by rw [List.length_append, LK]; rfl) howa (by omega)
        simp [lenOf]; omega
    · obtain rfl : k = z := by omega
      have e1 : ((n : Int) + (1 + (k : Int)) + 8) % 64 = 0 := by have := HZ.out; omega
      clear hlt hk LK hsz
      go_wp2_with fail
      clear e1
      go_loopw [3, 4] (fun v i wr => ∃ j : Nat, j ≤ 8 ∧ i = .int .i64 (7 - (j : Int)) ∧ wr.ownsRow w.heap.size 5 1 v (padG n k j).length ((padG n k j).map (Value.int .u8)) ∧ Below w.heap.size w wr) (fun _ i _ => (intOf i + 1).toNat)
      case atStart => exact ⟨0, by omega, rfl, hown, hB⟩
      case round =>
        clear hown hB
        obtain ⟨j, hj, rfl, hown, hB⟩ := hrel
        obtain ⟨g2, cp2, hcp2, rfl, hcell⟩ := own_form (1 + k + j) (padG_len n k j) hown (by omega)
        clear hcell
        have LK := padG_len n k j
        have hsz := hB.size
        by_cases hlt : j < 8
        · obtain ⟨s, hs⟩ : ∃ s : Nat, s = 8 * (7 - j) := ⟨_, rfl⟩
          have e1 : (8 : Int) * (7 - (j : Int)) = (s : Int) := by omega
          have s1 : s ≤ 56 := by omega
          have E : 8 * (n : Int) / 2 ^ s % 256 = padB n j := by
            rw [hs]
            unfold padB
            simp
          have d0 : decide ((0 : Int) ≤ 7 - (j : Int)) = true := decide_eq_true (by omega)
          have S := Lib.hid (padG_succ n k j)
          clear hs
          generalize padB n j = P at *
          go_wp2_with (at_builtin; refine wpList_append_onto rfl _ _ 23 rfl w.heap.size 5 ti (.int .u8 0) 1 .u8 Tryd.underlying23 hin hz0 hz1 hz2 rfl _ (padG n k j) [P] _ rfl rfl (World.ownsRow.alloc hown _) (IsL.built [P] rfl rfl rfl rfl (by simp)) (by unfold maxLen; simp <;> omega) (by simp <;> omega) (by simp; omega) ?_; intro va wa howa hba)
          go_roundw
          case rel => exact ⟨j + 1, by omega, congrArg (Value.int .i64) (by omega), by rw [S.out]; exact howa, (hB.alloc hsz _).trans hba⟩
          case measure => simp [intOf]; omega
        · obtain rfl : j = 8 := by omega
          have d0 : decide ((0 : Int) ≤ 7 - ((8 : Nat) : Int)) = false := decide_eq_false (by omega)
          go_wp2_with fail
          go_ret
          have hpl : padG n k 8 = padL n := by rw [← padG_all, ← HZ.out]
          rw [hpl] at hown
          exact ⟨_, rfl, IsL.own hown rfl, hB⟩

end Go.Proofs.YtfobjdkpdeiidaaDoor
