/-
  ShaOn, walked: it returns true.
-/
import Derived.Test.YtlddlkapabmoeaaDoorBlk05
namespace Go.Proofs.YtlddlkapabmoeaaDoor
open Go.RowKit

/-- A slice cut at its low end, nil or not. -/
theorem IsL.low {w : World} {k : IntKind} {a : Option Addr} {n c : Nat} {xs : List Int} (h : IsL w k (.slice a n c) xs) (m : Nat) (hm : m ≤ n) :
    IsL w k (.slice (if c = m then a else a.map (·.add m)) (n - m) (c - m)) (xs.drop m) := by
  obtain ⟨a', c', e, hi, h0⟩ := h
  injection e with e1 e2 e3
  subst e1 e2 e3
  have hr := hi.room
  have hx := hi.most
  refine ⟨_, c - m, by rw [List.length_drop], ⟨by rw [List.length_drop]; omega, by omega, fun hp => ?_⟩, fun q => ?_⟩
  · rw [List.length_drop] at hp
    obtain ⟨b, off, rfl, hc⟩ := hi.cells (by omega)
    rw [if_neg (by omega)]
    refine ⟨b, off + m, by simp [Go.WideShapes.add_plain], fun i hj => ?_⟩
    rw [List.length_drop] at hj
    rw [nth_drop, show off + m + i = off + (m + i) by omega]
    exact hc (m + i) (by omega)
  · split at q
    · omega
    · have := h0 (by simpa using q)
      omega
theorem IsL.high {w : World} {k : IntKind} {a : Option Addr} {n c : Nat} {xs : List Int} (h : IsL w k (.slice a n c) xs) (m : Nat) (hm : m ≤ n) : IsL w k (.slice a m c) (xs.take m) := by
  obtain ⟨a', c', e, hi, h0⟩ := h
  injection e with e1 e2 e3
  subst e1 e2 e3
  have hl : (xs.take m).length = m := by rw [List.length_take]; omega
  exact ⟨a, c, by rw [hl], hi.take m hm, h0⟩
theorem after_whole (h : W8) (xs : List Int) : after h (xs.take (xs.length / 64 * 64)) = after h xs := by
  unfold after
  rw [List.length_take, Nat.min_eq_left (by omega), Nat.mul_div_cancel _ (by omega), show xs.length / 64 * 64 = 64 * (xs.length / 64) by omega, ← aft_take]
theorem rest_whole (xs : List Int) : restOf (xs.take (xs.length / 64 * 64)) = [] := List.eq_nil_of_length_eq_zero (by rw [restOf_len, List.length_take]; omega)
theorem after_few (h : W8) (xs : List Int) (hl : xs.length < 64) : after h xs = h := by
  unfold after
  rw [show xs.length / 64 = 0 by omega]
  rfl
theorem rest_few (xs : List Int) (hl : xs.length < 64) : restOf xs = xs := by
  unfold restOf
  rw [show xs.length / 64 * 64 = 0 by omega]
  rfl
theorem build_hash (T : W8) (n : Int) (w : World) : (Instr.build 36 #[(0, .agg (hv T).toArray), (2, .int .i64 n)]).run Tryd.prog w = .ok (.agg (hashV T (.slice none 0 0) n).toArray) w := by kernel_rfl
theorem wpList_build_hash {ops : Array Oper} {rest : List Oper} {o : Oper} {a : Act} {w : World} {Q : Exit → Act → World → Prop} (hgd : o.guard = none) (x y : Operand) (ho : o.op = .build 36 #[(0, x), (2, y)]) (T : W8) (n : Int)
    (hx : a.eval x = .agg (hv T).toArray) (hy : a.eval y = .int .i64 n)
    (h : wpList Tryd.prog ops Q rest (a.put o.dst (.agg (hashV T (.slice none 0 0) n).toArray)) w) : wpList Tryd.prog ops Q (o :: rest) a w :=
  wpList_plain hgd fun kb hK => by
    have hb := build_hash T n w
    have hK2 := hK _ _ h
    generalize hashV T (.slice none 0 0) n = L at *
    unfold Oper.wp execOp
    simp only [ho, List.map_toArray, List.map, hx, hy, Sem.run_bind, hb, Result.andThen_ok, Sem.run_pure]
    exact hK2
set_option maxRecDepth 100000 in
set_option maxHeartbeats 1600000 in
theorem on5_long {T : W8} {n : Int} {a0 : Option Addr} {c0 : Nat} {xs : List Int} (w : World) (q0 : n < 0 ∨ 1000 < n ∨ 1000 < xs.length) (m0 : xs.length ≤ 9223372036854775807) (hL : Hid (LaidS w)) :
    Calls Tryd.prog 8 #[.agg (hv T).toArray, .int .i64 n, .slice a0 xs.length c0] w fun e w' => e = .returned (.bool true) ∧ Below w.heap.size w w' := by
  rcases Int.lt_or_le n 0 with z0 | z0
  · clear q0
    go_enter Tryd.func8, Tryd.ntmps8
    go_wp2_with fail
    refine (alive_tt _ (Lib.hid (hL.out.below (by go_grown)))).mono ?_
    rintro e w1 ⟨rfl, hb⟩
    have hB1 : Below w.heap.size w w1 := below_thru (by go_grown) hb
    go_wp2_with fail
    go_returns
    exact ⟨rfl, hB1⟩
  · rcases Int.lt_or_le 1000 n with z1 | z1
    · clear q0
      go_enter Tryd.func8, Tryd.ntmps8
      go_wp2_with fail
      refine (alive_tt _ (Lib.hid (hL.out.below (by go_grown)))).mono ?_
      rintro e w1 ⟨rfl, hb⟩
      have hB1 : Below w.heap.size w w1 := below_thru (by go_grown) hb
      go_wp2_with fail
      go_returns
      exact ⟨rfl, hB1⟩
    · have z2 : 1000 < xs.length := by omega
      clear q0
      go_enter Tryd.func8, Tryd.ntmps8
      go_wp2_with fail
      refine (alive_tt _ (Lib.hid (hL.out.below (by go_grown)))).mono ?_
      rintro e w1 ⟨rfl, hb⟩
      have hB1 : Below w.heap.size w w1 := below_thru (by go_grown) hb
      go_wp2_with fail
      go_returns
      exact ⟨rfl, hB1⟩

set_option maxRecDepth 100000 in
set_option maxHeartbeats 6400000 in
theorem on5_main {T0 : W8} {kb : Nat} {a0 : Option Addr} {c0 : Nat} {xs : List Int} (w : World) (k0 : kb ≤ 1000) (q0 : xs.length ≤ 1000) (i0 : Hid (IsL w .u8 (.slice a0 xs.length c0) xs)) (b0 : Hid (bytesL xs)) (hL : Hid (LaidS w)) :
    Calls Tryd.prog 8 #[.agg (hv T0).toArray, .int .i64 (kb : Int), .slice a0 xs.length c0] w fun e w' => e = .returned (.bool true) ∧ Below w.heap.size w w' := by
  obtain ⟨T, hT⟩ : ∃ T, T = after T0 xs := ⟨_, rfl⟩
  obtain ⟨rs, hr⟩ : ∃ rs, rs = restOf xs := ⟨_, rfl⟩
  obtain ⟨nn, hn⟩ : ∃ nn, nn = xs.length / 64 * 64 := ⟨_, rfl⟩
  obtain ⟨N2, hN⟩ : ∃ N, N = 64 * kb + xs.length := ⟨_, rfl⟩
  obtain ⟨D, hD⟩ : ∃ D, dig (after T (rs ++ padL N2)) = D := ⟨_, rfl⟩
  have hrl : rs.length = xs.length % 64 := by rw [hr, restOf_len]
  have hr2 : rs = xs.drop nn := by rw [hr, hn]; rfl
  have hDl : D.length = 32 := by rw [← hD, dig_len]
  have e10 : (xs.length : Int) / 64 * 64 = (nn : Int) := by omega
  have hnn : nn ≤ xs.length := by omega
  have HT := Lib.hid hT
  have HR := Lib.hid hr
  have HR2 := Lib.hid hr2
  have HN := Lib.hid hn
  have HN2 := Lib.hid hN
  have HD := Lib.hid hD
  have HRL := Lib.hid hrl
  have HDL := Lib.hid hDl
  have E10 := Lib.hid e10
  have I32 := Lib.hid (show (Tryd.prog.info? 24).map (·.size) = some (D.map (Value.int .u8)).length by rw [List.length_map, hDl]; exact size32)
  have HLL := Lib.hid (show zero32.length = (D.map (Value.int .u8)).length by rw [List.length_map, hDl]; rfl)
  have m0 := i0.out.room
  have m1 := m0.2.1
  have m2 := m0.2.2
  have V0 := Lib.hid (show vldH (64 * (kb : Int)) ([] : List Int).length = true by simp only [vldH, cntB, Bool.and_eq_true, decide_eq_true_eq]; simp; omega)
  have V2 := Lib.hid (vldN (n := N2) (by omega) (show rs.length = N2 % 64 by omega))
  have V1 := Lib.hid (show vldH (64 * (kb : Int) + (nn : Int)) ([] : List Int).length = true by simp only [vldH, cntB, Bool.and_eq_true, decide_eq_true_eq]; simp; omega)
  obtain ⟨Y, hY⟩ : ∃ Y, Y = xs.take nn := ⟨_, rfl⟩
  have hYl : Y.length = nn := by rw [hY, List.length_take, Nat.min_eq_left hnn]
  have HY := Lib.hid hY
  have HYB := Lib.hid (show bytesL Y by rw [hY]; exact b0.out.take nn)
  have YT := Lib.hid (show after T0 ([] ++ Y) = T by rw [List.nil_append, hY, hn, after_whole, hT])
  have YR := Lib.hid (show restOf ([] ++ Y) = [] by rw [List.nil_append, hY, hn, rest_whole])
  have YM := Lib.hid (show 64 * (kb : Int) + (Y.length : Int) = 64 * (kb : Int) + (nn : Int) by rw [hYl])
  have YL := Lib.hid (show 64 * (kb : Int) + (Y.length : Int) ≤ 128000 by rw [hYl]; omega)
  have XT := Lib.hid (show after T0 ([] ++ xs) = T by rw [List.nil_append, hT])
  have XR := Lib.hid (show restOf ([] ++ xs) = rs by rw [List.nil_append, hr])
  have XM := Lib.hid (show 64 * (kb : Int) + (xs.length : Int) = (N2 : Int) by omega)
  have hrs : rs.length < 64 := by omega
  have RT := Lib.hid (show after T ([] ++ rs) = T by rw [List.nil_append, after_few _ _ hrs])
  have RR := Lib.hid (show restOf ([] ++ rs) = rs by rw [List.nil_append, rest_few _ hrs])
  have RM := Lib.hid (show 64 * (kb : Int) + (nn : Int) + (rs.length : Int) = (N2 : Int) by omega)
  have RB := Lib.hid (show bytesL rs by rw [hr2]; exact b0.out.drop nn)
  obtain ⟨AL, hAL⟩ : ∃ AL, (if c0 = nn then a0 else a0.map (·.add nn)) = AL := ⟨_, rfl⟩
  have SL := Lib.hid (show IsL w .u8 (.slice AL (xs.length - nn) (c0 - nn)) rs by rw [hr2, ← hAL]; exact i0.out.low nn hnn)
  have SH := Lib.hid (show IsL w .u8 (.slice a0 nn c0) Y by rw [hY]; exact i0.out.high nn hnn)
  have HAL := Lib.hid hAL
  have qN := Lib.hid (show ((N2 : Int) != 64 * (kb : Int) + (xs.length : Int)) = false by rw [show (N2 : Int) = 64 * (kb : Int) + (xs.length : Int) by omega]; exact bne_self_eq_false _)
  have hEd := Lib.hid (eq_dig D hDl)
  clear hT hr hn hN hD hrl hr2 hDl e10 m0 hY hYl hAL hrs
  obtain ⟨V, hV⟩ : ∃ V, V = hv T0 := ⟨_, rfl⟩
  rw [← hV]
  have HV := Lib.hid hV
  clear hV
  go_enter Tryd.func8, Tryd.ntmps8
  go_upto_region 3 with fail
  have hx0 : Box (w.alloc (.cells V.toArray 32)) w.heap.size (hv T0) := Box.newc (by rw [HV.out]) rfl
  have hB0 : Below w.heap.size w (w.alloc (.cells V.toArray 32)) := (Below.refl _ _).alloc (Nat.le_refl _) _
  obtain ⟨W1, hW1⟩ : ∃ W, w.alloc (.cells V.toArray 32) = W := ⟨_, rfl⟩
  rw [hW1] at hx0 hB0 ⊢
  clear hW1
  have hs1 := hB0.size
  have hz1 := hx0.lt
  go_upto_region 4 with (first | (refine wpList_build_hash rfl _ _ rfl T0 (64 * (kb : Int)) rfl rfl ?_) | (refine wpList_load_box rfl _ _ rfl hx0 rfl Tryd.underlying32 rfl size8 ?_) | (refine wpList_store_box (cs := hashV T0 (.slice none 0 0) (64 * (kb : Int))) rfl _ _ _ rfl (Box.newc (l := zero10) rfl rfl) rfl rfl size10 rfl (hash_one _ _ _ _ _) ?_; intro W2 hW2))
  have hB2 : Below w.heap.size w W2 := hW2.below _ _ hs1 (hB0.alloc hs1 _)
  have hxh2 := hW2.box
  have hx2 : Box W2 w.heap.size (hv T0) := hW2.past _ _ (by omega) (hx0.alloc _)
  have hs2 := hB2.size
  have hz2 := hxh2.lt
  clear hW2 hB0 hx0
  -- same, e := Write(h, nil)
  go_wp2_with (refine wpList_load_box rfl _ _ rfl hxh2 rfl Tryd.underlying36 rfl size10 ?_)
  refine (write_is (T := T0) (rs := []) (ys := []) (zs := []) (m := 64 * (kb : Int)) _ ⟨none, 0, rfl, IsL.none⟩ IsL.none V0 (by simp; omega) (Lib.hid rfl) (Lib.hid rfl) (Lib.hid (by simp)) (Lib.hid bytesL.nil) (Lib.hid bytesL.nil) (hL.out.below hB2)).mono ?_
  rintro e w3 ⟨s1, d1, rfl, ho⟩
  have hB3 : Below w.heap.size w w3 := below_thru hB2 ho.2
  have hxh3 := hxh2.below ho.2
  have hx3 := hx2.below ho.2
  have J1 := Lib.hid ho.is
  have hs3 := hB3.size
  have hz3 := hxh3.lt
  clear ho hB2 hxh2 hx2
  go_upto_region 5 with (refine wpList_store_box (cs := hashV T0 (.slice s1 0 d1) (64 * (kb : Int))) rfl _ _ _ rfl (Box.newc (l := zero10) rfl rfl) rfl rfl size10 rfl (hash_one _ _ _ _ _) ?_; intro W4 hW4)
  have hB4 : Below w.heap.size w W4 := hW4.below _ _ hs3 (hB3.alloc hs3 _)
  have hN4 : Below w3.heap.size w3 W4 := hW4.below _ _ (Nat.le_refl _) ((Below.refl _ w3).alloc (Nat.le_refl _) _)
  have hxs4 := hW4.box
  have hxh4 := hxh3.below hN4
  have hx4 := hx3.below hN4
  have J4 := Lib.hid (IsL.below J1.out hN4)
  clear hW4 hN4 hB3 hxh3 hx3 J1
  go_wp2_with (first | (refine wpList_load_boxw rfl _ _ rfl hxs4 rfl Tryd.underlying36 rfl size10 ?_) | (refine wpList_load_boxw rfl _ _ rfl hxh4 rfl Tryd.underlying36 rfl size10 ?_))
  refine (same_tt _ ⟨s1, d1, rfl, J4.out⟩ ⟨none, 0, rfl, IsL.none⟩).mono ?_
  rintro e w5 ⟨rfl, hb⟩
  have hB5 : Below w.heap.size w w5 := below_thru hB4 hb
  have hxh5 := hxh4.below hb
  have hx5 := hx4.below hb
  clear hb hB4 hxh4 hx4 hxs4 J4
  have e10 := E10.out
  go_upto_region 9 with fail
  clear e10
  go_loopw [11] (fun i wr => ∃ k : Nat, 64 * k ≤ nn ∧ i = .int .i64 ((64 * k : Nat) : Int) ∧ Box wr w.heap.size (hv (aft k T0 xs)) ∧ Box wr W1.heap.size (hashV T0 (.slice none 0 0) (64 * (kb : Int))) ∧ Below w.heap.size w wr) (fun i _ => nn - (intOf i).toNat)
  case atStart => exact ⟨0, Nat.zero_le _, rfl, hx5, hxh5, hB5⟩
  case round =>
    clear hx5 hxh5 hB5
    obtain ⟨k, hk, rfl, hxw, hxh, hB⟩ := hrel
    obtain ⟨m, hm⟩ : ∃ m, m = 64 * k := ⟨_, rfl⟩
    rw [← hm]
    have hsz := hB.size
    have hz0 := hxw.lt
    have hz5 := hxh.lt
    by_cases hlt : m < nn
    · have hmA : m + 64 ≤ xs.length := by have := HN.out; omega
      have hm64 : m + 64 ≤ nn := by have := HN.out; omega
      obtain ⟨ba, oa, rfl, _⟩ := i0.out.get 0 (by omega)
      have hsub0 : IsL wr .u8 (.slice (some ⟨ba, oa + m, none⟩) 64 (c0 - m)) ((xs.drop m).take 64) := (IsL.off (IsL.below i0.out hB) m (by omega)).sub 64 (by omega)
      obtain ⟨Tk, hTk⟩ : ∃ Tk, aft k T0 xs = Tk := ⟨_, rfl⟩
      rw [hTk] at hxw
      obtain ⟨B, hB'⟩ : ∃ B, (xs.drop m).take 64 = B := ⟨_, rfl⟩
      obtain ⟨Tn, hTn⟩ : ∃ Tn, taken Tk B = Tn := ⟨_, rfl⟩
      have HTn := Lib.hid hTn
      have HTs := Lib.hid (show aft (k + 1) T0 xs = Tn by rw [aft_succ, hTk, ← hm, hB', hTn])
      have hl64 := Lib.hid (show B.length = 64 by rw [← hB', List.length_take, List.length_drop]; omega)
      have hb64 := Lib.hid (show bytesL B by rw [← hB']; exact (b0.out.drop m).take 64)
      rw [hB'] at hsub0
      have hsub := Lib.hid hsub0
      have HL := Lib.hid (hL.out.below hB)
      have ne : ¬ c0 = m := by omega
      have MM := Lib.hid hm
      clear hsub0 hTn hTk hB' hm
      go_upto_region 11 with fail
      refine wp_region_held_drew (S := fun w' => Box w' (w.heap.size) (hv Tk)) (by kernel_rfl) (Box.drew hxw) (fun _ => ?_)
      refine F_drew (F := fun W => wpAnyH _ _ _ _ _ _ _ _ W) ?_
      intro W0 hb0
      have sz1 := Below.size hb0
      have hx_2 : Box W0 (w.heap.size) (hv Tk) := Box.below hxw hb0
      have sub_3 := Lib.hid (IsL.below (Hid.out hsub) hb0)
      have laid_4 := Lib.hid (LaidS.below (Hid.out HL) hb0)
      have B_5 : Below w.heap.size w W0 := below_thru hB hb0
      have hh_6 : Box W0 (W1.heap.size) (hashV T0 (.slice none 0 0) (64 * (kb : Int))) := Box.below hxh hb0
      clear hxw hsub HL hB hb0 hxh
      refine takeH 0 64 (v := .agg (hv Tk).toArray) rfl (by rfl) (by kernel_rfl) (by kernel_rfl) (by kernel_rfl) (fun _ _ _ h => h) (yieldsIf_load_mid (by rfl) _ _ rfl _ 0 rfl (hv Tk) _ (fun wq hq => Box.range hq) Tryd.underlying32 rfl size8) (hx_2) ?_
      try simp only [Act.put, List.setIfInBounds_toArray, List.set_cons_zero, List.set_cons_succ]
      refine takeH 1 65 (v := .slice (some ⟨ba, oa, none⟩) xs.length c0) rfl (by rfl) (by kernel_rfl) (by kernel_rfl) (by kernel_rfl) (fun _ _ _ h => h) (Or.inl ⟨by rfl, ?_⟩) (hx_2) ?_
      · intro wq hSq
        go_simp
      try simp only [Act.put, List.setIfInBounds_toArray, List.set_cons_zero, List.set_cons_succ]
      refine takeH 2 66 (v := .int .i64 (m : Int)) rfl (by rfl) (by kernel_rfl) (by kernel_rfl) (by kernel_rfl) (fun _ _ _ h => h) (Or.inl ⟨by rfl, ?_⟩) (hx_2) ?_
      · intro wq hSq
        go_simp
      try simp only [Act.put, List.setIfInBounds_toArray, List.set_cons_zero, List.set_cons_succ]
      refine takeH 3 67 (v := .int .i64 (m : Int)) rfl (by rfl) (by kernel_rfl) (by kernel_rfl) (by kernel_rfl) (fun _ _ _ h => h) (Or.inl ⟨by rfl, ?_⟩) (hx_2) ?_
      · intro wq hSq
        go_simp
      try simp only [Act.put, List.setIfInBounds_toArray, List.set_cons_zero, List.set_cons_succ]
      refine takeH 4 68 (v := .int .i64 ((m : Int) + 64)) rfl (by rfl) (by kernel_rfl) (by kernel_rfl) (by kernel_rfl) (fun _ _ _ h => h) (Or.inl ⟨by rfl, ?_⟩) (hx_2) ?_
      · intro wq hSq
        go_simp
        exact IntWalk.i64_in _ (by omega)
      try simp only [Act.put, List.setIfInBounds_toArray, List.set_cons_zero, List.set_cons_succ]
      refine takeH 5 69 (v := .slice (some ⟨ba, oa + m, none⟩) 64 (c0 - m)) rfl (by rfl) (by kernel_rfl) (by kernel_rfl) (by kernel_rfl) (fun _ _ _ h => h) (Or.inl ⟨by rfl, ?_⟩) (hx_2) ?_
      · intro wq hSq
        go_simp
        rw [if_pos (show 0 ≤ (m : Int) + 64 ∧ (m : Int) + 64 ≤ (c0 : Int) by omega), if_pos (show m ≤ ((m : Int) + 64).toNat by omega), show ((m : Int) + 64).toNat - m = 64 by omega]
      try simp only [Act.put, List.setIfInBounds_toArray, List.set_cons_zero, List.set_cons_succ]
      refine wpAnyH_ready (rs := [6, 10]) (by kernel_rfl) (by simp) (AllReadyH.cons rfl (fun K hK => ?_) (AllReadyH.cons rfl (fun K hK => ?_) AllReadyH.nil))
      · skip
        go_simp
        refine (bBlock_is _ HTn sub_3 hl64 hb64 laid_4).mono ?_
        rintro e W7 ⟨rfl, hb7⟩
        have sz8 := Below.size hb7
        have hx_9 : Box W7 (w.heap.size) (hv Tk) := Box.below hx_2 hb7
        have sub_10 := Lib.hid (IsL.below (Hid.out sub_3) hb7)
        have laid_11 := Lib.hid (LaidS.below (Hid.out laid_4) hb7)
        have B_12 : Below w.heap.size w W7 := below_thru B_5 hb7
        have hh_13 : Box W7 (W1.heap.size) (hashV T0 (.slice none 0 0) (64 * (kb : Int))) := Box.below hh_6 hb7
        refine hK.out _ _ (hx_9) (fun _ => ?_); clear hK K
        refine takeH 7 63 (v := .tuple #[.agg (hv Tn).toArray, .int .i64 0]) rfl (by rfl) (by kernel_rfl) (by kernel_rfl) (by kernel_rfl) (fun _ _ _ h => h) (Or.inl ⟨by rfl, ?_⟩) (hx_9) ?_
        · intro wq hSq
          go_simp
        try simp only [Act.put, List.setIfInBounds_toArray, List.set_cons_zero, List.set_cons_succ]
        refine takeH 8 71 (v := .agg (hv Tn).toArray) rfl (by rfl) (by kernel_rfl) (by kernel_rfl) (by kernel_rfl) (fun _ _ _ h => h) (Or.inl ⟨by rfl, ?_⟩) (hx_9) ?_
        · intro wq hSq
          go_simp
        try simp only [Act.put, List.setIfInBounds_toArray, List.set_cons_zero, List.set_cons_succ]
        refine takeH 9 72 (v := .int .i64 0) rfl (by rfl) (by kernel_rfl) (by kernel_rfl) (by kernel_rfl) (fun _ _ _ h => h) (Or.inl ⟨by rfl, ?_⟩) (hx_9) ?_
        · intro wq hSq
          go_simp
        try simp only [Act.put, List.setIfInBounds_toArray, List.set_cons_zero, List.set_cons_succ]
        refine wpAnyH_ready (rs := [10]) (by kernel_rfl) (by simp) (AllReadyH.cons rfl (fun K hK => ?_) AllReadyH.nil)
        go_simp
        refine hK.out _ _ (Box.alloc hx_9 _) (fun _ => ?_); clear hK K
        refine F_alloc (F := fun W => wpAnyH _ _ _ _ _ _ _ _ W) (zero8) rfl ?_
        intro W14 hx14 hb14
        have sz15 := Below.size hb14
        have hx_16 : Box W14 (w.heap.size) (hv Tk) := Box.below hx_9 hb14
        have sub_17 := Lib.hid (IsL.below (Hid.out sub_10) hb14)
        have laid_18 := Lib.hid (LaidS.below (Hid.out laid_11) hb14)
        have B_19 : Below w.heap.size w W14 := below_thru B_12 hb14
        have hh_20 : Box W14 (W1.heap.size) (hashV T0 (.slice none 0 0) (64 * (kb : Int))) := Box.below hh_13 hb14
        have lt14 := hx14.lt
        refine wpAnyH_ready (rs := [11]) (by kernel_rfl) (by simp) (AllReadyH.cons rfl (fun K hK => ?_) AllReadyH.nil)
        refine step_store_box0 (cs := hv Tn) rfl rfl _ _ _ rfl hx14 rfl rfl size8 rfl (hv_one _) ?_
        intro W21 hW21
        have hx_22 : Box W21 (w.heap.size) (hv Tk) := hW21.past _ _ (by omega) hx_16
        have B_25 : Below w.heap.size w W21 := hW21.below _ _ (by omega) B_19
        have hh_26 : Box W21 (W1.heap.size) (hashV T0 (.slice none 0 0) (64 * (kb : Int))) := hW21.past _ _ (by omega) hh_20
        have nx_27 := hW21.box
        refine hK.out _ _ (hx_22) (fun _ => ?_); clear hK K
        refine takeH 12 13 (v := .int .i64 0) rfl (by rfl) (by kernel_rfl) (by kernel_rfl) (by kernel_rfl) (fun _ _ _ h => h) (Or.inl ⟨by rfl, ?_⟩) (hx_22) ?_
        · intro wq hSq
          go_simp
        try simp only [Act.put, List.setIfInBounds_toArray, List.set_cons_zero, List.set_cons_succ]
        refine wpAnyH_done (by kernel_rfl) ?_ _
        go_wp2_with (first | (refine wpList_load_box rfl _ _ rfl nx_27 rfl Tryd.underlying32 rfl size8 ?_) | (refine wpList_store_box (cs := hv Tn) rfl _ _ _ rfl hx_22 rfl rfl size8 rfl (hv_one _) ?_; intro WZ hWZ))
        go_roundw
        case rel => exact ⟨k + 1, by have := MM.out; omega, by rw [show 64 * (k + 1) = m + 64 by have := MM.out; omega]; go_num, by rw [HTs.out]; exact hWZ.box, hWZ.past _ _ (by omega) hh_26, hWZ.below _ _ (Nat.le_refl _) B_25⟩
        case measure => simp [intOf]; omega
      · skip
        go_simp
        refine hK.out _ _ (Box.alloc hx_2 _) (fun _ => ?_); clear hK K
        refine F_alloc (F := fun W => wpAnyH _ _ _ _ _ _ _ _ W) (zero8) rfl ?_
        intro W28 hx28 hb28
        have sz29 := Below.size hb28
        have hx_30 : Box W28 (w.heap.size) (hv Tk) := Box.below hx_2 hb28
        have sub_31 := Lib.hid (IsL.below (Hid.out sub_3) hb28)
        have laid_32 := Lib.hid (LaidS.below (Hid.out laid_4) hb28)
        have B_33 : Below w.heap.size w W28 := below_thru B_5 hb28
        have hh_34 : Box W28 (W1.heap.size) (hashV T0 (.slice none 0 0) (64 * (kb : Int))) := Box.below hh_6 hb28
        have lt28 := hx28.lt
        refine wpAnyH_ready (rs := [6]) (by kernel_rfl) (by simp) (AllReadyH.cons rfl (fun K hK => ?_) AllReadyH.nil)
        go_simp
        refine (bBlock_is _ HTn sub_31 hl64 hb64 laid_32).mono ?_
        rintro e W35 ⟨rfl, hb35⟩
        have sz36 := Below.size hb35
        have hx_37 : Box W35 (w.heap.size) (hv Tk) := Box.below hx_30 hb35
        have sub_38 := Lib.hid (IsL.below (Hid.out sub_31) hb35)
        have laid_39 := Lib.hid (LaidS.below (Hid.out laid_32) hb35)
        have B_40 : Below w.heap.size w W35 := below_thru B_33 hb35
        have hh_41 : Box W35 (W1.heap.size) (hashV T0 (.slice none 0 0) (64 * (kb : Int))) := Box.below hh_34 hb35
        have nx_42 : Box W35 (W0.heap.size) (zero8) := Box.below hx28 hb35
        refine hK.out _ _ (hx_37) (fun _ => ?_); clear hK K
        refine takeH 7 63 (v := .tuple #[.agg (hv Tn).toArray, .int .i64 0]) rfl (by rfl) (by kernel_rfl) (by kernel_rfl) (by kernel_rfl) (fun _ _ _ h => h) (Or.inl ⟨by rfl, ?_⟩) (hx_37) ?_
        · intro wq hSq
          go_simp
        try simp only [Act.put, List.setIfInBounds_toArray, List.set_cons_zero, List.set_cons_succ]
        refine takeH 8 71 (v := .agg (hv Tn).toArray) rfl (by rfl) (by kernel_rfl) (by kernel_rfl) (by kernel_rfl) (fun _ _ _ h => h) (Or.inl ⟨by rfl, ?_⟩) (hx_37) ?_
        · intro wq hSq
          go_simp
        try simp only [Act.put, List.setIfInBounds_toArray, List.set_cons_zero, List.set_cons_succ]
        refine takeH 9 72 (v := .int .i64 0) rfl (by rfl) (by kernel_rfl) (by kernel_rfl) (by kernel_rfl) (fun _ _ _ h => h) (Or.inl ⟨by rfl, ?_⟩) (hx_37) ?_
        · intro wq hSq
          go_simp
        try simp only [Act.put, List.setIfInBounds_toArray, List.set_cons_zero, List.set_cons_succ]
        refine wpAnyH_ready (rs := [11]) (by kernel_rfl) (by simp) (AllReadyH.cons rfl (fun K hK => ?_) AllReadyH.nil)
        refine step_store_box0 (cs := hv Tn) rfl rfl _ _ _ rfl nx_42 rfl rfl size8 rfl (hv_one _) ?_
        intro W43 hW43
        have hx_44 : Box W43 (w.heap.size) (hv Tk) := hW43.past _ _ (by omega) hx_37
        have B_47 : Below w.heap.size w W43 := hW43.below _ _ (by omega) B_40
        have hh_48 : Box W43 (W1.heap.size) (hashV T0 (.slice none 0 0) (64 * (kb : Int))) := hW43.past _ _ (by omega) hh_41
        have nx_49 := hW43.box
        refine hK.out _ _ (hx_44) (fun _ => ?_); clear hK K
        refine takeH 12 13 (v := .int .i64 0) rfl (by rfl) (by kernel_rfl) (by kernel_rfl) (by kernel_rfl) (fun _ _ _ h => h) (Or.inl ⟨by rfl, ?_⟩) (hx_44) ?_
        · intro wq hSq
          go_simp
        try simp only [Act.put, List.setIfInBounds_toArray, List.set_cons_zero, List.set_cons_succ]
        refine wpAnyH_done (by kernel_rfl) ?_ _
        go_wp2_with (first | (refine wpList_load_box rfl _ _ rfl nx_49 rfl Tryd.underlying32 rfl size8 ?_) | (refine wpList_store_box (cs := hv Tn) rfl _ _ _ rfl hx_44 rfl rfl size8 rfl (hv_one _) ?_; intro WZ hWZ))
        go_roundw
        case rel => exact ⟨k + 1, by have := MM.out; omega, by rw [show 64 * (k + 1) = m + 64 by have := MM.out; omega]; go_num, by rw [HTs.out]; exact hWZ.box, hWZ.past _ _ (by omega) hh_48, hWZ.below _ _ (Nat.le_refl _) B_47⟩
        case measure => simp [intOf]; omega
    · have hkn : m = nn := by omega
      have hkx : xs.length / 64 = k := by have := HN.out; omega
      have hTk : aft k T0 xs = T := by rw [HT.out]; unfold after; rw [hkx]
      rw [hTk] at hxw
      clear hkx hTk hkn hm
      have hSl := Lib.hid (IsL.below SH.out hB)
      have hLd := Lib.hid (hL.out.below hB)
      go_upto_region 15 with fail
      go_cut [14, 15] (fun p q wx => ∃ (b : Nat) (s2 : Option Addr) (d2 : Nat), p = .pointer (some ⟨b, 0, none⟩) ∧ q = .int .i64 0 ∧ W1.heap.size < b ∧ Box wx b (hashV T (.slice s2 0 d2) (64 * (kb : Int) + (nn : Int))) ∧ Box wx w.heap.size (hv T) ∧ Box wx W1.heap.size (hashV T0 (.slice none 0 0) (64 * (kb : Int))) ∧ IsL wx .u8 (.slice s2 0 d2) [] ∧ Below w.heap.size w wx)
      case first =>
        refine wp_region_held_drew (S := fun w' => Box w' (W1.heap.size) (hashV T0 (.slice none 0 0) (64 * (kb : Int)))) (by kernel_rfl) (Box.drew hxh) (fun _ => ?_)
        refine F_drew (F := fun W => wpAnyH _ _ _ _ _ _ _ _ W) ?_
        intro W0 hb0
        have sz1 := Below.size hb0
        have hh_2 : Box W0 (W1.heap.size) (hashV T0 (.slice none 0 0) (64 * (kb : Int))) := Box.below hxh hb0
        have hx_3 : Box W0 (w.heap.size) (hv T) := Box.below hxw hb0
        have sub_4 := Lib.hid (IsL.below (Hid.out hSl) hb0)
        have laid_5 := Lib.hid (LaidS.below (Hid.out hLd) hb0)
        have B_6 : Below w.heap.size w W0 := below_thru hB hb0
        clear hb0 hxh hxw hSl hLd hB
        refine takeH 0 77 (v := .agg (hashV T0 (.slice none 0 0) (64 * (kb : Int))).toArray) rfl (by rfl) (by kernel_rfl) (by kernel_rfl) (by kernel_rfl) (fun _ _ _ h => h) (yieldsIf_load_mid (by rfl) _ _ rfl _ 0 rfl (hashV T0 (.slice none 0 0) (64 * (kb : Int))) _ (fun wq hq => Box.range hq) Tryd.underlying36 rfl size10) (hh_2) ?_
        try simp only [Act.put, List.setIfInBounds_toArray, List.set_cons_zero, List.set_cons_succ]
        refine takeH 1 78 (v := .slice a0 xs.length c0) rfl (by rfl) (by kernel_rfl) (by kernel_rfl) (by kernel_rfl) (fun _ _ _ h => h) (Or.inl ⟨by rfl, ?_⟩) (hh_2) ?_
        · intro wq hSq
          go_simp
        try simp only [Act.put, List.setIfInBounds_toArray, List.set_cons_zero, List.set_cons_succ]
        refine takeH 2 79 (v := .int .i64 (nn : Int)) rfl (by rfl) (by kernel_rfl) (by kernel_rfl) (by kernel_rfl) (fun _ _ _ h => h) (Or.inl ⟨by rfl, ?_⟩) (hh_2) ?_
        · intro wq hSq
          go_simp
        try simp only [Act.put, List.setIfInBounds_toArray, List.set_cons_zero, List.set_cons_succ]
        refine takeH 3 80 (v := .slice a0 nn c0) rfl (by rfl) (by kernel_rfl) (by kernel_rfl) (by kernel_rfl) (fun _ _ _ h => h) (Or.inl ⟨by rfl, ?_⟩) (hh_2) ?_
        · intro wq hSq
          go_simp
          intro hlt0
          omega
        try simp only [Act.put, List.setIfInBounds_toArray, List.set_cons_zero, List.set_cons_succ]
        refine wpAnyH_ready (rs := [4, 8]) (by kernel_rfl) (by simp) (AllReadyH.cons rfl (fun K hK => ?_) (AllReadyH.cons rfl (fun K hK => ?_) AllReadyH.nil))
        · skip
          go_simp
          refine (write_is (T := T) (rs := []) (ys := Y) (zs := []) (m := 64 * (kb : Int) + (nn : Int)) _ ⟨none, 0, rfl, IsL.none⟩ (Hid.out sub_4) V0 YL.out YT YR YM (Lib.hid bytesL.nil) HYB (Hid.out laid_5)).mono ?_
          rintro e W7 ⟨s7, d7, rfl, ho7⟩
          have hb7 := ho7.2
          have hq7 := Lib.hid ho7.is
          have rg7 := Lib.hid ho7.range
          clear ho7
          have sz8 := Below.size hb7
          have hh_9 : Box W7 (W1.heap.size) (hashV T0 (.slice none 0 0) (64 * (kb : Int))) := Box.below hh_2 hb7
          have hx_10 : Box W7 (w.heap.size) (hv T) := Box.below hx_3 hb7
          have sub_11 := Lib.hid (IsL.below (Hid.out sub_4) hb7)
          have laid_12 := Lib.hid (LaidS.below (Hid.out laid_5) hb7)
          have B_13 : Below w.heap.size w W7 := below_thru B_6 hb7
          refine hK.out _ _ (hh_9) (fun _ => ?_); clear hK K
          refine takeH 5 76 (v := .tuple #[.agg (hashV T (.slice s7 0 d7) (64 * (kb : Int) + (nn : Int))).toArray, .int .i64 0]) rfl (by rfl) (by kernel_rfl) (by kernel_rfl) (by kernel_rfl) (fun _ _ _ h => h) (Or.inl ⟨by rfl, ?_⟩) (hh_9) ?_
          · intro wq hSq
            go_simp
          try simp only [Act.put, List.setIfInBounds_toArray, List.set_cons_zero, List.set_cons_succ]
          refine takeH 6 82 (v := .agg (hashV T (.slice s7 0 d7) (64 * (kb : Int) + (nn : Int))).toArray) rfl (by rfl) (by kernel_rfl) (by kernel_rfl) (by kernel_rfl) (fun _ _ _ h => h) (Or.inl ⟨by rfl, ?_⟩) (hh_9) ?_
          · intro wq hSq
            go_simp
          try simp only [Act.put, List.setIfInBounds_toArray, List.set_cons_zero, List.set_cons_succ]
          refine takeH 7 83 (v := .int .i64 0) rfl (by rfl) (by kernel_rfl) (by kernel_rfl) (by kernel_rfl) (fun _ _ _ h => h) (Or.inl ⟨by rfl, ?_⟩) (hh_9) ?_
          · intro wq hSq
            go_simp
          try simp only [Act.put, List.setIfInBounds_toArray, List.set_cons_zero, List.set_cons_succ]
          refine wpAnyH_ready (rs := [8]) (by kernel_rfl) (by simp) (AllReadyH.cons rfl (fun K hK => ?_) AllReadyH.nil)
          go_simp
          refine hK.out _ _ (Box.alloc hh_9 _) (fun _ => ?_); clear hK K
          refine F_alloc (F := fun W => wpAnyH _ _ _ _ _ _ _ _ W) (zero10) rfl ?_
          intro W14 hx14 hb14
          have sz15 := Below.size hb14
          have hh_16 : Box W14 (W1.heap.size) (hashV T0 (.slice none 0 0) (64 * (kb : Int))) := Box.below hh_9 hb14
          have hx_17 : Box W14 (w.heap.size) (hv T) := Box.below hx_10 hb14
          have sub_18 := Lib.hid (IsL.below (Hid.out sub_11) hb14)
          have laid_19 := Lib.hid (LaidS.below (Hid.out laid_12) hb14)
          have B_20 : Below w.heap.size w W14 := below_thru B_13 hb14
          have out_21 := Lib.hid (IsL.below (Hid.out hq7) hb14)
          have lt14 := hx14.lt
          refine wpAnyH_ready (rs := [9]) (by kernel_rfl) (by simp) (AllReadyH.cons rfl (fun K hK => ?_) AllReadyH.nil)
          refine step_store_box0 (cs := hashV T (.slice s7 0 d7) (64 * (kb : Int) + (nn : Int))) rfl rfl _ _ _ rfl hx14 rfl rfl size10 rfl (hash_one _ _ _ _ _) ?_
          intro W22 hW22
          have hh_23 : Box W22 (W1.heap.size) (hashV T0 (.slice none 0 0) (64 * (kb : Int))) := hW22.past _ _ (by omega) hh_16
          have hx_24 : Box W22 (w.heap.size) (hv T) := hW22.past _ _ (by omega) hx_17
          have B_27 : Below w.heap.size w W22 := hW22.below _ _ (by omega) B_20
          have nx_30 := hW22.box
          have oo22 := Lib.hid (IsL.stored (Hid.out out_21) hW22 (fun g hg => by have r := (Hid.out rg7) g hg; omega))
          refine hK.out _ _ (hh_23) (fun _ => ?_); clear hK K
          refine takeH 10 15 (v := .int .i64 0) rfl (by rfl) (by kernel_rfl) (by kernel_rfl) (by kernel_rfl) (fun _ _ _ h => h) (Or.inl ⟨by rfl, ?_⟩) (hh_23) ?_
          · intro wq hSq
            go_simp
          try simp only [Act.put, List.setIfInBounds_toArray, List.set_cons_zero, List.set_cons_succ]
          refine wpAnyH_done (by kernel_rfl) ?_ _
          go_wp2_with fail
          go_meet
          exact ⟨_, _, _, rfl, rfl, by omega, nx_30, hx_24, hh_23, Hid.out oo22, B_27⟩
        · skip
          go_simp
          refine hK.out _ _ (Box.alloc hh_2 _) (fun _ => ?_); clear hK K
          refine F_alloc (F := fun W => wpAnyH _ _ _ _ _ _ _ _ W) (zero10) rfl ?_
          intro W31 hx31 hb31
          have sz32 := Below.size hb31
          have hh_33 : Box W31 (W1.heap.size) (hashV T0 (.slice none 0 0) (64 * (kb : Int))) := Box.below hh_2 hb31
          have hx_34 : Box W31 (w.heap.size) (hv T) := Box.below hx_3 hb31
          have sub_35 := Lib.hid (IsL.below (Hid.out sub_4) hb31)
          have laid_36 := Lib.hid (LaidS.below (Hid.out laid_5) hb31)
          have B_37 : Below w.heap.size w W31 := below_thru B_6 hb31
          have lt31 := hx31.lt
          refine wpAnyH_ready (rs := [4]) (by kernel_rfl) (by simp) (AllReadyH.cons rfl (fun K hK => ?_) AllReadyH.nil)
          go_simp
          refine (write_is (T := T) (rs := []) (ys := Y) (zs := []) (m := 64 * (kb : Int) + (nn : Int)) _ ⟨none, 0, rfl, IsL.none⟩ (Hid.out sub_35) V0 YL.out YT YR YM (Lib.hid bytesL.nil) HYB (Hid.out laid_36)).mono ?_
          rintro e W38 ⟨s38, d38, rfl, ho38⟩
          have hb38 := ho38.2
          have hq38 := Lib.hid ho38.is
          have rg38 := Lib.hid ho38.range
          clear ho38
          have sz39 := Below.size hb38
          have hh_40 : Box W38 (W1.heap.size) (hashV T0 (.slice none 0 0) (64 * (kb : Int))) := Box.below hh_33 hb38
          have hx_41 : Box W38 (w.heap.size) (hv T) := Box.below hx_34 hb38
          have sub_42 := Lib.hid (IsL.below (Hid.out sub_35) hb38)
          have laid_43 := Lib.hid (LaidS.below (Hid.out laid_36) hb38)
          have B_44 : Below w.heap.size w W38 := below_thru B_37 hb38
          have nx_45 : Box W38 (W0.heap.size) (zero10) := Box.below hx31 hb38
          refine hK.out _ _ (hh_40) (fun _ => ?_); clear hK K
          refine takeH 5 76 (v := .tuple #[.agg (hashV T (.slice s38 0 d38) (64 * (kb : Int) + (nn : Int))).toArray, .int .i64 0]) rfl (by rfl) (by kernel_rfl) (by kernel_rfl) (by kernel_rfl) (fun _ _ _ h => h) (Or.inl ⟨by rfl, ?_⟩) (hh_40) ?_
          · intro wq hSq
            go_simp
          try simp only [Act.put, List.setIfInBounds_toArray, List.set_cons_zero, List.set_cons_succ]
          refine takeH 6 82 (v := .agg (hashV T (.slice s38 0 d38) (64 * (kb : Int) + (nn : Int))).toArray) rfl (by rfl) (by kernel_rfl) (by kernel_rfl) (by kernel_rfl) (fun _ _ _ h => h) (Or.inl ⟨by rfl, ?_⟩) (hh_40) ?_
          · intro wq hSq
            go_simp
          try simp only [Act.put, List.setIfInBounds_toArray, List.set_cons_zero, List.set_cons_succ]
          refine takeH 7 83 (v := .int .i64 0) rfl (by rfl) (by kernel_rfl) (by kernel_rfl) (by kernel_rfl) (fun _ _ _ h => h) (Or.inl ⟨by rfl, ?_⟩) (hh_40) ?_
          · intro wq hSq
            go_simp
          try simp only [Act.put, List.setIfInBounds_toArray, List.set_cons_zero, List.set_cons_succ]
          refine wpAnyH_ready (rs := [9]) (by kernel_rfl) (by simp) (AllReadyH.cons rfl (fun K hK => ?_) AllReadyH.nil)
          refine step_store_box0 (cs := hashV T (.slice s38 0 d38) (64 * (kb : Int) + (nn : Int))) rfl rfl _ _ _ rfl nx_45 rfl rfl size10 rfl (hash_one _ _ _ _ _) ?_
          intro W46 hW46
          have hh_47 : Box W46 (W1.heap.size) (hashV T0 (.slice none 0 0) (64 * (kb : Int))) := hW46.past _ _ (by omega) hh_40
          have hx_48 : Box W46 (w.heap.size) (hv T) := hW46.past _ _ (by omega) hx_41
          have B_51 : Below w.heap.size w W46 := hW46.below _ _ (by omega) B_44
          have nx_52 := hW46.box
          have oo46 := Lib.hid (IsL.stored (Hid.out hq38) hW46 (fun g hg => by have r := (Hid.out rg38) g hg; omega))
          refine hK.out _ _ (hh_47) (fun _ => ?_); clear hK K
          refine takeH 10 15 (v := .int .i64 0) rfl (by rfl) (by kernel_rfl) (by kernel_rfl) (by kernel_rfl) (fun _ _ _ h => h) (Or.inl ⟨by rfl, ?_⟩) (hh_47) ?_
          · intro wq hSq
            go_simp
          try simp only [Act.put, List.setIfInBounds_toArray, List.set_cons_zero, List.set_cons_succ]
          refine wpAnyH_done (by kernel_rfl) ?_ _
          go_wp2_with fail
          go_meet
          exact ⟨_, _, _, rfl, rfl, by omega, nx_52, hx_48, hh_47, Hid.out oo46, B_51⟩
      case rest =>
        clear hxw hxh hSl hLd hB hsz hz0 hz5
        obtain ⟨bW, s2, d2, rfl, rfl, hbW, hxW, hxw, hxh, JW, hB⟩ := hcut
        obtain ⟨w6, rfl⟩ : ∃ u : World, u = wc := ⟨_, rfl⟩
        have JW := Lib.hid JW
        have hs6 := hB.size
        -- all, g := Write(h, b)
        go_wp2_with (refine wpList_load_box rfl _ _ rfl hxh rfl Tryd.underlying36 rfl size10 ?_)
        refine (write_is (T := T) (rs := []) (ys := xs) (zs := rs) (m := (N2 : Int)) _ ⟨none, 0, rfl, IsL.none⟩ (IsL.below i0.out hB) V0 (by omega) XT XR XM (Lib.hid bytesL.nil) b0 (hL.out.below hB)).mono ?_
        rintro e w7 ⟨s3, d3, rfl, ho⟩
        have hB7 : Below w.heap.size w w7 := below_thru hB ho.2
        have hxW7 := hxW.below ho.2
        have hxw7 := hxw.below ho.2
        have J7 := Lib.hid ho.is
        have JW7 := Lib.hid (IsL.below JW.out ho.2)
        have hs7 := hB7.size
        have hz7 := hxW7.lt
        have hy7 := hxw7.lt
        clear ho hB hxW hxw hxh JW
        go_upto_region 17 with (refine wpList_store_box (cs := hashV T (.slice s3 rs.length d3) (N2 : Int)) rfl _ _ _ rfl (Box.newc (l := zero10) rfl rfl) rfl rfl size10 rfl (hash_one _ _ _ _ _) ?_; intro W8 hW8)
        have hB8 : Below w.heap.size w W8 := hW8.below _ _ hs7 (hB7.alloc hs7 _)
        have hN8 : Below w7.heap.size w7 W8 := hW8.below _ _ (Nat.le_refl _) ((Below.refl _ w7).alloc (Nat.le_refl _) _)
        have hxA8 := hW8.box
        have hxW8 := hxW7.below hN8
        have hxw8 := hxw7.below hN8
        have J8 := Lib.hid (IsL.below J7.out hN8)
        have JW8 := Lib.hid (IsL.below JW7.out hN8)
        have hs8 := hB8.size
        have hz8 := hxA8.lt
        clear hW8 hN8 hB7 hxW7 hxw7 J7 JW7
        -- want
        go_upto_region 18 with (first | (refine wpList_build_hash rfl _ _ rfl T (64 * (kb : Int) + (nn : Int)) rfl rfl ?_) | (refine wpList_load_box rfl _ _ rfl hxw8 rfl Tryd.underlying32 rfl size8 ?_) | (refine wpList_store_box (cs := hashV T (.slice none 0 0) (64 * (kb : Int) + (nn : Int))) rfl _ _ _ rfl (Box.newc (l := zero10) rfl rfl) rfl rfl size10 rfl (hash_one _ _ _ _ _) ?_; intro W9 hW9))
        have hB9 : Below w.heap.size w W9 := hW9.below _ _ hs8 (hB8.alloc hs8 _)
        have hN9 : Below W8.heap.size W8 W9 := hW9.below _ _ (Nat.le_refl _) ((Below.refl _ W8).alloc (Nat.le_refl _) _)
        have hxT9 := hW9.box
        have hxA9 := hxA8.below hN9
        have hxW9 := hxW8.below hN9
        have hxw9 := hxw8.below hN9
        have J9 := Lib.hid (IsL.below J8.out hN9)
        have JW9 := Lib.hid (IsL.below JW8.out hN9)
        have SL9 := Lib.hid (IsL.below SL.out hB9)
        clear hW9 hN9 hB8 hxA8 hxW8 hxw8 J8 JW8
        refine wp_region_held_drew (S := fun w' => Box w' (bW) (hashV T (.slice s2 0 d2) (64 * (kb : Int) + (nn : Int))) ∧ Box w' (W8.heap.size) (hashV T (.slice none 0 0) (64 * (kb : Int) + (nn : Int))) ∧ Box w' (w7.heap.size) (hashV T (.slice s3 rs.length d3) (N2 : Int)) ∧ Box w' (w.heap.size) (hv T)) (by kernel_rfl) ⟨Box.drew hxW9, Box.drew hxT9, Box.drew hxA9, Box.drew hxw9⟩ (fun _ => ?_)
        refine F_drew (F := fun W => wpAnyH _ _ _ _ _ _ _ _ W) ?_
        intro W0 hb0
        have sz1 := Below.size hb0
        have xW_2 : Box W0 (bW) (hashV T (.slice s2 0 d2) (64 * (kb : Int) + (nn : Int))) := Box.below hxW9 hb0
        have xT_3 : Box W0 (W8.heap.size) (hashV T (.slice none 0 0) (64 * (kb : Int) + (nn : Int))) := Box.below hxT9 hb0
        have xA_4 : Box W0 (w7.heap.size) (hashV T (.slice s3 rs.length d3) (N2 : Int)) := Box.below hxA9 hb0
        have xw_5 : Box W0 (w.heap.size) (hv T) := Box.below hxw9 hb0
        have J_6 := Lib.hid (IsL.below (Hid.out J9) hb0)
        have JW_7 := Lib.hid (IsL.below (Hid.out JW9) hb0)
        have SL_8 := Lib.hid (IsL.below (Hid.out SL9) hb0)
        have B_9 : Below w.heap.size w W0 := below_thru hB9 hb0
        clear hb0 hxW9 hxT9 hxA9 hxw9 J9 JW9 SL9 hB9
        refine takeH 0 96 (v := .int .i64 0) rfl (by rfl) (by kernel_rfl) (by kernel_rfl) (by kernel_rfl) (fun _ _ _ h => h) (Or.inl ⟨by rfl, ?_⟩) (⟨xW_2, xT_3, xA_4, xw_5⟩) ?_
        · intro wq hSq
          go_simp
        try simp only [Act.put, List.setIfInBounds_toArray, List.set_cons_zero, List.set_cons_succ]
        refine takeH 1 97 (v := .bool false) rfl (by rfl) (by kernel_rfl) (by kernel_rfl) (by kernel_rfl) (fun _ _ _ h => h) (Or.inl ⟨by rfl, ?_⟩) (⟨xW_2, xT_3, xA_4, xw_5⟩) ?_
        · intro wq hSq
          go_simp
        try simp only [Act.put, List.setIfInBounds_toArray, List.set_cons_zero, List.set_cons_succ]
        refine takeH 2 98 (v := .bool false) rfl (by rfl) (by kernel_rfl) (by kernel_rfl) (by kernel_rfl) (fun _ _ _ h => h) (Or.inl ⟨by rfl, ?_⟩) (⟨xW_2, xT_3, xA_4, xw_5⟩) ?_
        · intro wq hSq
          go_simp
        try simp only [Act.put, List.setIfInBounds_toArray, List.set_cons_zero, List.set_cons_succ]
        refine takeH 3 99 (v := .int .i64 0) rfl (by rfl) (by kernel_rfl) (by kernel_rfl) (by kernel_rfl) (fun _ _ _ h => h) (Or.inl ⟨by rfl, ?_⟩) (⟨xW_2, xT_3, xA_4, xw_5⟩) ?_
        · intro wq hSq
          go_simp
        try simp only [Act.put, List.setIfInBounds_toArray, List.set_cons_zero, List.set_cons_succ]
        refine takeH 4 100 (v := .bool false) rfl (by rfl) (by kernel_rfl) (by kernel_rfl) (by kernel_rfl) (fun _ _ _ h => h) (Or.inl ⟨by rfl, ?_⟩) (⟨xW_2, xT_3, xA_4, xw_5⟩) ?_
        · intro wq hSq
          go_simp
        try simp only [Act.put, List.setIfInBounds_toArray, List.set_cons_zero, List.set_cons_succ]
        refine takeH 5 101 (v := .bool false) rfl (by rfl) (by kernel_rfl) (by kernel_rfl) (by kernel_rfl) (fun _ _ _ h => h) (Or.inl ⟨by rfl, ?_⟩) (⟨xW_2, xT_3, xA_4, xw_5⟩) ?_
        · intro wq hSq
          go_simp
        try simp only [Act.put, List.setIfInBounds_toArray, List.set_cons_zero, List.set_cons_succ]
        refine takeH 6 102 (v := .bool false) rfl (by rfl) (by kernel_rfl) (by kernel_rfl) (by kernel_rfl) (fun _ _ _ h => h) (Or.inl ⟨by rfl, ?_⟩) (⟨xW_2, xT_3, xA_4, xw_5⟩) ?_
        · intro wq hSq
          go_simp
        try simp only [Act.put, List.setIfInBounds_toArray, List.set_cons_zero, List.set_cons_succ]
        refine takeH 7 103 (v := .agg (hashV T (.slice s2 0 d2) (64 * (kb : Int) + (nn : Int))).toArray) rfl (by rfl) (by kernel_rfl) (by kernel_rfl) (by kernel_rfl) (fun _ _ _ h => h) (yieldsIf_load_mid (by rfl) _ _ rfl _ 0 rfl (hashV T (.slice s2 0 d2) (64 * (kb : Int) + (nn : Int))) _ (fun wq hq => Box.range hq.1) Tryd.underlying36 rfl size10) (⟨xW_2, xT_3, xA_4, xw_5⟩) ?_
        try simp only [Act.put, List.setIfInBounds_toArray, List.set_cons_zero, List.set_cons_succ]
        refine takeH 8 104 (v := .agg (hashV T (.slice none 0 0) (64 * (kb : Int) + (nn : Int))).toArray) rfl (by rfl) (by kernel_rfl) (by kernel_rfl) (by kernel_rfl) (fun _ _ _ h => h) (yieldsIf_load_mid (by rfl) _ _ rfl _ 0 rfl (hashV T (.slice none 0 0) (64 * (kb : Int) + (nn : Int))) _ (fun wq hq => Box.range hq.2.1) Tryd.underlying36 rfl size10) (⟨xW_2, xT_3, xA_4, xw_5⟩) ?_
        try simp only [Act.put, List.setIfInBounds_toArray, List.set_cons_zero, List.set_cons_succ]
        refine wpAnyH_ready (rs := [9]) (by kernel_rfl) (by simp) (AllReadyH.cons rfl (fun K hK => ?_) AllReadyH.nil)
        go_simp
        refine (same_tt (T := T) (rs := []) (n := 64 * (kb : Int) + (nn : Int)) _ ⟨s2, d2, rfl, Hid.out JW_7⟩ ⟨none, 0, rfl, IsL.none⟩).mono ?_
        rintro e W10 ⟨rfl, hb10⟩
        have sz11 := Below.size hb10
        have xW_12 : Box W10 (bW) (hashV T (.slice s2 0 d2) (64 * (kb : Int) + (nn : Int))) := Box.below xW_2 hb10
        have xT_13 : Box W10 (W8.heap.size) (hashV T (.slice none 0 0) (64 * (kb : Int) + (nn : Int))) := Box.below xT_3 hb10
        have xA_14 : Box W10 (w7.heap.size) (hashV T (.slice s3 rs.length d3) (N2 : Int)) := Box.below xA_4 hb10
        have xw_15 : Box W10 (w.heap.size) (hv T) := Box.below xw_5 hb10
        have J_16 := Lib.hid (IsL.below (Hid.out J_6) hb10)
        have JW_17 := Lib.hid (IsL.below (Hid.out JW_7) hb10)
        have SL_18 := Lib.hid (IsL.below (Hid.out SL_8) hb10)
        have B_19 : Below w.heap.size w W10 := below_thru B_9 hb10
        refine hK.out _ _ (⟨xW_12, xT_13, xA_14, xw_15⟩) (fun _ => ?_); clear hK K
        refine takeH 10 106 (v := .bool false) rfl (by rfl) (by kernel_rfl) (by kernel_rfl) (by kernel_rfl) (fun _ _ _ h => h) (Or.inl ⟨by rfl, ?_⟩) (⟨xW_12, xT_13, xA_14, xw_15⟩) ?_
        · intro wq hSq
          go_simp
        try simp only [Act.put, List.setIfInBounds_toArray, List.set_cons_zero, List.set_cons_succ]
        refine takeH 11 107 (v := .bool false) rfl (by rfl) (by kernel_rfl) (by kernel_rfl) (by kernel_rfl) (fun _ _ _ h => h) (Or.inl ⟨by rfl, ?_⟩) (⟨xW_12, xT_13, xA_14, xw_15⟩) ?_
        · intro wq hSq
          go_simp
        try simp only [Act.put, List.setIfInBounds_toArray, List.set_cons_zero, List.set_cons_succ]
        refine takeH 12 108 (v := .bool false) rfl (by rfl) (by kernel_rfl) (by kernel_rfl) (by kernel_rfl) (fun _ _ _ h => h) (Or.inl ⟨by rfl, ?_⟩) (⟨xW_12, xT_13, xA_14, xw_15⟩) ?_
        · intro wq hSq
          go_simp
        try simp only [Act.put, List.setIfInBounds_toArray, List.set_cons_zero, List.set_cons_succ]
        refine takeH 13 109 (v := .pointer (some ⟨w7.heap.size, 0, none⟩)) rfl (by rfl) (by kernel_rfl) (by kernel_rfl) (by kernel_rfl) (fun _ _ _ h => h) (Or.inl ⟨by rfl, ?_⟩) (⟨xW_12, xT_13, xA_14, xw_15⟩) ?_
        · intro wq hSq
          go_simp
        try simp only [Act.put, List.setIfInBounds_toArray, List.set_cons_zero, List.set_cons_succ]
        refine takeH 14 110 (v := .agg (hv T).toArray) rfl (by rfl) (by kernel_rfl) (by kernel_rfl) (by kernel_rfl) (fun _ _ _ h => h) (yieldsIf_load_mid (by rfl) _ _ rfl _ 0 rfl (hv T) _ (fun wq hq => Box.left (l := hv T) (r := [.slice s3 rs.length d3, .int .i64 (N2 : Int)]) hq.2.2.1) Tryd.underlying32 rfl size8) (⟨xW_12, xT_13, xA_14, xw_15⟩) ?_
        try simp only [Act.put, List.setIfInBounds_toArray, List.set_cons_zero, List.set_cons_succ]
        refine takeH 15 111 (v := .agg (hv T).toArray) rfl (by rfl) (by kernel_rfl) (by kernel_rfl) (by kernel_rfl) (fun _ _ _ h => h) (yieldsIf_load_mid (by rfl) _ _ rfl _ 0 rfl (hv T) _ (fun wq hq => Box.range hq.2.2.2) Tryd.underlying32 rfl size8) (⟨xW_12, xT_13, xA_14, xw_15⟩) ?_
        try simp only [Act.put, List.setIfInBounds_toArray, List.set_cons_zero, List.set_cons_succ]
        refine takeH 16 112 (v := .bool false) rfl (by rfl) (by kernel_rfl) (by kernel_rfl) (by kernel_rfl) (fun _ _ _ h => h) (Or.inl ⟨by rfl, ?_⟩) (⟨xW_12, xT_13, xA_14, xw_15⟩) ?_
        · intro wq hSq
          have eW := eq_words T wq
          go_simp
        try simp only [Act.put, List.setIfInBounds_toArray, List.set_cons_zero, List.set_cons_succ]
        refine takeH 17 113 (v := .bool false) rfl (by rfl) (by kernel_rfl) (by kernel_rfl) (by kernel_rfl) (fun _ _ _ h => h) (Or.inl ⟨by rfl, ?_⟩) (⟨xW_12, xT_13, xA_14, xw_15⟩) ?_
        · intro wq hSq
          go_simp
        try simp only [Act.put, List.setIfInBounds_toArray, List.set_cons_zero, List.set_cons_succ]
        refine takeH 18 114 (v := .bool false) rfl (by rfl) (by kernel_rfl) (by kernel_rfl) (by kernel_rfl) (fun _ _ _ h => h) (Or.inl ⟨by rfl, ?_⟩) (⟨xW_12, xT_13, xA_14, xw_15⟩) ?_
        · intro wq hSq
          go_simp
        try simp only [Act.put, List.setIfInBounds_toArray, List.set_cons_zero, List.set_cons_succ]
        refine takeH 19 115 (v := .pointer (some ⟨w7.heap.size, 9, none⟩)) rfl (by rfl) (by kernel_rfl) (by kernel_rfl) (by kernel_rfl) (fun _ _ _ h => h) (Or.inl ⟨by rfl, ?_⟩) (⟨xW_12, xT_13, xA_14, xw_15⟩) ?_
        · intro wq hSq
          go_simp
        try simp only [Act.put, List.setIfInBounds_toArray, List.set_cons_zero, List.set_cons_succ]
        refine takeH 20 116 (v := .int .i64 (N2 : Int)) rfl (by rfl) (by kernel_rfl) (by kernel_rfl) (by kernel_rfl) (fun _ _ _ h => h) (Or.inl ⟨by rfl, ?_⟩) (⟨xW_12, xT_13, xA_14, xw_15⟩) ?_
        · intro wq hSq
          have cq := hSq.2.2.1.c 9 _ rfl
          go_simp
        try simp only [Act.put, List.setIfInBounds_toArray, List.set_cons_zero, List.set_cons_succ]
        refine takeH 21 117 (v := .int .i64 (kb : Int)) rfl (by rfl) (by kernel_rfl) (by kernel_rfl) (by kernel_rfl) (fun _ _ _ h => h) (Or.inl ⟨by rfl, ?_⟩) (⟨xW_12, xT_13, xA_14, xw_15⟩) ?_
        · intro wq hSq
          go_simp
        try simp only [Act.put, List.setIfInBounds_toArray, List.set_cons_zero, List.set_cons_succ]
        refine takeH 22 118 (v := .int .i64 (64 * (kb : Int))) rfl (by rfl) (by kernel_rfl) (by kernel_rfl) (by kernel_rfl) (fun _ _ _ h => h) (Or.inl ⟨by rfl, ?_⟩) (⟨xW_12, xT_13, xA_14, xw_15⟩) ?_
        · intro wq hSq
          go_simp
          exact IntWalk.i64_in _ (by omega)
        try simp only [Act.put, List.setIfInBounds_toArray, List.set_cons_zero, List.set_cons_succ]
        refine takeH 23 119 (v := .slice a0 xs.length c0) rfl (by rfl) (by kernel_rfl) (by kernel_rfl) (by kernel_rfl) (fun _ _ _ h => h) (Or.inl ⟨by rfl, ?_⟩) (⟨xW_12, xT_13, xA_14, xw_15⟩) ?_
        · intro wq hSq
          go_simp
        try simp only [Act.put, List.setIfInBounds_toArray, List.set_cons_zero, List.set_cons_succ]
        refine takeH 24 120 (v := .int .i64 (xs.length : Int)) rfl (by rfl) (by kernel_rfl) (by kernel_rfl) (by kernel_rfl) (fun _ _ _ h => h) (Or.inl ⟨by rfl, ?_⟩) (⟨xW_12, xT_13, xA_14, xw_15⟩) ?_
        · intro wq hSq
          go_simp
        try simp only [Act.put, List.setIfInBounds_toArray, List.set_cons_zero, List.set_cons_succ]
        refine takeH 25 121 (v := .int .i64 (64 * (kb : Int) + (xs.length : Int))) rfl (by rfl) (by kernel_rfl) (by kernel_rfl) (by kernel_rfl) (fun _ _ _ h => h) (Or.inl ⟨by rfl, ?_⟩) (⟨xW_12, xT_13, xA_14, xw_15⟩) ?_
        · intro wq hSq
          go_simp
          try exact IntWalk.i64_in _ (by omega)
        try simp only [Act.put, List.setIfInBounds_toArray, List.set_cons_zero, List.set_cons_succ]
        refine takeH 26 122 (v := .bool false) rfl (by rfl) (by kernel_rfl) (by kernel_rfl) (by kernel_rfl) (fun _ _ _ h => h) (Or.inl ⟨by rfl, ?_⟩) (⟨xW_12, xT_13, xA_14, xw_15⟩) ?_
        · intro wq hSq
          have eN := qN.out
          go_simp
        try simp only [Act.put, List.setIfInBounds_toArray, List.set_cons_zero, List.set_cons_succ]
        refine takeH 27 123 (v := .bool false) rfl (by rfl) (by kernel_rfl) (by kernel_rfl) (by kernel_rfl) (fun _ _ _ h => h) (Or.inl ⟨by rfl, ?_⟩) (⟨xW_12, xT_13, xA_14, xw_15⟩) ?_
        · intro wq hSq
          go_simp
        try simp only [Act.put, List.setIfInBounds_toArray, List.set_cons_zero, List.set_cons_succ]
        refine takeH 28 124 (v := .bool false) rfl (by rfl) (by kernel_rfl) (by kernel_rfl) (by kernel_rfl) (fun _ _ _ h => h) (Or.inl ⟨by rfl, ?_⟩) (⟨xW_12, xT_13, xA_14, xw_15⟩) ?_
        · intro wq hSq
          go_simp
        try simp only [Act.put, List.setIfInBounds_toArray, List.set_cons_zero, List.set_cons_succ]
        refine takeH 29 125 (v := .pointer (some ⟨w7.heap.size, 8, none⟩)) rfl (by rfl) (by kernel_rfl) (by kernel_rfl) (by kernel_rfl) (fun _ _ _ h => h) (Or.inl ⟨by rfl, ?_⟩) (⟨xW_12, xT_13, xA_14, xw_15⟩) ?_
        · intro wq hSq
          go_simp
        try simp only [Act.put, List.setIfInBounds_toArray, List.set_cons_zero, List.set_cons_succ]
        refine takeH 30 126 (v := .slice s3 rs.length d3) rfl (by rfl) (by kernel_rfl) (by kernel_rfl) (by kernel_rfl) (fun _ _ _ h => h) (Or.inl ⟨by rfl, ?_⟩) (⟨xW_12, xT_13, xA_14, xw_15⟩) ?_
        · intro wq hSq
          have cq := hSq.2.2.1.c 8 _ rfl
          go_simp
        try simp only [Act.put, List.setIfInBounds_toArray, List.set_cons_zero, List.set_cons_succ]
        refine takeH 31 127 (v := .slice a0 xs.length c0) rfl (by rfl) (by kernel_rfl) (by kernel_rfl) (by kernel_rfl) (fun _ _ _ h => h) (Or.inl ⟨by rfl, ?_⟩) (⟨xW_12, xT_13, xA_14, xw_15⟩) ?_
        · intro wq hSq
          go_simp
        try simp only [Act.put, List.setIfInBounds_toArray, List.set_cons_zero, List.set_cons_succ]
        refine takeH 32 128 (v := .int .i64 (nn : Int)) rfl (by rfl) (by kernel_rfl) (by kernel_rfl) (by kernel_rfl) (fun _ _ _ h => h) (Or.inl ⟨by rfl, ?_⟩) (⟨xW_12, xT_13, xA_14, xw_15⟩) ?_
        · intro wq hSq
          go_simp
        try simp only [Act.put, List.setIfInBounds_toArray, List.set_cons_zero, List.set_cons_succ]
        refine takeH 33 129 (v := .slice AL (xs.length - nn) (c0 - nn)) rfl (by rfl) (by kernel_rfl) (by kernel_rfl) (by kernel_rfl) (fun _ _ _ h => h) (Or.inl ⟨by rfl, ?_⟩) (⟨xW_12, xT_13, xA_14, xw_15⟩) ?_
        · intro wq hSq
          have eA := HAL.out
          go_simp
        try simp only [Act.put, List.setIfInBounds_toArray, List.set_cons_zero, List.set_cons_succ]
        refine wpAnyH_ready (rs := [34]) (by kernel_rfl) (by simp) (AllReadyH.cons rfl (fun K hK => ?_) AllReadyH.nil)
        go_simp
        refine (sameb_tt _ (Hid.out J_16) (Hid.out SL_18)).mono ?_
        rintro e W20 ⟨rfl, hb20⟩
        have sz21 := Below.size hb20
        have xW_22 : Box W20 (bW) (hashV T (.slice s2 0 d2) (64 * (kb : Int) + (nn : Int))) := Box.below xW_12 hb20
        have xT_23 : Box W20 (W8.heap.size) (hashV T (.slice none 0 0) (64 * (kb : Int) + (nn : Int))) := Box.below xT_13 hb20
        have xA_24 : Box W20 (w7.heap.size) (hashV T (.slice s3 rs.length d3) (N2 : Int)) := Box.below xA_14 hb20
        have xw_25 : Box W20 (w.heap.size) (hv T) := Box.below xw_15 hb20
        have J_26 := Lib.hid (IsL.below (Hid.out J_16) hb20)
        have JW_27 := Lib.hid (IsL.below (Hid.out JW_17) hb20)
        have SL_28 := Lib.hid (IsL.below (Hid.out SL_18) hb20)
        have B_29 : Below w.heap.size w W20 := below_thru B_19 hb20
        refine hK.out _ _ (⟨xW_22, xT_23, xA_24, xw_25⟩) (fun _ => ?_); clear hK K
        refine takeH 35 131 (v := .bool false) rfl (by rfl) (by kernel_rfl) (by kernel_rfl) (by kernel_rfl) (fun _ _ _ h => h) (Or.inl ⟨by rfl, ?_⟩) (⟨xW_22, xT_23, xA_24, xw_25⟩) ?_
        · intro wq hSq
          go_simp
        try simp only [Act.put, List.setIfInBounds_toArray, List.set_cons_zero, List.set_cons_succ]
        refine takeH 36 132 (v := .bool false) rfl (by rfl) (by kernel_rfl) (by kernel_rfl) (by kernel_rfl) (fun _ _ _ h => h) (Or.inl ⟨by rfl, ?_⟩) (⟨xW_22, xT_23, xA_24, xw_25⟩) ?_
        · intro wq hSq
          go_simp
        try simp only [Act.put, List.setIfInBounds_toArray, List.set_cons_zero, List.set_cons_succ]
        refine wpAnyH_done (by kernel_rfl) ?_ _
        have hsF := Below.size B_29
        have hzF := Box.lt xA_24
        go_wp2_with (refine wpList_load_box rfl _ _ rfl xA_24 rfl Tryd.underlying36 rfl size10 ?_)
        refine (finish_is N2 _ ⟨s3, d3, rfl, Hid.out J_26⟩ V2 HD RB (hL.out.below B_29)).mono ?_
        rintro e wA ⟨rfl, hb⟩
        have hBA : Below w.heap.size w wA := below_thru B_29 hb
        have hxTA := Box.below xT_23 hb
        have SLA := Lib.hid (IsL.below (Hid.out SL_28) hb)
        have hsA := hBA.size
        have hzA := hxTA.lt
        clear hb xW_22 xT_23 xA_24 xw_25 J_26 JW_27 SL_28 B_29
        go_upto_region 21 with (refine wpList_store_box (cs := D.map (Value.int .u8)) rfl _ _ _ rfl (Box.newc (l := zero32) rfl rfl) rfl rfl I32.out HLL.out (oneCell_ints _) ?_; intro WB hWB)
        have hBB : Below w.heap.size w WB := hWB.below _ _ hsA (hBA.alloc hsA _)
        have hNB : Below wA.heap.size wA WB := hWB.below _ _ (Nat.le_refl _) ((Below.refl _ wA).alloc (Nat.le_refl _) _)
        have hxDB := hWB.box
        have hxTB := hxTA.below hNB
        have SLB := Lib.hid (IsL.below SLA.out hNB)
        have hLB := Lib.hid (hL.out.below hBB)
        have hsB := hBB.size
        have hzB := hxDB.lt
        clear hWB hNB hBA hxTA SLA
        go_cut [21, 22] (fun p q wx => ∃ (b : Nat) (s4 : Option Addr) (d4 : Nat), p = .pointer (some ⟨b, 0, none⟩) ∧ q = .int .i64 0 ∧ wA.heap.size < b ∧ Box wx b (hashV T (.slice s4 rs.length d4) (N2 : Int)) ∧ Box wx wA.heap.size (D.map (Value.int .u8)) ∧ IsL wx .u8 (.slice s4 rs.length d4) rs ∧ Below w.heap.size w wx)
        case first =>
          refine wp_region_held_drew (S := fun w' => Box w' (W8.heap.size) (hashV T (.slice none 0 0) (64 * (kb : Int) + (nn : Int)))) (by kernel_rfl) (Box.drew hxTB) (fun _ => ?_)
          refine F_drew (F := fun W => wpAnyH _ _ _ _ _ _ _ _ W) ?_
          intro W0 hb0
          have sz1 := Below.size hb0
          have hh_2 : Box W0 (W8.heap.size) (hashV T (.slice none 0 0) (64 * (kb : Int) + (nn : Int))) := Box.below hxTB hb0
          have hx_3 : Box W0 (wA.heap.size) (D.map (Value.int .u8)) := Box.below hxDB hb0
          have sub_4 := Lib.hid (IsL.below (Hid.out SLB) hb0)
          have laid_5 := Lib.hid (LaidS.below (Hid.out hLB) hb0)
          have B_6 : Below w.heap.size w W0 := below_thru hBB hb0
          clear hb0 hxTB hxDB SLB hLB hBB
          refine takeH 0 139 (v := .agg (hashV T (.slice none 0 0) (64 * (kb : Int) + (nn : Int))).toArray) rfl (by rfl) (by kernel_rfl) (by kernel_rfl) (by kernel_rfl) (fun _ _ _ h => h) (yieldsIf_load_mid (by rfl) _ _ rfl _ 0 rfl (hashV T (.slice none 0 0) (64 * (kb : Int) + (nn : Int))) _ (fun wq hq => Box.range hq) Tryd.underlying36 rfl size10) (hh_2) ?_
          try simp only [Act.put, List.setIfInBounds_toArray, List.set_cons_zero, List.set_cons_succ]
          refine takeH 1 140 (v := .slice a0 xs.length c0) rfl (by rfl) (by kernel_rfl) (by kernel_rfl) (by kernel_rfl) (fun _ _ _ h => h) (Or.inl ⟨by rfl, ?_⟩) (hh_2) ?_
          · intro wq hSq
            go_simp
          try simp only [Act.put, List.setIfInBounds_toArray, List.set_cons_zero, List.set_cons_succ]
          refine takeH 2 141 (v := .int .i64 (nn : Int)) rfl (by rfl) (by kernel_rfl) (by kernel_rfl) (by kernel_rfl) (fun _ _ _ h => h) (Or.inl ⟨by rfl, ?_⟩) (hh_2) ?_
          · intro wq hSq
            go_simp
          try simp only [Act.put, List.setIfInBounds_toArray, List.set_cons_zero, List.set_cons_succ]
          refine takeH 3 142 (v := .slice AL (xs.length - nn) (c0 - nn)) rfl (by rfl) (by kernel_rfl) (by kernel_rfl) (by kernel_rfl) (fun _ _ _ h => h) (Or.inl ⟨by rfl, ?_⟩) (hh_2) ?_
          · intro wq hSq
            have eA := HAL.out
            go_simp
          try simp only [Act.put, List.setIfInBounds_toArray, List.set_cons_zero, List.set_cons_succ]
          refine wpAnyH_ready (rs := [4, 8]) (by kernel_rfl) (by simp) (AllReadyH.cons rfl (fun K hK => ?_) (AllReadyH.cons rfl (fun K hK => ?_) AllReadyH.nil))
          · skip
            go_simp
            refine (write_is (T := T) (h := T) (rs := []) (ys := rs) (zs := rs) (n := 64 * (kb : Int) + (nn : Int)) (m := (N2 : Int)) _ ⟨none, 0, rfl, IsL.none⟩ (Hid.out sub_4) V1 (by have := RM.out; have := HN2.out; omega) RT RR RM (Lib.hid bytesL.nil) RB (Hid.out laid_5)).mono ?_
            rintro e W7 ⟨s7, d7, rfl, ho7⟩
            have hb7 := ho7.2
            have hq7 := Lib.hid ho7.is
            have rg7 := Lib.hid ho7.range
            clear ho7
            have sz8 := Below.size hb7
            have hh_9 : Box W7 (W8.heap.size) (hashV T (.slice none 0 0) (64 * (kb : Int) + (nn : Int))) := Box.below hh_2 hb7
            have hx_10 : Box W7 (wA.heap.size) (D.map (Value.int .u8)) := Box.below hx_3 hb7
            have sub_11 := Lib.hid (IsL.below (Hid.out sub_4) hb7)
            have laid_12 := Lib.hid (LaidS.below (Hid.out laid_5) hb7)
            have B_13 : Below w.heap.size w W7 := below_thru B_6 hb7
            refine hK.out _ _ (hh_9) (fun _ => ?_); clear hK K
            refine takeH 5 138 (v := .tuple #[.agg (hashV T (.slice s7 rs.length d7) ((N2 : Int))).toArray, .int .i64 0]) rfl (by rfl) (by kernel_rfl) (by kernel_rfl) (by kernel_rfl) (fun _ _ _ h => h) (Or.inl ⟨by rfl, ?_⟩) (hh_9) ?_
            · intro wq hSq
              go_simp
            try simp only [Act.put, List.setIfInBounds_toArray, List.set_cons_zero, List.set_cons_succ]
            refine takeH 6 144 (v := .agg (hashV T (.slice s7 rs.length d7) ((N2 : Int))).toArray) rfl (by rfl) (by kernel_rfl) (by kernel_rfl) (by kernel_rfl) (fun _ _ _ h => h) (Or.inl ⟨by rfl, ?_⟩) (hh_9) ?_
            · intro wq hSq
              go_simp
            try simp only [Act.put, List.setIfInBounds_toArray, List.set_cons_zero, List.set_cons_succ]
            refine takeH 7 145 (v := .int .i64 0) rfl (by rfl) (by kernel_rfl) (by kernel_rfl) (by kernel_rfl) (fun _ _ _ h => h) (Or.inl ⟨by rfl, ?_⟩) (hh_9) ?_
            · intro wq hSq
              go_simp
            try simp only [Act.put, List.setIfInBounds_toArray, List.set_cons_zero, List.set_cons_succ]
            refine wpAnyH_ready (rs := [8]) (by kernel_rfl) (by simp) (AllReadyH.cons rfl (fun K hK => ?_) AllReadyH.nil)
            go_simp
            refine hK.out _ _ (Box.alloc hh_9 _) (fun _ => ?_); clear hK K
            refine F_alloc (F := fun W => wpAnyH _ _ _ _ _ _ _ _ W) (zero10) rfl ?_
            intro W14 hx14 hb14
            have sz15 := Below.size hb14
            have hh_16 : Box W14 (W8.heap.size) (hashV T (.slice none 0 0) (64 * (kb : Int) + (nn : Int))) := Box.below hh_9 hb14
            have hx_17 : Box W14 (wA.heap.size) (D.map (Value.int .u8)) := Box.below hx_10 hb14
            have sub_18 := Lib.hid (IsL.below (Hid.out sub_11) hb14)
            have laid_19 := Lib.hid (LaidS.below (Hid.out laid_12) hb14)
            have B_20 : Below w.heap.size w W14 := below_thru B_13 hb14
            have out_21 := Lib.hid (IsL.below (Hid.out hq7) hb14)
            have lt14 := hx14.lt
            refine wpAnyH_ready (rs := [9]) (by kernel_rfl) (by simp) (AllReadyH.cons rfl (fun K hK => ?_) AllReadyH.nil)
            refine step_store_box0 (cs := hashV T (.slice s7 rs.length d7) ((N2 : Int))) rfl rfl _ _ _ rfl hx14 rfl rfl size10 rfl (hash_one _ _ _ _ _) ?_
            intro W22 hW22
            have hh_23 : Box W22 (W8.heap.size) (hashV T (.slice none 0 0) (64 * (kb : Int) + (nn : Int))) := hW22.past _ _ (by omega) hh_16
            have hx_24 : Box W22 (wA.heap.size) (D.map (Value.int .u8)) := hW22.past _ _ (by omega) hx_17
            have B_27 : Below w.heap.size w W22 := hW22.below _ _ (by omega) B_20
            have nx_30 := hW22.box
            have oo22 := Lib.hid (IsL.stored (Hid.out out_21) hW22 (fun g hg => by have r := (Hid.out rg7) g hg; omega))
            refine hK.out _ _ (hh_23) (fun _ => ?_); clear hK K
            refine takeH 10 22 (v := .int .i64 0) rfl (by rfl) (by kernel_rfl) (by kernel_rfl) (by kernel_rfl) (fun _ _ _ h => h) (Or.inl ⟨by rfl, ?_⟩) (hh_23) ?_
            · intro wq hSq
              go_simp
            try simp only [Act.put, List.setIfInBounds_toArray, List.set_cons_zero, List.set_cons_succ]
            refine wpAnyH_done (by kernel_rfl) ?_ _
            go_wp2_with fail
            go_meet
            exact ⟨_, _, _, rfl, rfl, by omega, nx_30, hx_24, Hid.out oo22, B_27⟩
          · skip
            go_simp
            refine hK.out _ _ (Box.alloc hh_2 _) (fun _ => ?_); clear hK K
            refine F_alloc (F := fun W => wpAnyH _ _ _ _ _ _ _ _ W) (zero10) rfl ?_
            intro W31 hx31 hb31
            have sz32 := Below.size hb31
            have hh_33 : Box W31 (W8.heap.size) (hashV T (.slice none 0 0) (64 * (kb : Int) + (nn : Int))) := Box.below hh_2 hb31
            have hx_34 : Box W31 (wA.heap.size) (D.map (Value.int .u8)) := Box.below hx_3 hb31
            have sub_35 := Lib.hid (IsL.below (Hid.out sub_4) hb31)
            have laid_36 := Lib.hid (LaidS.below (Hid.out laid_5) hb31)
            have B_37 : Below w.heap.size w W31 := below_thru B_6 hb31
            have lt31 := hx31.lt
            refine wpAnyH_ready (rs := [4]) (by kernel_rfl) (by simp) (AllReadyH.cons rfl (fun K hK => ?_) AllReadyH.nil)
            go_simp
            refine (write_is (T := T) (h := T) (rs := []) (ys := rs) (zs := rs) (n := 64 * (kb : Int) + (nn : Int)) (m := (N2 : Int)) _ ⟨none, 0, rfl, IsL.none⟩ (Hid.out sub_35) V1 (by have := RM.out; have := HN2.out; omega) RT RR RM (Lib.hid bytesL.nil) RB (Hid.out laid_36)).mono ?_
            rintro e W38 ⟨s38, d38, rfl, ho38⟩
            have hb38 := ho38.2
            have hq38 := Lib.hid ho38.is
            have rg38 := Lib.hid ho38.range
            clear ho38
            have sz39 := Below.size hb38
            have hh_40 : Box W38 (W8.heap.size) (hashV T (.slice none 0 0) (64 * (kb : Int) + (nn : Int))) := Box.below hh_33 hb38
            have hx_41 : Box W38 (wA.heap.size) (D.map (Value.int .u8)) := Box.below hx_34 hb38
            have sub_42 := Lib.hid (IsL.below (Hid.out sub_35) hb38)
            have laid_43 := Lib.hid (LaidS.below (Hid.out laid_36) hb38)
            have B_44 : Below w.heap.size w W38 := below_thru B_37 hb38
            have nx_45 : Box W38 (W0.heap.size) (zero10) := Box.below hx31 hb38
            refine hK.out _ _ (hh_40) (fun _ => ?_); clear hK K
            refine takeH 5 138 (v := .tuple #[.agg (hashV T (.slice s38 rs.length d38) ((N2 : Int))).toArray, .int .i64 0]) rfl (by rfl) (by kernel_rfl) (by kernel_rfl) (by kernel_rfl) (fun _ _ _ h => h) (Or.inl ⟨by rfl, ?_⟩) (hh_40) ?_
            · intro wq hSq
              go_simp
            try simp only [Act.put, List.setIfInBounds_toArray, List.set_cons_zero, List.set_cons_succ]
            refine takeH 6 144 (v := .agg (hashV T (.slice s38 rs.length d38) ((N2 : Int))).toArray) rfl (by rfl) (by kernel_rfl) (by kernel_rfl) (by kernel_rfl) (fun _ _ _ h => h) (Or.inl ⟨by rfl, ?_⟩) (hh_40) ?_
            · intro wq hSq
              go_simp
            try simp only [Act.put, List.setIfInBounds_toArray, List.set_cons_zero, List.set_cons_succ]
            refine takeH 7 145 (v := .int .i64 0) rfl (by rfl) (by kernel_rfl) (by kernel_rfl) (by kernel_rfl) (fun _ _ _ h => h) (Or.inl ⟨by rfl, ?_⟩) (hh_40) ?_
            · intro wq hSq
              go_simp
            try simp only [Act.put, List.setIfInBounds_toArray, List.set_cons_zero, List.set_cons_succ]
            refine wpAnyH_ready (rs := [9]) (by kernel_rfl) (by simp) (AllReadyH.cons rfl (fun K hK => ?_) AllReadyH.nil)
            refine step_store_box0 (cs := hashV T (.slice s38 rs.length d38) ((N2 : Int))) rfl rfl _ _ _ rfl nx_45 rfl rfl size10 rfl (hash_one _ _ _ _ _) ?_
            intro W46 hW46
            have hh_47 : Box W46 (W8.heap.size) (hashV T (.slice none 0 0) (64 * (kb : Int) + (nn : Int))) := hW46.past _ _ (by omega) hh_40
            have hx_48 : Box W46 (wA.heap.size) (D.map (Value.int .u8)) := hW46.past _ _ (by omega) hx_41
            have B_51 : Below w.heap.size w W46 := hW46.below _ _ (by omega) B_44
            have nx_52 := hW46.box
            have oo46 := Lib.hid (IsL.stored (Hid.out hq38) hW46 (fun g hg => by have r := (Hid.out rg38) g hg; omega))
            refine hK.out _ _ (hh_47) (fun _ => ?_); clear hK K
            refine takeH 10 22 (v := .int .i64 0) rfl (by rfl) (by kernel_rfl) (by kernel_rfl) (by kernel_rfl) (fun _ _ _ h => h) (Or.inl ⟨by rfl, ?_⟩) (hh_47) ?_
            · intro wq hSq
              go_simp
            try simp only [Act.put, List.setIfInBounds_toArray, List.set_cons_zero, List.set_cons_succ]
            refine wpAnyH_done (by kernel_rfl) ?_ _
            go_wp2_with fail
            go_meet
            exact ⟨_, _, _, rfl, rfl, by omega, nx_52, hx_48, Hid.out oo46, B_51⟩
        case rest =>
          clear hxTB hxDB SLB hLB hBB hsB hzB
          obtain ⟨bR, s4, d4, rfl, rfl, hbR, hxR, hxD, JR, hB⟩ := hcut
          obtain ⟨wD, rfl⟩ : ∃ u : World, u = wc := ⟨_, rfl⟩
          go_wp2_with (refine wpList_load_box rfl _ _ rfl hxR rfl Tryd.underlying36 rfl size10 ?_)
          refine (finish_is N2 _ ⟨s4, d4, rfl, JR⟩ V2 HD RB (hL.out.below hB)).mono ?_
          rintro e wE ⟨rfl, hb⟩
          have hBE : Below w.heap.size w wE := below_thru hB hb
          have hxDE := hxD.below hb
          have hsE := hBE.size
          have hzE := hxDE.lt
          clear hb hB hxD hxR JR
          go_upto_region 23 with (refine wpList_store_box (cs := D.map (Value.int .u8)) rfl _ _ _ rfl (Box.newc (l := zero32) rfl rfl) rfl rfl I32.out HLL.out (oneCell_ints _) ?_; intro WF hWF)
          have hBF : Below w.heap.size w WF := hWF.below _ _ hsE (hBE.alloc hsE _)
          have hNF : Below wE.heap.size wE WF := hWF.below _ _ (Nat.le_refl _) ((Below.refl _ wE).alloc (Nat.le_refl _) _)
          have hxYF := hWF.box
          have hxDF := hxDE.below hNF
          clear hWF hNF hBE hxDE
          have hEq : ∀ W, (Op.equalIn 10000 24 (.agg (D.map (Value.int .u8)).toArray) (.agg (D.map (Value.int .u8)).toArray)).run Tryd.prog W = .ok true W := hEd.out
          go_wp2_with (first | (refine wpList_load_boxw rfl _ _ rfl hxDF rfl Tryd.underlying24 rfl I32.out ?_) | (refine wpList_load_boxw rfl _ _ rfl hxYF rfl Tryd.underlying24 rfl I32.out ?_))
          refine (alive_tt _ (Lib.hid (hL.out.below hBF))).mono ?_
          rintro e wG ⟨rfl, hb⟩
          have hBG : Below w.heap.size w wG := below_thru hBF hb
          go_wp2_with fail
          go_returns
          exact ⟨rfl, hBG⟩

theorem on5_any {T : W8} {n : Int} {a0 : Option Addr} {c0 : Nat} {xs : List Int} {w : World} (h1 : -9223372036854775808 ≤ n) (h2 : n ≤ 9223372036854775807) (i0 : IsL w .u8 (.slice a0 xs.length c0) xs) (b0 : bytesL xs) (hL : LaidS w) :
    Calls Tryd.prog 8 #[.agg (hv T).toArray, .int .i64 n, .slice a0 xs.length c0] w fun e w' => e = .returned (.bool true) ∧ Below w.heap.size w w' := by
  have m0 := i0.room
  by_cases h : n < 0 ∨ 1000 < n ∨ 1000 < xs.length
  · exact on5_long w h (by omega) (Lib.hid hL)
  · obtain ⟨kb, hK⟩ : ∃ kb : Nat, n = (kb : Int) := ⟨n.toNat, by omega⟩
    subst hK
    exact on5_main w (by omega) (by omega) (Lib.hid i0) (Lib.hid b0) (Lib.hid hL)

end Go.Proofs.YtlddlkapabmoeaaDoor
