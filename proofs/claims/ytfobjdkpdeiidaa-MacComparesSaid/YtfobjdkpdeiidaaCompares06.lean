/-
  MacCompares, walked: it returns true.
-/
import Derived.Test.YtfobjdkpdeiidaaMacA
import Derived.Test.YtfobjdkpdeiidaaMacR
namespace Go.Proofs.Ytfobjdkpdeiidaa
open Go.RowKit

set_option maxRecDepth 100000 in
set_option maxHeartbeats 1600000 in
theorem rcompare_is {v1 v2 : Value} {xs ys : List Int} (w : World) (h1 : Hid (IsL w .u8 v1 xs)) (h2 : Hid (IsL w .u8 v2 ys)) :
    Calls Try.prog 5 #[v1, v2] w fun e w' => e = .returned (.tuple #[.bool (sameB xs ys), .int .i64 ((max xs.length ys.length : Nat) : Int)]) ∧ Below w.heap.size w w' := by
  obtain ⟨a1, c1, rfl, hin1, _⟩ := id h1.out
  obtain ⟨a2, c2, rfl, hin2, _⟩ := id h2.out
  have r1 := hin1.room
  have m1 := hin1.most
  have r2 := hin2.room
  have m2 := hin2.most
  obtain ⟨M, hM⟩ : ∃ M, max xs.length ys.length = M := ⟨_, rfl⟩
  rw [hM]
  go_enter Try.func5, Try.ntmps5
  go_wp2_with fail
  refine (sameb_any a1 a2 c1 c2 xs ys _ hin1 hin2).mono ?_
  rintro e w1 ⟨rfl, n, rfl⟩
  clear hin1 hin2
  go_wp2_with fail
  · obtain rfl : M = ys.length := by omega
    go_returns
    exact ⟨rfl, below_drewN (Below.refl _ _) n⟩
  · obtain rfl : M = xs.length := by omega
    go_returns
    exact ⟨rfl, below_drewN (Below.refl _ _) n⟩

set_option maxRecDepth 100000 in
set_option maxHeartbeats 1600000 in
theorem compares6_long {a0 a1 : Option Addr} {c0 c1 : Nat} {xs ys : List Int} {D1 D2 : Array Value} (w : World) (hl : 300 < xs.length ∨ 300 < ys.length) (m0 : xs.length ≤ 9223372036854775807) (m1 : ys.length ≤ 9223372036854775807) :
    Calls Try.prog 3 #[.slice a0 xs.length c0, .slice a1 ys.length c1, .agg D1, .agg D2] w fun e w' => e = .returned (.bool true) ∧ Below w.heap.size w w' := by
  rcases Nat.lt_or_ge 300 xs.length with q0 | q0
  · clear hl
    go_enter Try.func3, Try.ntmps3
    go_wp2_with fail
    go_returns
    exact ⟨rfl, by go_grown⟩
  · have q1 : 300 < ys.length := by omega
    clear hl
    go_enter Try.func3, Try.ntmps3
    go_wp2_with fail
    go_returns
    exact ⟨rfl, by go_grown⟩

set_option maxRecDepth 100000 in
set_option maxHeartbeats 1600000 in
theorem compares6_main {a0 a1 : Option Addr} {c0 c1 : Nat} {xs ys D1 D2 : List Int} (w : World) (q0 : xs.length ≤ 300) (q1 : ys.length ≤ 300)
    (i0 : Hid (IsL w .u8 (.slice a0 xs.length c0) xs)) (i1 : Hid (IsL w .u8 (.slice a1 ys.length c1) ys)) (l1 : D1.length = 32) (l2 : D2.length = 32) :
    Calls Try.prog 3 #[.slice a0 xs.length c0, .slice a1 ys.length c1, .agg (D1.map (Value.int .u8)).toArray, .agg (D2.map (Value.int .u8)).toArray] w fun e w' => e = .returned (.bool true) ∧ Below w.heap.size w w' := by
  have L1 := Lib.hid l1
  have L2 := Lib.hid l2
  have s32 : (Try.prog.info? 24).map (·.size) = some 32 := by kernel_rfl
  have I1 := Lib.hid (show (Try.prog.info? 24).map (·.size) = some (D1.map (Value.int .u8)).length by rw [List.length_map, l1]; exact s32)
  have I2 := Lib.hid (show (Try.prog.info? 24).map (·.size) = some (D2.map (Value.int .u8)).length by rw [List.length_map, l2]; exact s32)
  have hE : ∀ W : World, (Op.equalIn 10000 24 (.agg (D1.map (Value.int .u8)).toArray) (.agg (D2.map (Value.int .u8)).toArray)).run Try.prog W = .ok (sameB D1 D2) W := fun W =>
    eq_ints W 9998 Try.underlying24 Try.underlying5 (by kernel_rfl) D1 D2 l1 l2
  have QQ := Lib.hid (show sameB D1 D1 = true from decide_eq_true rfl)
  clear l1 l2 s32
  go_enter Try.func3, Try.ntmps3
  go_upto_region 3 with fail
  have hx0 : Box ((w.alloc (.cells (D1.map (Value.int .u8)).toArray 24)).alloc (.cells (D2.map (Value.int .u8)).toArray 24)) w.heap.size (D1.map (Value.int .u8)) := Box.alloc (Box.newc rfl rfl) _
  have hy0 : Box ((w.alloc (.cells (D1.map (Value.int .u8)).toArray 24)).alloc (.cells (D2.map (Value.int .u8)).toArray 24)) (w.heap.size + 1) (D2.map (Value.int .u8)) := Box.newc rfl (by simp)
  have hB0 : Below w.heap.size w ((w.alloc (.cells (D1.map (Value.int .u8)).toArray 24)).alloc (.cells (D2.map (Value.int .u8)).toArray 24)) := by go_grown
  obtain ⟨w0, h9⟩ : ∃ W, ((w.alloc (.cells (D1.map (Value.int .u8)).toArray 24)).alloc (.cells (D2.map (Value.int .u8)).toArray 24)) = W := ⟨_, rfl⟩
  rw [h9] at hx0 hy0 hB0 ⊢
  clear h9
  go_wp2_with fail
  refine (compare_is _ (Lib.hid (i0.out.below hB0)) (Lib.hid (i1.out.below hB0))).mono ?_
  rintro e w1 ⟨rfl, hb⟩
  have hx1 := hx0.below hb
  have hy1 := hy0.below hb
  have hB1 := below_thru hB0 hb
  clear hb hx0 hy0 hB0
  obtain ⟨M, hM⟩ : ∃ M, max xs.length ys.length = M := ⟨_, rfl⟩
  have hMm : M ≤ 300 := by omega
  obtain ⟨q, hq⟩ : ∃ q, sameB xs ys = q := ⟨_, rfl⟩
  have HM := Lib.hid hM
  have HQ := Lib.hid hq
  rw [hM, hq]
  clear hM hq
  go_wp2_with fail
  refine (rcompare_is _ (Lib.hid (i0.out.below hB1)) (Lib.hid (i1.out.below hB1))).mono ?_
  rintro e w2 ⟨rfl, hb⟩
  have hx2 := hx1.below hb
  have hy2 := hy1.below hb
  have hB2 := below_thru hB1 hb
  rw [HM.out, HQ.out]
  clear hb hx1 hy1 hB1 i0 i1
  have hz1 := hx2.lt
  have hz2 := hy2.lt
  go_upto_region 5 with fail
  refine wp_region_held_drew (S := fun w' => Box w' w.heap.size (D1.map (Value.int .u8)) ∧ Box w' (w.heap.size + 1) (D2.map (Value.int .u8))) (by kernel_rfl) (⟨hx2.drew, hy2.drew⟩) (fun _ => ?_)
  refine F_drew (F := fun W => wpAnyH _ _ _ _ _ _ _ _ W) ?_
  intro W0 hb0
  have hx0 := hx2.below hb0
  have hy0 := hy2.below hb0
  have hB0 := below_thru hB2 hb0
  clear hx2 hy2 hB2 hb0
  refine takeH 0 33 (v := ?va0_1) rfl (by rfl) (by kernel_rfl) (by kernel_rfl) (by kernel_rfl) (fun _ _ _ h => h) (Or.inl ⟨by rfl, ?_⟩) (⟨hx0, hy0⟩) ?_
  rotate_left
  · intro wq hSq
    go_simp
    exact rfl
  try simp only [Act.put, List.setIfInBounds_toArray, List.set_cons_zero, List.set_cons_succ]
  refine takeH 1 34 (v := ?va1_2) rfl (by rfl) (by kernel_rfl) (by kernel_rfl) (by kernel_rfl) (fun _ _ _ h => h) (Or.inl ⟨by rfl, ?_⟩) (⟨hx0, hy0⟩) ?_
  rotate_left
  · intro wq hSq
    go_simp
    exact rfl
  try simp only [Act.put, List.setIfInBounds_toArray, List.set_cons_zero, List.set_cons_succ]
  refine takeH 2 35 (v := ?va2_3) rfl (by rfl) (by kernel_rfl) (by kernel_rfl) (by kernel_rfl) (fun _ _ _ h => h) (Or.inl ⟨by rfl, ?_⟩) (⟨hx0, hy0⟩) ?_
  rotate_left
  · intro wq hSq
    go_simp
    exact rfl
  try simp only [Act.put, List.setIfInBounds_toArray, List.set_cons_zero, List.set_cons_succ]
  refine takeH 3 36 (v := ?va3_4) rfl (by rfl) (by kernel_rfl) (by kernel_rfl) (by kernel_rfl) (fun _ _ _ h => h) (Or.inl ⟨by rfl, ?_⟩) (⟨hx0, hy0⟩) ?_
  rotate_left
  · intro wq hSq
    go_simp
    exact rfl
  try simp only [Act.put, List.setIfInBounds_toArray, List.set_cons_zero, List.set_cons_succ]
  refine takeH 4 37 (v := ?va4_5) rfl (by rfl) (by kernel_rfl) (by kernel_rfl) (by kernel_rfl) (fun _ _ _ h => h) (Or.inl ⟨by rfl, ?_⟩) (⟨hx0, hy0⟩) ?_
  rotate_left
  · intro wq hSq
    go_simp
    exact rfl
  try simp only [Act.put, List.setIfInBounds_toArray, List.set_cons_zero, List.set_cons_succ]
  refine takeH 5 38 (v := ?va5_6) rfl (by rfl) (by kernel_rfl) (by kernel_rfl) (by kernel_rfl) (fun _ _ _ h => h) (Or.inl ⟨by rfl, ?_⟩) (⟨hx0, hy0⟩) ?_
  rotate_left
  · intro wq hSq
    go_simp
    exact rfl
  try simp only [Act.put, List.setIfInBounds_toArray, List.set_cons_zero, List.set_cons_succ]
  refine takeH 6 39 (v := ?va6_7) rfl (by rfl) (by kernel_rfl) (by kernel_rfl) (by kernel_rfl) (fun _ _ _ h => h) (Or.inl ⟨by rfl, ?_⟩) (⟨hx0, hy0⟩) ?_
  rotate_left
  · intro wq hSq
    go_simp
    exact rfl
  try simp only [Act.put, List.setIfInBounds_toArray, List.set_cons_zero, List.set_cons_succ]
  refine takeH 7 40 (v := ?va7_8) rfl (by rfl) (by kernel_rfl) (by kernel_rfl) (by kernel_rfl) (fun _ _ _ h => h) (Or.inl ⟨by rfl, ?_⟩) (⟨hx0, hy0⟩) ?_
  rotate_left
  · intro wq hSq
    go_simp
    exact rfl
  try simp only [Act.put, List.setIfInBounds_toArray, List.set_cons_zero, List.set_cons_succ]
  refine takeH 8 41 (v := ?va8_9) rfl (by rfl) (by kernel_rfl) (by kernel_rfl) (by kernel_rfl) (fun _ _ _ h => h) (Or.inl ⟨by rfl, ?_⟩) (⟨hx0, hy0⟩) ?_
  rotate_left
  · intro wq hSq
    go_simp
    exact rfl
  try simp only [Act.put, List.setIfInBounds_toArray, List.set_cons_zero, List.set_cons_succ]
  refine takeH 9 42 (v := .agg (D1.map (Value.int .u8)).toArray) rfl (by rfl) (by kernel_rfl) (by kernel_rfl) (by kernel_rfl) (fun _ _ _ h => h) (yieldsIf_load_mid (by rfl) _ _ rfl _ 0 rfl (D1.map (Value.int .u8)) _ (fun wq hq => Box.range hq.1) Try.underlying24 rfl I1.out) (⟨hx0, hy0⟩) ?_
  try simp only [Act.put, List.setIfInBounds_toArray, List.set_cons_zero, List.set_cons_succ]
  refine takeH 10 43 (v := .agg (D2.map (Value.int .u8)).toArray) rfl (by rfl) (by kernel_rfl) (by kernel_rfl) (by kernel_rfl) (fun _ _ _ h => h) (yieldsIf_load_mid (by rfl) _ _ rfl _ 0 rfl (D2.map (Value.int .u8)) _ (fun wq hq => Box.range hq.2) Try.underlying24 rfl I2.out) (⟨hx0, hy0⟩) ?_
  try simp only [Act.put, List.setIfInBounds_toArray, List.set_cons_zero, List.set_cons_succ]
  refine takeH 12 45 (v := .agg (D1.map (Value.int .u8)).toArray) rfl (by rfl) (by kernel_rfl) (by kernel_rfl) (by kernel_rfl) (fun _ _ _ h => h) (yieldsIf_load_mid (by rfl) _ _ rfl _ 0 rfl (D1.map (Value.int .u8)) _ (fun wq hq => Box.range hq.1) Try.underlying24 rfl I1.out) (⟨hx0, hy0⟩) ?_
  try simp only [Act.put, List.setIfInBounds_toArray, List.set_cons_zero, List.set_cons_succ]
  refine takeH 13 46 (v := .agg (D2.map (Value.int .u8)).toArray) rfl (by rfl) (by kernel_rfl) (by kernel_rfl) (by kernel_rfl) (fun _ _ _ h => h) (yieldsIf_load_mid (by rfl) _ _ rfl _ 0 rfl (D2.map (Value.int .u8)) _ (fun wq hq => Box.range hq.2) Try.underlying24 rfl I2.out) (⟨hx0, hy0⟩) ?_
  try simp only [Act.put, List.setIfInBounds_toArray, List.set_cons_zero, List.set_cons_succ]
  refine takeH 14 47 (v := ?va14_10) rfl (by rfl) (by kernel_rfl) (by kernel_rfl) (by kernel_rfl) (fun _ _ _ h => h) (Or.inl ⟨by rfl, ?_⟩) (⟨hx0, hy0⟩) ?_
  rotate_left
  · intro wq hSq
    go_simp
    exact rfl
  try simp only [Act.put, List.setIfInBounds_toArray, List.set_cons_zero, List.set_cons_succ]
  refine wpAnyH_ready (rs := [11]) (by kernel_rfl) (by simp) (AllReadyH.cons rfl (fun K hK => ?_) AllReadyH.nil)
  go_simp
  refine (mac_same _ L1.out L2.out).mono ?_
  rintro e W11 ⟨rfl, hb11⟩
  have hx11 := Box.below hx0 hb11; have hy11 := Box.below hy0 hb11; have hB11 := below_thru hB0 hb11
  refine hK.out _ _ (⟨hx11, hy11⟩) (fun _ => ?_); clear hK K
  refine takeH 15 48 (v := ?va15_12) rfl (by rfl) (by kernel_rfl) (by kernel_rfl) (by kernel_rfl) (fun _ _ _ h => h) (Or.inl ⟨by rfl, ?_⟩) (⟨hx11, hy11⟩) ?_
  rotate_left
  · intro wq hSq
    go_simp
    exact rfl
  try simp only [Act.put, List.setIfInBounds_toArray, List.set_cons_zero, List.set_cons_succ]
  refine takeH 16 49 (v := ?va16_13) rfl (by rfl) (by kernel_rfl) (by kernel_rfl) (by kernel_rfl) (fun _ _ _ h => h) (Or.inl ⟨by rfl, ?_⟩) (⟨hx11, hy11⟩) ?_
  rotate_left
  · intro wq hSq
    go_simp
    exact rfl
  try simp only [Act.put, List.setIfInBounds_toArray, List.set_cons_zero, List.set_cons_succ]
  refine takeH 17 50 (v := ?va17_14) rfl (by rfl) (by kernel_rfl) (by kernel_rfl) (by kernel_rfl) (fun _ _ _ h => h) (Or.inl ⟨by rfl, ?_⟩) (⟨hx11, hy11⟩) ?_
  rotate_left
  · intro wq hSq
    go_simp
    exact rfl
  try simp only [Act.put, List.setIfInBounds_toArray, List.set_cons_zero, List.set_cons_succ]
  refine takeH 18 51 (v := .agg (D1.map (Value.int .u8)).toArray) rfl (by rfl) (by kernel_rfl) (by kernel_rfl) (by kernel_rfl) (fun _ _ _ h => h) (yieldsIf_load_mid (by rfl) _ _ rfl _ 0 rfl (D1.map (Value.int .u8)) _ (fun wq hq => Box.range hq.1) Try.underlying24 rfl I1.out) (⟨hx11, hy11⟩) ?_
  try simp only [Act.put, List.setIfInBounds_toArray, List.set_cons_zero, List.set_cons_succ]
  refine takeH 19 52 (v := .agg (D1.map (Value.int .u8)).toArray) rfl (by rfl) (by kernel_rfl) (by kernel_rfl) (by kernel_rfl) (fun _ _ _ h => h) (yieldsIf_load_mid (by rfl) _ _ rfl _ 0 rfl (D1.map (Value.int .u8)) _ (fun wq hq => Box.range hq.1) Try.underlying24 rfl I1.out) (⟨hx11, hy11⟩) ?_
  try simp only [Act.put, List.setIfInBounds_toArray, List.set_cons_zero, List.set_cons_succ]
  refine wpAnyH_ready (rs := [20]) (by kernel_rfl) (by simp) (AllReadyH.cons rfl (fun K hK => ?_) AllReadyH.nil)
  go_simp
  refine (mac_same _ L1.out L1.out).mono ?_
  rintro e W15 ⟨rfl, hb15⟩
  have hx15 := Box.below hx11 hb15; have hy15 := Box.below hy11 hb15; have hB15 := below_thru hB11 hb15
  refine hK.out _ _ (⟨hx15, hy15⟩) (fun _ => ?_); clear hK K
  refine takeH 21 54 (v := ?va21_16) rfl (by rfl) (by kernel_rfl) (by kernel_rfl) (by kernel_rfl) (fun _ _ _ h => h) (Or.inl ⟨by rfl, ?_⟩) (⟨hx15, hy15⟩) ?_
  rotate_left
  · intro wq hSq
    go_simp
    exact rfl
  try simp only [Act.put, List.setIfInBounds_toArray, List.set_cons_zero, List.set_cons_succ]
  refine takeH 22 8 (v := ?va22_17) rfl (by rfl) (by kernel_rfl) (by kernel_rfl) (by kernel_rfl) (fun _ _ _ h => h) (Or.inl ⟨by rfl, ?_⟩) (⟨hx15, hy15⟩) ?_
  rotate_left
  · intro wq hSq
    go_simp
    exact rfl
  try simp only [Act.put, List.setIfInBounds_toArray, List.set_cons_zero, List.set_cons_succ]
  refine wpAnyH_done (by kernel_rfl) ?_ _
  go_wp2_with fail
  go_returns
  exact ⟨by first | rfl | (rw [QQ.out]; rfl) | (simp [QQ.out]), hB15⟩

theorem compares6_any {a0 a1 : Option Addr} {c0 c1 : Nat} {xs ys D1 D2 : List Int} {w : World} (i0 : IsL w .u8 (.slice a0 xs.length c0) xs) (i1 : IsL w .u8 (.slice a1 ys.length c1) ys) (l1 : D1.length = 32) (l2 : D2.length = 32) :
    Calls Try.prog 3 #[.slice a0 xs.length c0, .slice a1 ys.length c1, .agg (D1.map (Value.int .u8)).toArray, .agg (D2.map (Value.int .u8)).toArray] w fun e w' => e = .returned (.bool true) ∧ Below w.heap.size w w' := by
  have m0 := i0.room
  have m1 := i1.room
  by_cases h : 300 < xs.length ∨ 300 < ys.length
  · exact compares6_long w h (by omega) (by omega)
  · exact compares6_main w (by omega) (by omega) (Lib.hid i0) (Lib.hid i1) l1 l2

end Go.Proofs.Ytfobjdkpdeiidaa
