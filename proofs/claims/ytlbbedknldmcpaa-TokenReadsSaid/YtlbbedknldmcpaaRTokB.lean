/-
  Token's reference: bytes of tokens written and read.
-/
import Derived.Test.YtlbbedknldmcpaaRTokA
import Derived.Test.YtlbbedknldmcpaaTokE
namespace Go.Proofs.Ytlbbedknldmcpaa
open Go.RowKit

set_option maxRecDepth 100000 in
set_option maxHeartbeats 3200000 in
theorem rwrite_is (k : Nums) {g : List Int} (hg : g.length = 32) (w : World) : Calls Try.prog 8 #[.agg (tcell k g).toArray] w (GivesOwn (k.msg ++ g) w) := by
  obtain ⟨ti, hin, hz0, hz1, hz2⟩ := info_parts info_u8'
  have A := fun W => rmsg_is k (g := g) W
  have hm := k.msg_len
  obtain ⟨M, hM⟩ : ∃ M, k.msg = M := ⟨_, rfl⟩
  rw [hM] at A hm ⊢
  have HM := Lib.hid hm
  have HG := Lib.hid hg
  have HT := Lib.hid (tcell_drop k g)
  have ST := Lib.hid (size_tok k hg)
  obtain ⟨V, hV⟩ : ∃ V, tcell k g = V := ⟨_, rfl⟩
  rw [hV] at A HT ST ⊢
  clear hV hM hm hg
  have hx : Box (w.alloc (.cells V.toArray 27)) w.heap.size V := Box.newc rfl rfl
  have hB : Below w.heap.size w (w.alloc (.cells V.toArray 27)) := by go_grown
  go_enter Try.func8, Try.ntmps8
  go_upto_region 1 with fail
  refine wp_region_held_drew (S := fun w' => Box w' w.heap.size V) (by kernel_rfl) (hx.drew) (fun _ => ?_)
  refine F_drew (F := fun W => wpAnyH _ _ _ _ _ _ _ _ W) ?_
  intro W0 hb0
  have hx0 := hx.below hb0; have hB0 := below_thru hB hb0; have hL0 := Below.refl W0.heap.size W0; have hl0 := hL0.size; have sz0 := hx0.lt
  clear hx hB hb0
  refine takeH 2 5 (v := ?vs2_1) rfl (by rfl) (by kernel_rfl) (by kernel_rfl) (by kernel_rfl) (fun _ _ _ h => h) (Or.inl ⟨by rfl, ?_⟩) (hx0) ?_
  rotate_left
  · intro wq hSq
    go_simp
    exact rfl
  try simp only [Act.put, List.setIfInBounds_toArray, List.set_cons_zero, List.set_cons_succ]
  refine takeH 3 6 (v := ?vs3_2) rfl (by rfl) (by kernel_rfl) (by kernel_rfl) (by kernel_rfl) (fun _ _ _ h => h) (Or.inl ⟨by rfl, ?_⟩) (hx0) ?_
  rotate_left
  · intro wq hSq
    go_simp
    exact rfl
  try simp only [Act.put, List.setIfInBounds_toArray, List.set_cons_zero, List.set_cons_succ]
  refine takeH 0 3 (v := .agg V.toArray) rfl (by rfl) (by kernel_rfl) (by kernel_rfl) (by kernel_rfl) (fun _ _ _ h => h) (yieldsIf_load_mid (by rfl) _ _ rfl _ _ rfl V _ (fun wq hq => hq.range) Try.underlying27 rfl ST.out) (hx0) ?_
  try simp only [Act.put, List.setIfInBounds_toArray, List.set_cons_zero, List.set_cons_succ]
  refine wpAnyH_ready (rs := [1]) (by kernel_rfl) (by simp) (AllReadyH.cons rfl (fun K hK => ?_) AllReadyH.nil)
  go_simp
  refine (A _).mono ?_
  rintro e W3 ⟨va, rfl, oa, hb3⟩
  have oa := ownR_base oa (hl0)
  have hx3 := Box.below hx0 hb3
  have sz3 := hx3.lt
  have hB3 : Below w.heap.size w W3 := below_thru hB0 hb3
  have hL3 : Below W0.heap.size W0 W3 := below_thru hL0 hb3
  have hl3 := hL3.size
  refine hK.out _ _ hx3 (fun _ => ?_); clear hK K
  refine wpAnyH_ready (rs := [4]) (by kernel_rfl) (by simp) (AllReadyH.cons rfl (fun K hK => ?_) AllReadyH.nil)
  refine step_append_ints 7 rfl rfl _ _ 28 rfl W0.heap.size 5 ti (.int .u8 0) 1 .u8 Try.underlying28 hin hz0 hz1 hz2 rfl _ _ _ rfl oa _ g rfl (IsL.range 32 32 HG.out (Box.rangeFrom hx3 4 (g.map (Value.int .u8)) HT.out) (by omega) (by omega)) (by have := HM.out; have := HG.out; unfold maxLen; omega) (by have := HM.out; have := HG.out; omega) hl3 ?_
  intro vc W4 oc hb4
  have hx4 := (Box.upR hx3 hb4 (by omega)).1
  have sz4 := hx4.lt
  have hB4 : Below w.heap.size w W4 := hB3.trans (hb4.mono (by omega))
  have hL4 : Below W0.heap.size W0 W4 := hL3.trans hb4
  have hl4 := hL4.size
  refine hK.out _ _ hx4 (fun _ => ?_); clear hK K
  refine takeH 5 2 (v := ?vs5_5) rfl (by rfl) (by kernel_rfl) (by kernel_rfl) (by kernel_rfl) (fun _ _ _ h => h) (Or.inl ⟨by rfl, ?_⟩) (hx4) ?_
  rotate_left
  · intro wq hSq
    go_simp
    exact rfl
  try simp only [Act.put, List.setIfInBounds_toArray, List.set_cons_zero, List.set_cons_succ]
  refine wpAnyH_done (by kernel_rfl) ?_ _
  go_wp2_with fail
  go_returns
  refine ⟨_, rfl, ?_, hB4⟩
  rw [List.length_append, List.map_append]
  exact ownR_base oc (Nat.le_of_lt sz0)


theorem Nums.cuts (k : Nums) (g : List Int) : (k.msg ++ g).take 4 = be 4 k.t ∧ ((k.msg ++ g).take 8).drop 4 = be 4 k.u ∧ ((k.msg ++ g).take 12).drop 8 = be 4 k.e ∧ ((k.msg ++ g).take 20).drop 12 = be 8 k.x := by
  have l1 := be_len 4 k.t
  have l2 := be_len 4 k.u
  have l3 := be_len 4 k.e
  have l4 := be_len 8 k.x
  have e : k.msg ++ g = be 4 k.t ++ (be 4 k.u ++ (be 4 k.e ++ (be 8 k.x ++ g))) := by unfold Nums.msg; simp only [List.append_assoc]
  have e2 : be 4 k.t ++ (be 4 k.u ++ (be 4 k.e ++ (be 8 k.x ++ g))) = (be 4 k.t ++ be 4 k.u) ++ (be 4 k.e ++ (be 8 k.x ++ g)) := by simp only [List.append_assoc]
  have e3 : be 4 k.t ++ (be 4 k.u ++ (be 4 k.e ++ (be 8 k.x ++ g))) = (be 4 k.t ++ be 4 k.u ++ be 4 k.e) ++ (be 8 k.x ++ g) := by simp only [List.append_assoc]
  refine ⟨by rw [e, List.take_left' l1], ?_, ?_, ?_⟩
  · rw [e, List.drop_take, List.drop_left' l1, List.take_left' l2]
  · rw [e, List.drop_take, e2, List.drop_left' (by rw [List.length_append, l1, l2]), List.take_left' l3]
  · rw [e, List.drop_take, e3, List.drop_left' (by rw [List.length_append, List.length_append, l1, l2, l3]), List.take_left' l4]
/-- The first of a Tag's bytes; the rest is zero. -/
def gS (g : List Int) (i : Nat) : List Int := g.take i ++ List.replicate (32 - i) 0
theorem gS_zero (g : List Int) : gS g 0 = zeroD := rfl
theorem gS_all {g : List Int} (h : g.length = 32) : gS g 32 = g := by unfold gS; rw [List.take_of_length_le (by omega)]; simp
theorem gS_len {g : List Int} (h : g.length = 32) {i : Nat} (hi : i ≤ 32) : (gS g i).length = 32 := by unfold gS; rw [List.length_append, List.length_take, List.length_replicate]; omega
theorem gS_succ {g : List Int} (h : g.length = 32) {i : Nat} (hi : i < 32) : (gS g i).set i (nth g i) = gS g (i + 1) := by
  unfold gS
  have l1 : (g.take i).length = i := by rw [List.length_take]; omega
  obtain ⟨m, hm⟩ : ∃ m, 32 - i = m + 1 := ⟨31 - i, by omega⟩
  have hm2 : 32 - (i + 1) = m := by omega
  rw [hm, hm2, List.set_append_right i (nth g i) (by omega), l1, Nat.sub_self, List.replicate_succ, List.set_cons_zero, take_succ_nth (by omega), List.append_assoc]
  rfl
theorem tcell_set (k : Nums) (y : List Int) (i : Nat) (x : Int) : (tcell k y).set (4 + i) (.int .u8 x) = tcell k (y.set i x) := by
  rw [Nat.add_comm]
  show _ = .int .u32 k.t :: .int .u32 k.u :: .int .u32 k.e :: .int .u64 k.x :: (y.set i x).map (Value.int .u8)
  rw [List.map_set]
  rfl
theorem build_tok0 (t u e x : Int) (W : World) : (Instr.build 27 #[(0, .int .u32 t), (1, .int .u32 u), (2, .int .u32 e), (3, .int .u64 x)]).run Try.prog W = .ok (.agg (.int .u32 t :: .int .u32 u :: .int .u32 e :: .int .u64 x :: zeroD.map (Value.int .u8)).toArray) W := by kernel_rfl

set_option maxRecDepth 100000 in
set_option maxHeartbeats 1600000 in
theorem rread_bad {v : Value} {bs : List Int} (w : World) (h1 : IsL w .u8 v bs) (hl : bs.length ≠ 52) : Calls Try.prog 5 #[v] w fun e w' => e = .returned (.tuple #[.agg zeroT.toArray, .int .i64 12]) ∧ Below w.heap.size w w' := by
  obtain ⟨a0, c0, rfl, hr, _⟩ := id h1
  have i1 := hr.room
  have i2 := hr.most
  have hx : Box (w.alloc (.cells zeroT.toArray 27)) w.heap.size zeroT := Box.newc rfl rfl
  have hB : Below w.heap.size w (w.alloc (.cells zeroT.toArray 27)) := by go_grown
  have d1 : ((bs.length : Int) != 52) = true := by simp; omega
  clear hr h1
  go_enter Try.func5, Try.ntmps5
  go_wp2_with (refine wpList_store_box (cs := zeroT) rfl _ _ _ rfl hx rfl rfl (size_tok _ z32) rfl (tcell_one _ _) ?_; intro w2 hW2)
  exact bodyPost_ret (results_box2 Try.results5 hW2.box rfl rfl Try.underlying27 rfl (size_tok _ z32)) rfl ⟨rfl, hW2.below _ _ (Nat.le_refl _) hB⟩

set_option maxRecDepth 100000 in
set_option maxHeartbeats 3200000 in
theorem rread_ok (k : Nums) {g : List Int} (hg : g.length = 32) {v : Value} (w : World) (h1 : IsL w .u8 v (k.msg ++ g)) : Calls Try.prog 5 #[v] w fun e w' => e = .returned (.tuple #[.agg (tcell k g).toArray, .int .i64 0]) ∧ Below w.heap.size w w' := by
  obtain ⟨c1, c2, c3, c4⟩ := k.cuts g
  have hm := k.msg_len
  have hl : (k.msg ++ g).length = 52 := by rw [List.length_append, hm, hg]
  have HN := Lib.hid (fun (i : Nat) => (show nth (k.msg ++ g) (20 + i) = nth g i by rw [nth_append_right (by omega), hm]; congr 1; omega))
  obtain ⟨Z, hZ⟩ : ∃ Z, k.msg ++ g = Z := ⟨_, rfl⟩
  rw [hZ] at c1 c2 c3 c4 hl HN h1
  have HZ := Lib.hid hl
  obtain ⟨a0, c0, rfl, hr, _⟩ := id h1
  have i1 := hr.room
  have i2 := hr.most
  obtain ⟨b, off, rfl, _⟩ := h1.get 0 (by omega)
  rw [hl] at i1 h1 ⊢
  have h2 : IsL w .u8 (.slice (some ⟨b, off, none⟩) Z.length c0) Z := by rw [hl]; exact h1
  have S1 := Lib.hid (show IsL w .u8 (.slice (some ⟨b, off, none⟩) 4 c0) (be 4 k.t) by rw [← c1]; exact h2.taken (by omega))
  have S2 := Lib.hid (show IsL w .u8 (.slice (some ⟨b, off + 4, none⟩) 4 (c0 - 4)) (be 4 k.u) by rw [← c2]; exact (h2.taken (m := 8) (by omega)).dropped (by rw [List.length_take]; omega) (by rw [List.length_take]; omega) rfl (Or.inl rfl))
  have S3 := Lib.hid (show IsL w .u8 (.slice (some ⟨b, off + 8, none⟩) 4 (c0 - 8)) (be 4 k.e) by rw [← c3]; exact (h2.taken (m := 12) (by omega)).dropped (by rw [List.length_take]; omega) (by rw [List.length_take]; omega) rfl (Or.inl rfl))
  have S4 := Lib.hid (show IsL w .u8 (.slice (some ⟨b, off + 12, none⟩) 8 (c0 - 12)) (be 8 k.x) by rw [← c4]; exact (h2.taken (m := 20) (by omega)).dropped (by rw [List.length_take]; omega) (by rw [List.length_take]; omega) rfl (Or.inl rfl))
  have HL := Lib.hid h2
  have N1 := fun (W : World) (v : Value) (h : IsL W .u8 v (be 4 k.t)) => rnum_is W h (by rw [be_len]; omega) (be_byts _ _)
  have N2 := fun (W : World) (v : Value) (h : IsL W .u8 v (be 4 k.u)) => rnum_is W h (by rw [be_len]; omega) (be_byts _ _)
  have N3 := fun (W : World) (v : Value) (h : IsL W .u8 v (be 4 k.e)) => rnum_is W h (by rw [be_len]; omega) (be_byts _ _)
  have N4 := fun (W : World) (v : Value) (h : IsL W .u8 v (be 8 k.x)) => rnum_is W h (by rw [be_len]; omega) (be_byts _ _)
  rw [num_be 4 k.t k.ht.1 (by have := k.ht.2; show k.t < 4294967296; omega)] at N1
  rw [num_be 4 k.u k.hu.1 (by have := k.hu.2; show k.u < 4294967296; omega)] at N2
  rw [num_be 4 k.e k.he.1 (by have := k.he.2; show k.e < 4294967296; omega)] at N3
  rw [num_be 8 k.x k.hx.1 (by have := k.hx.2; show k.x < 18446744073709551616; omega)] at N4
  have wt : IntKind.u32.wrap k.t = k.t := by have := k.ht; rw [IntKind.wrap_u32]; omega
  have wu : IntKind.u32.wrap k.u = k.u := by have := k.hu; rw [IntKind.wrap_u32]; omega
  have we : IntKind.u32.wrap k.e = k.e := by have := k.he; rw [IntKind.wrap_u32]; omega
  have j0 : ¬ c0 = 0 := by omega
  have j4 : ¬ c0 = 4 := by omega
  have j8 : ¬ c0 = 8 := by omega
  have j12 : ¬ c0 = 12 := by omega
  have q4 : (4 : Int) ≤ (c0 : Int) := by omega
  have q8 : (8 : Int) ≤ (c0 : Int) := by omega
  have q12 : (12 : Int) ≤ (c0 : Int) := by omega
  have q20 : (20 : Int) ≤ (c0 : Int) := by omega
  have HG := Lib.hid hg
  have BT := fun W => build_tok0 k.t k.u k.e k.x W
  have HV : tcell k zeroD = .int .u32 k.t :: .int .u32 k.u :: .int .u32 k.e :: .int .u64 k.x :: zeroD.map (Value.int .u8) := rfl
  rw [← HV] at BT
  have ST0 := Lib.hid (size_tok k z32)
  have OT0 := Lib.hid (tcell_one k zeroD)
  have LT0 := Lib.hid (len_tok Nums.zero k z32 z32)
  have ST := Lib.hid (size_tok k hg)
  have OT := Lib.hid (tcell_one k g)
  have LT := Lib.hid (len_tok Nums.zero k z32 hg)
  have G0 : Hid (tcell k (gS g 0) = tcell k zeroD) := Lib.hid rfl
  have GA := Lib.hid (show tcell k (gS g 32) = tcell k g by rw [gS_all hg])
  have GS := Lib.hid (fun (i : Nat) (hi : i < 32) => (show (tcell k (gS g i)).set (4 + i) (.int .u8 (nth g i)) = tcell k (gS g (i + 1)) by rw [tcell_set, gS_succ hg hi]))
  have GL := Lib.hid (fun (i : Nat) (hi : i ≤ 32) => tcell_len k (gS_len hg hi))
  obtain ⟨V0, hV0⟩ : ∃ V, tcell k zeroD = V := ⟨_, rfl⟩
  obtain ⟨V, hV⟩ : ∃ V, tcell k g = V := ⟨_, rfl⟩
  rw [hV0] at BT ST0 OT0 LT0 G0
  rw [hV] at ST OT LT GA ⊢
  have hx : Box (w.alloc (.cells zeroT.toArray 27)) w.heap.size zeroT := Box.newc rfl rfl
  have hB : Below w.heap.size w (w.alloc (.cells zeroT.toArray 27)) := by go_grown
  clear hr h1 h2 hm hl hg HV hV0 hV c1 c2 c3 c4 hZ
  go_enter Try.func5, Try.ntmps5
  go_upto_region 3 with fail
  go_cut [4] (fun p wx => ∃ b4 : Nat, p = .pointer (some ⟨b4, 0, none⟩) ∧ w.heap.size < b4 ∧ Box wx b4 V0 ∧ Box wx w.heap.size zeroT ∧ Below w.heap.size w wx)
  case first =>
    refine wp_region_held_drew (S := fun _ => True) (by kernel_rfl) trivial (fun _ => ?_)
    refine F_drew (F := fun W => wpAnyH _ _ _ _ _ _ _ _ W) ?_
    intro W0 hb0
    have hx0 := hx.below hb0; have hB0 := below_thru hB hb0
    clear hb0
    refine takeH 0 10 (v := ?vu0_1) rfl (by rfl) (by kernel_rfl) (by kernel_rfl) (by kernel_rfl) (fun _ _ _ h => h) (Or.inl ⟨by rfl, ?_⟩) (trivial) ?_
    rotate_left
    · intro wq hSq
      go_simp
      exact rfl
    try simp only [Act.put, List.setIfInBounds_toArray, List.set_cons_zero, List.set_cons_succ]
    refine takeH 1 11 (v := ?vu1_2) rfl (by rfl) (by kernel_rfl) (by kernel_rfl) (by kernel_rfl) (fun _ _ _ h => h) (Or.inl ⟨by rfl, ?_⟩) (trivial) ?_
    rotate_left
    · intro wq hSq
      go_simp
      exact rfl
    try simp only [Act.put, List.setIfInBounds_toArray, List.set_cons_zero, List.set_cons_succ]
    refine takeH 4 14 (v := ?vu4_3) rfl (by rfl) (by kernel_rfl) (by kernel_rfl) (by kernel_rfl) (fun _ _ _ h => h) (Or.inl ⟨by rfl, ?_⟩) (trivial) ?_
    rotate_left
    · intro wq hSq
      go_simp
      exact rfl
    try simp only [Act.put, List.setIfInBounds_toArray, List.set_cons_zero, List.set_cons_succ]
    refine takeH 5 15 (v := ?vu5_4) rfl (by rfl) (by kernel_rfl) (by kernel_rfl) (by kernel_rfl) (fun _ _ _ h => h) (Or.inl ⟨by rfl, ?_⟩) (trivial) ?_
    rotate_left
    · intro wq hSq
      go_simp
      exact rfl
    try simp only [Act.put, List.setIfInBounds_toArray, List.set_cons_zero, List.set_cons_succ]
    refine takeH 8 18 (v := ?vu8_5) rfl (by rfl) (by kernel_rfl) (by kernel_rfl) (by kernel_rfl) (fun _ _ _ h => h) (Or.inl ⟨by rfl, ?_⟩) (trivial) ?_
    rotate_left
    · intro wq hSq
      go_simp
      exact rfl
    try simp only [Act.put, List.setIfInBounds_toArray, List.set_cons_zero, List.set_cons_succ]
    refine takeH 9 19 (v := ?vu9_6) rfl (by rfl) (by kernel_rfl) (by kernel_rfl) (by kernel_rfl) (fun _ _ _ h => h) (Or.inl ⟨by rfl, ?_⟩) (trivial) ?_
    rotate_left
    · intro wq hSq
      go_simp
      exact rfl
    try simp only [Act.put, List.setIfInBounds_toArray, List.set_cons_zero, List.set_cons_succ]
    refine takeH 12 22 (v := ?vu12_7) rfl (by rfl) (by kernel_rfl) (by kernel_rfl) (by kernel_rfl) (fun _ _ _ h => h) (Or.inl ⟨by rfl, ?_⟩) (trivial) ?_
    rotate_left
    · intro wq hSq
      go_simp
      exact rfl
    try simp only [Act.put, List.setIfInBounds_toArray, List.set_cons_zero, List.set_cons_succ]
    refine takeH 13 23 (v := ?vu13_8) rfl (by rfl) (by kernel_rfl) (by kernel_rfl) (by kernel_rfl) (fun _ _ _ h => h) (Or.inl ⟨by rfl, ?_⟩) (trivial) ?_
    rotate_left
    · intro wq hSq
      go_simp
      exact rfl
    try simp only [Act.put, List.setIfInBounds_toArray, List.set_cons_zero, List.set_cons_succ]
    refine wpAnyH_ready (rs := [2, 16]) (by kernel_rfl) (by simp) (AllReadyH.cons rfl (fun K hK => ?_) (AllReadyH.cons rfl (fun K hK => ?_) AllReadyH.nil))
    · skip
      go_simp
      refine (N1 _ _ (S1.out.below hB0)).mono ?_
      rintro e W9 ⟨rfl, hb9⟩
      have hx9 := Box.below hx0 hb9; have hB9 := below_thru hB0 hb9
      refine hK.out _ _ trivial (fun _ => ?_); clear hK K
      refine takeH 3 13 (v := ?vu3_10) rfl (by rfl) (by kernel_rfl) (by kernel_rfl) (by kernel_rfl) (fun _ _ _ h => h) (Or.inl ⟨by rfl, ?_⟩) (trivial) ?_
      rotate_left
      · intro wq hSq
        go_simp
        exact rfl
      try simp only [Act.put, List.setIfInBounds_toArray, List.set_cons_zero, List.set_cons_succ]
      refine wpAnyH_ready (rs := [6, 16]) (by kernel_rfl) (by simp) (AllReadyH.cons rfl (fun K hK => ?_) (AllReadyH.cons rfl (fun K hK => ?_) AllReadyH.nil))
      · skip
        go_simp
        refine (N2 _ _ (S2.out.below hB9)).mono ?_
        rintro e W11 ⟨rfl, hb11⟩
        have hx11 := Box.below hx9 hb11; have hB11 := below_thru hB9 hb11
        refine hK.out _ _ trivial (fun _ => ?_); clear hK K
        refine takeH 7 17 (v := ?vu7_12) rfl (by rfl) (by kernel_rfl) (by kernel_rfl) (by kernel_rfl) (fun _ _ _ h => h) (Or.inl ⟨by rfl, ?_⟩) (trivial) ?_
        rotate_left
        · intro wq hSq
          go_simp
          exact rfl
        try simp only [Act.put, List.setIfInBounds_toArray, List.set_cons_zero, List.set_cons_succ]
        refine wpAnyH_ready (rs := [10, 16]) (by kernel_rfl) (by simp) (AllReadyH.cons rfl (fun K hK => ?_) (AllReadyH.cons rfl (fun K hK => ?_) AllReadyH.nil))
        · skip
          go_simp
          refine (N3 _ _ (S3.out.below hB11)).mono ?_
          rintro e W13 ⟨rfl, hb13⟩
          have hx13 := Box.below hx11 hb13; have hB13 := below_thru hB11 hb13
          refine hK.out _ _ trivial (fun _ => ?_); clear hK K
          refine takeH 11 21 (v := ?vu11_14) rfl (by rfl) (by kernel_rfl) (by kernel_rfl) (by kernel_rfl) (fun _ _ _ h => h) (Or.inl ⟨by rfl, ?_⟩) (trivial) ?_
          rotate_left
          · intro wq hSq
            go_simp
            exact rfl
          try simp only [Act.put, List.setIfInBounds_toArray, List.set_cons_zero, List.set_cons_succ]
          refine wpAnyH_ready (rs := [14, 16]) (by kernel_rfl) (by simp) (AllReadyH.cons rfl (fun K hK => ?_) (AllReadyH.cons rfl (fun K hK => ?_) AllReadyH.nil))
          · skip
            go_simp
            refine (N4 _ _ (S4.out.below hB13)).mono ?_
            rintro e W15 ⟨rfl, hb15⟩
            have hx15 := Box.below hx13 hb15; have hB15 := below_thru hB13 hb15
            refine hK.out _ _ trivial (fun _ => ?_); clear hK K
            refine takeH 15 25 (v := .agg V0.toArray) rfl (by rfl) (by kernel_rfl) (by kernel_rfl) (by kernel_rfl) (fun _ _ _ h => h) (yieldsIf_build (by rfl) _ _ rfl (us := #[(0, .int .u32 k.t), (1, .int .u32 k.u), (2, .int .u32 k.e), (3, .int .u64 k.x)]) (by rfl) BT) (trivial) ?_
            try simp only [Act.put, List.setIfInBounds_toArray, List.set_cons_zero, List.set_cons_succ]
            refine wpAnyH_ready (rs := [16]) (by kernel_rfl) (by simp) (AllReadyH.cons rfl (fun K hK => ?_) AllReadyH.nil)
            go_simp
            refine hK.out _ _ trivial (fun _ => ?_); clear hK K
            have zz := Box.lt hx15
            refine F_alloc (F := fun W => wpAnyH _ _ _ _ _ _ _ _ W) zeroT rfl ?_
            intro W16 ht16 hb16
            have hx16 := Box.below hx15 hb16; have hB16 := below_thru hB15 hb16
            obtain ⟨b4, hb4⟩ : ∃ b, W15.heap.size = b := ⟨_, rfl⟩
            rw [hb4] at ht16 ⊢
            rw [hb4] at zz
            clear hb4
            refine wpAnyH_ready (rs := [17]) (by kernel_rfl) (by simp) (AllReadyH.cons rfl (fun K hK => ?_) AllReadyH.nil)
            refine step_store_box0 rfl rfl _ _ _ rfl ht16 rfl rfl ST0.out LT0.out OT0.out (fun W17 hW => ?_)
            have hR := hW.past _ _ (by omega) hx16; have hBT := hW.below _ _ (by omega) hB16; have hT := hW.box
            refine hK.out _ _ trivial (fun _ => ?_); clear hK K
            refine wpAnyH_done (by kernel_rfl) ?_ _
            go_wp2_with fail
            go_meet
            exact ⟨b4, rfl, zz, hT, hR, hBT⟩
          · skip
            go_simp
            refine hK.out _ _ trivial (fun _ => ?_); clear hK K
            have zz := Box.lt hx13
            refine F_alloc (F := fun W => wpAnyH _ _ _ _ _ _ _ _ W) zeroT rfl ?_
            intro W18 ht18 hb18
            have hx18 := Box.below hx13 hb18; have hB18 := below_thru hB13 hb18
            obtain ⟨b4, hb4⟩ : ∃ b, W13.heap.size = b := ⟨_, rfl⟩
            rw [hb4] at ht18 ⊢
            rw [hb4] at zz
            clear hb4
            refine wpAnyH_ready (rs := [14]) (by kernel_rfl) (by simp) (AllReadyH.cons rfl (fun K hK => ?_) AllReadyH.nil)
            go_simp
            refine (N4 _ _ (S4.out.below hB18)).mono ?_
            rintro e W19 ⟨rfl, hb19⟩
            have hx19 := Box.below hx18 hb19; have hB19 := below_thru hB18 hb19
            refine hK.out _ _ trivial (fun _ => ?_); clear hK K
            have ht19 := Box.below ht18 hb19
            refine takeH 15 25 (v := .agg V0.toArray) rfl (by rfl) (by kernel_rfl) (by kernel_rfl) (by kernel_rfl) (fun _ _ _ h => h) (yieldsIf_build (by rfl) _ _ rfl (us := #[(0, .int .u32 k.t), (1, .int .u32 k.u), (2, .int .u32 k.e), (3, .int .u64 k.x)]) (by rfl) BT) (trivial) ?_
            try simp only [Act.put, List.setIfInBounds_toArray, List.set_cons_zero, List.set_cons_succ]
            refine wpAnyH_ready (rs := [17]) (by kernel_rfl) (by simp) (AllReadyH.cons rfl (fun K hK => ?_) AllReadyH.nil)
            refine step_store_box0 rfl rfl _ _ _ rfl ht19 rfl rfl ST0.out LT0.out OT0.out (fun W20 hW => ?_)
            have hR := hW.past _ _ (by omega) hx19; have hBT := hW.below _ _ (by omega) hB19; have hT := hW.box
            refine hK.out _ _ trivial (fun _ => ?_); clear hK K
            refine wpAnyH_done (by kernel_rfl) ?_ _
            go_wp2_with fail
            go_meet
            exact ⟨b4, rfl, zz, hT, hR, hBT⟩
        · skip
          go_simp
          refine hK.out _ _ trivial (fun _ => ?_); clear hK K
          have zz := Box.lt hx11
          refine F_alloc (F := fun W => wpAnyH _ _ _ _ _ _ _ _ W) zeroT rfl ?_
          intro W21 ht21 hb21
          have hx21 := Box.below hx11 hb21; have hB21 := below_thru hB11 hb21
          obtain ⟨b4, hb4⟩ : ∃ b, W11.heap.size = b := ⟨_, rfl⟩
          rw [hb4] at ht21 ⊢
          rw [hb4] at zz
          clear hb4
          refine wpAnyH_ready (rs := [10]) (by kernel_rfl) (by simp) (AllReadyH.cons rfl (fun K hK => ?_) AllReadyH.nil)
          go_simp
          refine (N3 _ _ (S3.out.below hB21)).mono ?_
          rintro e W22 ⟨rfl, hb22⟩
          have hx22 := Box.below hx21 hb22; have hB22 := below_thru hB21 hb22
          refine hK.out _ _ trivial (fun _ => ?_); clear hK K
          have ht22 := Box.below ht21 hb22
          refine takeH 11 21 (v := ?vu11_23) rfl (by rfl) (by kernel_rfl) (by kernel_rfl) (by kernel_rfl) (fun _ _ _ h => h) (Or.inl ⟨by rfl, ?_⟩) (trivial) ?_
          rotate_left
          · intro wq hSq
            go_simp
            exact rfl
          try simp only [Act.put, List.setIfInBounds_toArray, List.set_cons_zero, List.set_cons_succ]
          refine wpAnyH_ready (rs := [14]) (by kernel_rfl) (by simp) (AllReadyH.cons rfl (fun K hK => ?_) AllReadyH.nil)
          go_simp
          refine (N4 _ _ (S4.out.below hB22)).mono ?_
          rintro e W24 ⟨rfl, hb24⟩
          have hx24 := Box.below hx22 hb24; have hB24 := below_thru hB22 hb24
          refine hK.out _ _ trivial (fun _ => ?_); clear hK K
          have ht24 := Box.below ht22 hb24
          refine takeH 15 25 (v := .agg V0.toArray) rfl (by rfl) (by kernel_rfl) (by kernel_rfl) (by kernel_rfl) (fun _ _ _ h => h) (yieldsIf_build (by rfl) _ _ rfl (us := #[(0, .int .u32 k.t), (1, .int .u32 k.u), (2, .int .u32 k.e), (3, .int .u64 k.x)]) (by rfl) BT) (trivial) ?_
          try simp only [Act.put, List.setIfInBounds_toArray, List.set_cons_zero, List.set_cons_succ]
          refine wpAnyH_ready (rs := [17]) (by kernel_rfl) (by simp) (AllReadyH.cons rfl (fun K hK => ?_) AllReadyH.nil)
          refine step_store_box0 rfl rfl _ _ _ rfl ht24 rfl rfl ST0.out LT0.out OT0.out (fun W25 hW => ?_)
          have hR := hW.past _ _ (by omega) hx24; have hBT := hW.below _ _ (by omega) hB24; have hT := hW.box
          refine hK.out _ _ trivial (fun _ => ?_); clear hK K
          refine wpAnyH_done (by kernel_rfl) ?_ _
          go_wp2_with fail
          go_meet
          exact ⟨b4, rfl, zz, hT, hR, hBT⟩
      · skip
        go_simp
        refine hK.out _ _ trivial (fun _ => ?_); clear hK K
        have zz := Box.lt hx9
        refine F_alloc (F := fun W => wpAnyH _ _ _ _ _ _ _ _ W) zeroT rfl ?_
        intro W26 ht26 hb26
        have hx26 := Box.below hx9 hb26; have hB26 := below_thru hB9 hb26
        obtain ⟨b4, hb4⟩ : ∃ b, W9.heap.size = b := ⟨_, rfl⟩
        rw [hb4] at ht26 ⊢
        rw [hb4] at zz
        clear hb4
        refine wpAnyH_ready (rs := [6]) (by kernel_rfl) (by simp) (AllReadyH.cons rfl (fun K hK => ?_) AllReadyH.nil)
        go_simp
        refine (N2 _ _ (S2.out.below hB26)).mono ?_
        rintro e W27 ⟨rfl, hb27⟩
        have hx27 := Box.below hx26 hb27; have hB27 := below_thru hB26 hb27
        refine hK.out _ _ trivial (fun _ => ?_); clear hK K
        have ht27 := Box.below ht26 hb27
        refine takeH 7 17 (v := ?vu7_28) rfl (by rfl) (by kernel_rfl) (by kernel_rfl) (by kernel_rfl) (fun _ _ _ h => h) (Or.inl ⟨by rfl, ?_⟩) (trivial) ?_
        rotate_left
        · intro wq hSq
          go_simp
          exact rfl
        try simp only [Act.put, List.setIfInBounds_toArray, List.set_cons_zero, List.set_cons_succ]
        refine wpAnyH_ready (rs := [10]) (by kernel_rfl) (by simp) (AllReadyH.cons rfl (fun K hK => ?_) AllReadyH.nil)
        go_simp
        refine (N3 _ _ (S3.out.below hB27)).mono ?_
        rintro e W29 ⟨rfl, hb29⟩
        have hx29 := Box.below hx27 hb29; have hB29 := below_thru hB27 hb29
        refine hK.out _ _ trivial (fun _ => ?_); clear hK K
        have ht29 := Box.below ht27 hb29
        refine takeH 11 21 (v := ?vu11_30) rfl (by rfl) (by kernel_rfl) (by kernel_rfl) (by kernel_rfl) (fun _ _ _ h => h) (Or.inl ⟨by rfl, ?_⟩) (trivial) ?_
        rotate_left
        · intro wq hSq
          go_simp
          exact rfl
        try simp only [Act.put, List.setIfInBounds_toArray, List.set_cons_zero, List.set_cons_succ]
        refine wpAnyH_ready (rs := [14]) (by kernel_rfl) (by simp) (AllReadyH.cons rfl (fun K hK => ?_) AllReadyH.nil)
        go_simp
        refine (N4 _ _ (S4.out.below hB29)).mono ?_
        rintro e W31 ⟨rfl, hb31⟩
        have hx31 := Box.below hx29 hb31; have hB31 := below_thru hB29 hb31
        refine hK.out _ _ trivial (fun _ => ?_); clear hK K
        have ht31 := Box.below ht29 hb31
        refine takeH 15 25 (v := .agg V0.toArray) rfl (by rfl) (by kernel_rfl) (by kernel_rfl) (by kernel_rfl) (fun _ _ _ h => h) (yieldsIf_build (by rfl) _ _ rfl (us := #[(0, .int .u32 k.t), (1, .int .u32 k.u), (2, .int .u32 k.e), (3, .int .u64 k.x)]) (by rfl) BT) (trivial) ?_
        try simp only [Act.put, List.setIfInBounds_toArray, List.set_cons_zero, List.set_cons_succ]
        refine wpAnyH_ready (rs := [17]) (by kernel_rfl) (by simp) (AllReadyH.cons rfl (fun K hK => ?_) AllReadyH.nil)
        refine step_store_box0 rfl rfl _ _ _ rfl ht31 rfl rfl ST0.out LT0.out OT0.out (fun W32 hW => ?_)
        have hR := hW.past _ _ (by omega) hx31; have hBT := hW.below _ _ (by omega) hB31; have hT := hW.box
        refine hK.out _ _ trivial (fun _ => ?_); clear hK K
        refine wpAnyH_done (by kernel_rfl) ?_ _
        go_wp2_with fail
        go_meet
        exact ⟨b4, rfl, zz, hT, hR, hBT⟩
    · skip
      go_simp
      refine hK.out _ _ trivial (fun _ => ?_); clear hK K
      have zz := Box.lt hx0
      refine F_alloc (F := fun W => wpAnyH _ _ _ _ _ _ _ _ W) zeroT rfl ?_
      intro W33 ht33 hb33
      have hx33 := Box.below hx0 hb33; have hB33 := below_thru hB0 hb33
      obtain ⟨b4, hb4⟩ : ∃ b, W0.heap.size = b := ⟨_, rfl⟩
      rw [hb4] at ht33 ⊢
      rw [hb4] at zz
      clear hb4
      refine wpAnyH_ready (rs := [2]) (by kernel_rfl) (by simp) (AllReadyH.cons rfl (fun K hK => ?_) AllReadyH.nil)
      go_simp
      refine (N1 _ _ (S1.out.below hB33)).mono ?_
      rintro e W34 ⟨rfl, hb34⟩
      have hx34 := Box.below hx33 hb34; have hB34 := below_thru hB33 hb34
      refine hK.out _ _ trivial (fun _ => ?_); clear hK K
      have ht34 := Box.below ht33 hb34
      refine takeH 3 13 (v := ?vu3_35) rfl (by rfl) (by kernel_rfl) (by kernel_rfl) (by kernel_rfl) (fun _ _ _ h => h) (Or.inl ⟨by rfl, ?_⟩) (trivial) ?_
      rotate_left
      · intro wq hSq
        go_simp
        exact rfl
      try simp only [Act.put, List.setIfInBounds_toArray, List.set_cons_zero, List.set_cons_succ]
      refine wpAnyH_ready (rs := [6]) (by kernel_rfl) (by simp) (AllReadyH.cons rfl (fun K hK => ?_) AllReadyH.nil)
      go_simp
      refine (N2 _ _ (S2.out.below hB34)).mono ?_
      rintro e W36 ⟨rfl, hb36⟩
      have hx36 := Box.below hx34 hb36; have hB36 := below_thru hB34 hb36
      refine hK.out _ _ trivial (fun _ => ?_); clear hK K
      have ht36 := Box.below ht34 hb36
      refine takeH 7 17 (v := ?vu7_37) rfl (by rfl) (by kernel_rfl) (by kernel_rfl) (by kernel_rfl) (fun _ _ _ h => h) (Or.inl ⟨by rfl, ?_⟩) (trivial) ?_
      rotate_left
      · intro wq hSq
        go_simp
        exact rfl
      try simp only [Act.put, List.setIfInBounds_toArray, List.set_cons_zero, List.set_cons_succ]
      refine wpAnyH_ready (rs := [10]) (by kernel_rfl) (by simp) (AllReadyH.cons rfl (fun K hK => ?_) AllReadyH.nil)
      go_simp
      refine (N3 _ _ (S3.out.below hB36)).mono ?_
      rintro e W38 ⟨rfl, hb38⟩
      have hx38 := Box.below hx36 hb38; have hB38 := below_thru hB36 hb38
      refine hK.out _ _ trivial (fun _ => ?_); clear hK K
      have ht38 := Box.below ht36 hb38
      refine takeH 11 21 (v := ?vu11_39) rfl (by rfl) (by kernel_rfl) (by kernel_rfl) (by kernel_rfl) (fun _ _ _ h => h) (Or.inl ⟨by rfl, ?_⟩) (trivial) ?_
      rotate_left
      · intro wq hSq
        go_simp
        exact rfl
      try simp only [Act.put, List.setIfInBounds_toArray, List.set_cons_zero, List.set_cons_succ]
      refine wpAnyH_ready (rs := [14]) (by kernel_rfl) (by simp) (AllReadyH.cons rfl (fun K hK => ?_) AllReadyH.nil)
      go_simp
      refine (N4 _ _ (S4.out.below hB38)).mono ?_
      rintro e W40 ⟨rfl, hb40⟩
      have hx40 := Box.below hx38 hb40; have hB40 := below_thru hB38 hb40
      refine hK.out _ _ trivial (fun _ => ?_); clear hK K
      have ht40 := Box.below ht38 hb40
      refine takeH 15 25 (v := .agg V0.toArray) rfl (by rfl) (by kernel_rfl) (by kernel_rfl) (by kernel_rfl) (fun _ _ _ h => h) (yieldsIf_build (by rfl) _ _ rfl (us := #[(0, .int .u32 k.t), (1, .int .u32 k.u), (2, .int .u32 k.e), (3, .int .u64 k.x)]) (by rfl) BT) (trivial) ?_
      try simp only [Act.put, List.setIfInBounds_toArray, List.set_cons_zero, List.set_cons_succ]
      refine wpAnyH_ready (rs := [17]) (by kernel_rfl) (by simp) (AllReadyH.cons rfl (fun K hK => ?_) AllReadyH.nil)
      refine step_store_box0 rfl rfl _ _ _ rfl ht40 rfl rfl ST0.out LT0.out OT0.out (fun W41 hW => ?_)
      have hR := hW.past _ _ (by omega) hx40; have hBT := hW.below _ _ (by omega) hB40; have hT := hW.box
      refine hK.out _ _ trivial (fun _ => ?_); clear hK K
      refine wpAnyH_done (by kernel_rfl) ?_ _
      go_wp2_with fail
      go_meet
      exact ⟨b4, rfl, zz, hT, hR, hBT⟩

  case rest =>
    obtain ⟨b4, rfl, zz, hT, hR, hBT⟩ := hcut
    obtain ⟨W3, rfl⟩ : ∃ u : World, u = wc := ⟨_, rfl⟩
    clear hx hB
    go_wp2_with fail
    go_loopw [5] (fun s5 wr => ∃ i : Nat, s5 = .int .i64 i ∧ i ≤ 32 ∧ Box wr b4 (tcell k (gS g i)) ∧ Box wr w.heap.size zeroT ∧ Below w.heap.size w wr) (fun s5 _ => 32 - (intOf s5).toNat)
    case atStart => exact ⟨0, rfl, by omega, by rw [G0.out]; exact hT, hR, hBT⟩
    case round =>
      clear hT hR hBT
      obtain ⟨i, rfl, hi, hT, hR, hB⟩ := hrel
      have z1 := hT.lt
      have z2 := hR.lt
      by_cases hlt : i < 32
      · obtain ⟨b5, o5, e5, hc⟩ := HL.out.get (20 + i) (by have := HZ.out; omega)
        cases e5
        rw [HN.out] at hc
        have hc := cell_below hB hc
        have zc := lt_of_cell hc
        have S := Lib.hid (GS.out i hlt)
        obtain ⟨u, hu⟩ : ∃ u, (tcell k (gS g i))[4 + i]? = some u := ⟨_, List.getElem?_eq_getElem (by have := GL.out i hi; omega)⟩
        have cs := hT.c (4 + i) _ hu
        have cf := hT.f (4 + i) _ hu
        obtain ⟨x, hx⟩ : ∃ x, nth g i = x := ⟨_, rfl⟩
        rw [hx] at hc S
        have i3 : (i : Int) < 32 := by omega
        have i4 : (0 : Int) ≤ (i : Int) := by omega
        have i5 : (20 : Int) + (i : Int) < 52 := by omega
        clear hx hu
        go_wp2_with fail
        go_roundw
        case rel =>
          refine ⟨i + 1, by go_num, by omega, ?_, hR.other (by show b4 ≠ w.heap.size; omega) _, hB.setCell (show w.heap.size ≤ b4 by omega) _⟩
          rw [← S.out]
          exact hT.set (4 + i) _
        case measure => simp [intOf]; omega
      · obtain rfl : i = 32 := by omega
        rw [GA.out] at hT
        go_wp2_with (first
          | (refine wpList_load_box rfl _ _ rfl hT rfl Try.underlying27 rfl ST.out ?_)
          | (refine wpList_store_box (cs := V) rfl _ _ _ rfl hR rfl rfl ST.out LT.out OT.out ?_; intro W3 hW3))
        exact bodyPost_ret (results_box2 Try.results5 hW3.box rfl rfl Try.underlying27 rfl ST.out) rfl ⟨rfl, hW3.below _ _ (Nat.le_refl _) hB⟩

end Go.Proofs.Ytlbbedknldmcpaa
