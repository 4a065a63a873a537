/-
  Token's reference: its messages.
  Token's reference, walked: Bytes, the tag for a token, Mint, Verify, Valid.
-/
import Derived.Test.YtofjpeplgagihaaDoorGT1
import Derived.Test.YtofjpeplgagihaaDoorGF2
import Derived.Test.YtofjpeplgagihaaDoorGT3
import Derived.Test.YtofjpeplgagihaaDoorGR2

namespace Go.Proofs.YtofjpeplgagihaaDoor
open Go.RowKit

set_option maxRecDepth 100000 in
set_option maxHeartbeats 1600000 in
theorem rbytes_own (n : Int) (m : Nat) (w : World) (h0 : 0 ≤ n) (h1 : n ≤ 18446744073709551615) (hm : m ≤ 8) : Calls Tryd.prog 48 #[.int .u64 n, .int .i64 m] w (GivesOwn (be m n) w) := by
  have _ := h1
  obtain ⟨ti, hin, hz0, hz1, hz2⟩ := info_parts info_u8'
  go_enter Tryd.func48, Tryd.ntmps48
  go_wp2_with fail
  go_loopw [5, 6] (fun s5 s6 wr => ∃ (i j : Nat), s6 = .int .i64 ((i : Int) - 1) ∧ Hid (m = j + i) ∧ i ≤ m ∧ Hid (wr.ownsRow w.heap.size 5 1 s5 j (((be m n).take j).map (Value.int .u8))) ∧ Below w.heap.size w wr) (fun _ s6 _ => (intOf s6 + 1).toNat)
  case atStart => exact ⟨m, 0, rfl, Lib.hid (by omega), Nat.le_refl _, Lib.hid (by simpa using ownU_nil), by go_grown⟩
  case round =>
    obtain ⟨i, j, rfl, HMJ, him, HO, hB⟩ := hrel
    have hs := hB.size
    cases i with
    | zero =>
      have HX := Lib.hid (show (be m n).take j = be m n from List.take_of_length_le (by rw [be_len]; have := HMJ.out; omega))
      have d1 : ((0 : Nat) : Int) - 1 = -1 := rfl
      rw [d1]
      go_wp2_with fail
      go_returns
      refine ⟨_, rfl, ?_, hB⟩
      have h1 := HO.out
      rw [HX.out, show j = (be m n).length by rw [be_len]; have := HMJ.out; omega] at h1
      exact h1
    | succ i =>
      have d1 : ((i + 1 : Nat) : Int) - 1 = (i : Int) := by omega
      rw [d1]
      have HT := Lib.hid (be_take_succ m n j i HMJ.out h0)
      have hjm : j + 1 ≤ 8 := by have := HMJ.out; omega
      have HO2 := Lib.hid (fun (x : Int) => ownR_below HO.out ((Below.refl wr.heap.size wr).alloc (Nat.le_refl _) (.cells #[.int .u8 x] 5)))
      go_wp2_with (at_builtin; refine wpList_append_ints rfl _ _ 62 rfl w.heap.size 5 ti (.int .u8 0) 1 .u8 Tryd.underlying62 hin hz0 hz1 hz2 rfl _ j _ rfl (HO2.out _) _ 1 [n / 2 ^ (8 * i) % 256] rfl ((IsL.built [n / 2 ^ (8 * i) % 256] rfl rfl rfl rfl (by simp)).ints) (fun h => by cases h) (by unfold maxLen; simp; omega) (by simp; omega) (by simp; omega) ?_; intro v4 w4 hown4 hgrow4)
      have hB4 : Below w.heap.size w w4 := (hB.alloc hs _).grown hgrow4 (by simp; omega) (own_block (HO2.out (n / 2 ^ (8 * i) % 256)))
      have HO4 := Lib.hid (show w4.ownsRow w.heap.size 5 1 v4 (j + 1) (((be m n).take (j + 1)).map (Value.int .u8)) by rw [HT.out, List.map_append]; exact hown4)
      clear hown4 hgrow4 HO2 HO
      go_wp2_with fail
      go_roundw
      case rel => exact ⟨i, j + 1, rfl, Lib.hid (by have := HMJ.out; omega), by omega, HO4, hB4⟩
      case measure => simp [intOf]

theorem Box.keepR {w w' : World} {b B : Nat} {vs : List Value} (h : Box w b vs) (hb : Below B w w') (hB : b < B) : Box w' b vs := by
  have hh := hb.block b hB
  exact ⟨fun i v e => by have := h.c i v e; simpa [World.cell?, hh] using this, fun i v e => by have := h.f i v e; simpa [World.frozen?, hh] using this, Nat.lt_of_lt_of_le h.lt hb.size⟩
theorem Box.upR {w w' : World} {b B : Nat} {vs : List Value} (h : Box w b vs) (hb : Below B w w') (hB : b < B) : Box w' b vs ∧ b < w'.heap.size := ⟨h.keepR hb hB, (h.keepR hb hB).lt⟩
theorem step_append_ints {P : Program} {w : World} {ops : Array Oper} {o : Oper} {a : Act} {K : Act → World → Prop} {Q : Exit → Act → World → Prop} {E : Prop} (d : Nat) (hd : o.dst = some d) (hgd : o.guard = none) (s x : Operand) (t : TypeId)
    (ho : o.op = .call { callee := .builtin .append, args := #[s, x], argTypes := #[t, t] })
    (base : Nat) (e : TypeId) (i : TypeInfo) (z : Value) (bytes : Nat) (k : IntKind) (ht : P.underlying t = some (.slice e)) (hi : P.info? e = some i) (hz : i.zero = some z)
    (hsize : i.size = 1) (hby : i.bytes = bytes) (hzs : z.cells.size = 1)
    (v : Value) (n : Nat) (l : List Value) (hs : a.eval s = v) (hown : w.ownsRow base e 1 v n l)
    (v2 : Value) (xs : List Int) (hx : a.eval x = v2) (hin : IsL w k v2 xs)
    (h63 : n + xs.length ≤ maxLen) (hbytes : (n + xs.length) * bytes ≤ 140737488355328) (hbase : base ≤ w.heap.size)
    (h : ∀ v' w', w'.ownsRow base e 1 v' (n + xs.length) (l ++ xs.map (Value.int k)) → Below base w w' → K (a.put (some d) v') w') : if Region.wanted o (yielded ops a.tmps) = true then Oper.wp P o a w K Q else E := by
  rw [if_pos (by simp [Region.wanted, hgd])]
  obtain ⟨at0, cap, rfl, h2, h0⟩ := hin
  exact wp_append_ints s x t ho base e i z bytes k ht hi hz hsize hby hzs v n l hs hown at0 cap xs hx h2 h0 h63 hbytes hbase fun v' w' h1 h2 => by rw [hd]; exact h v' w' h1 ((Below.refl _ w).grown h2 hbase (own_block hown))

set_option maxRecDepth 100000 in
set_option maxHeartbeats 3200000 in
theorem rmsg_is (k : Nums) {g : List Int} (w : World) : Calls Tryd.prog 66 #[.agg (tcell k g).toArray] w (GivesOwn k.msg w) := by
  obtain ⟨ti, hin, hz0, hz1, hz2⟩ := info_parts info_u8'
  have ht0 := k.ht.1
  have ht1 := k.ht.2
  have hu0 := k.hu.1
  have hu1 := k.hu.2
  have he0 := k.he.1
  have he1 := k.he.2
  have wt : IntKind.u64.wrap k.t = k.t := by rw [IntKind.wrap_u64]; omega
  have wu : IntKind.u64.wrap k.u = k.u := by rw [IntKind.wrap_u64]; omega
  have we : IntKind.u64.wrap k.e = k.e := by rw [IntKind.wrap_u64]; omega
  have A1 := fun W => rbytes_own k.t 4 W ht0 (by omega) (by omega)
  have A2 := fun W => rbytes_own k.u 4 W hu0 (by omega) (by omega)
  have A3 := fun W => rbytes_own k.e 4 W he0 (by omega) (by omega)
  have A4 := fun W => rbytes_own k.x 8 W k.hx.1 k.hx.2 (by omega)
  have l1 := be_len 4 k.t
  have l2 := be_len 4 k.u
  have l3 := be_len 4 k.e
  have l4 := be_len 8 k.x
  have HM : Hid (k.msg = be 4 k.t ++ (be 4 k.u ++ (be 4 k.e ++ be 8 k.x))) := Lib.hid rfl
  obtain ⟨T, e1⟩ : ∃ T, be 4 k.t = T := ⟨_, rfl⟩
  obtain ⟨U, e2⟩ : ∃ T, be 4 k.u = T := ⟨_, rfl⟩
  obtain ⟨E, e3⟩ : ∃ T, be 4 k.e = T := ⟨_, rfl⟩
  obtain ⟨X, e4⟩ : ∃ T, be 8 k.x = T := ⟨_, rfl⟩
  rw [e1] at A1 l1 HM
  rw [e2] at A2 l2 HM
  rw [e3] at A3 l3 HM
  rw [e4] at A4 l4 HM
  have L1 := Lib.hid l1
  have L2 := Lib.hid l2
  have L3 := Lib.hid l3
  have L4 := Lib.hid l4
  obtain ⟨M, hM⟩ : ∃ M, k.msg = M := ⟨_, rfl⟩
  rw [hM] at HM ⊢
  obtain ⟨V, hV⟩ : ∃ V, tcell k g = V := ⟨_, rfl⟩
  have v0 : V[0]? = some (.int .u32 k.t) := by rw [← hV]; rfl
  have v1 : V[1]? = some (.int .u32 k.u) := by rw [← hV]; rfl
  have v2 : V[2]? = some (.int .u32 k.e) := by rw [← hV]; rfl
  have v3 : V[3]? = some (.int .u64 k.x) := by rw [← hV]; rfl
  rw [hV]
  clear hV hM l1 l2 l3 l4 e1 e2 e3 e4 ht0 ht1 hu0 hu1 he0 he1
  have hx : Box (w.alloc (.cells V.toArray 30)) w.heap.size V := Box.newc rfl rfl
  have hB : Below w.heap.size w (w.alloc (.cells V.toArray 30)) := by go_grown
  go_enter Tryd.func66, Tryd.ntmps66
  go_upto_region 1 with fail
  refine wp_region_held_drew (S := fun w' => Box w' w.heap.size V) (by kernel_rfl) (hx.drew) (fun _ => ?_)
  refine F_drew (F := fun W => wpAnyH _ _ _ _ _ _ _ _ W) ?_
  intro W0 hb0
  have hx0 := hx.below hb0; have hB0 := below_thru hB hb0; have hL0 := Below.refl W0.heap.size W0; have hl0 := hL0.size; have sz0 := hx0.lt
  clear hx hB hb0
  refine takeH 0 4 (v := ?vs0_1) rfl (by rfl) (by kernel_rfl) (by kernel_rfl) (by kernel_rfl) (fun _ _ _ h => h) (Or.inl ⟨by rfl, ?_⟩) (hx0) ?_
  rotate_left
  · intro wq hSq
    go_simp
    exact rfl
  try simp only [Act.put, List.setIfInBounds_toArray, List.set_cons_zero, List.set_cons_succ]
  refine takeH 1 5 (v := ?vs1_2) rfl (by rfl) (by kernel_rfl) (by kernel_rfl) (by kernel_rfl) (fun _ _ _ h => h) (Or.inl ⟨by rfl, ?_⟩) (hx0) ?_
  rotate_left
  · intro wq hSq
    have cq := hSq.c 0 _ v0
    have zq := lt_of_cell cq
    go_simp
    exact rfl
  try simp only [Act.put, List.setIfInBounds_toArray, List.set_cons_zero, List.set_cons_succ]
  refine takeH 2 6 (v := ?vs2_3) rfl (by rfl) (by kernel_rfl) (by kernel_rfl) (by kernel_rfl) (fun _ _ _ h => h) (Or.inl ⟨by rfl, ?_⟩) (hx0) ?_
  rotate_left
  · intro wq hSq
    go_simp
    exact rfl
  try simp only [Act.put, List.setIfInBounds_toArray, List.set_cons_zero, List.set_cons_succ]
  refine takeH 4 8 (v := ?vs4_4) rfl (by rfl) (by kernel_rfl) (by kernel_rfl) (by kernel_rfl) (fun _ _ _ h => h) (Or.inl ⟨by rfl, ?_⟩) (hx0) ?_
  rotate_left
  · intro wq hSq
    go_simp
    exact rfl
  try simp only [Act.put, List.setIfInBounds_toArray, List.set_cons_zero, List.set_cons_succ]
  refine takeH 5 9 (v := ?vs5_5) rfl (by rfl) (by kernel_rfl) (by kernel_rfl) (by kernel_rfl) (fun _ _ _ h => h) (Or.inl ⟨by rfl, ?_⟩) (hx0) ?_
  rotate_left
  · intro wq hSq
    have cq := hSq.c 1 _ v1
    have zq := lt_of_cell cq
    go_simp
    exact rfl
  try simp only [Act.put, List.setIfInBounds_toArray, List.set_cons_zero, List.set_cons_succ]
  refine takeH 6 10 (v := ?vs6_6) rfl (by rfl) (by kernel_rfl) (by kernel_rfl) (by kernel_rfl) (fun _ _ _ h => h) (Or.inl ⟨by rfl, ?_⟩) (hx0) ?_
  rotate_left
  · intro wq hSq
    go_simp
    exact rfl
  try simp only [Act.put, List.setIfInBounds_toArray, List.set_cons_zero, List.set_cons_succ]
  refine wpAnyH_ready (rs := [3]) (by kernel_rfl) (by simp) (AllReadyH.cons rfl (fun K hK => ?_) AllReadyH.nil)
  go_simp
  refine (A1 _).mono ?_
  rintro e W7 ⟨va, rfl, oa, hb7⟩
  have oa := ownR_base oa (hl0)
  have hx7 := Box.below hx0 hb7
  have sz7 := hx7.lt
  have hB7 : Below w.heap.size w W7 := below_thru hB0 hb7
  have hL7 : Below W0.heap.size W0 W7 := below_thru hL0 hb7
  have hl7 := hL7.size
  refine hK.out _ _ hx7 (fun _ => ?_); clear hK K
  refine wpAnyH_ready (rs := [7]) (by kernel_rfl) (by simp) (AllReadyH.cons rfl (fun K hK => ?_) AllReadyH.nil)
  go_simp
  refine (A2 _).mono ?_
  rintro e W8 ⟨vb, rfl, ob, hb8⟩
  have ob := ownR_base ob (hl7)
  have hx8 := Box.below hx7 hb8
  have sz8 := hx8.lt
  have hB8 : Below w.heap.size w W8 := below_thru hB7 hb8
  have hL8 : Below W0.heap.size W0 W8 := below_thru hL7 hb8
  have hl8 := hL8.size
  have oa_8 := ownR_below oa hb8
  refine hK.out _ _ hx8 (fun _ => ?_); clear hK K
  refine wpAnyH_ready (rs := [8]) (by kernel_rfl) (by simp) (AllReadyH.cons rfl (fun K hK => ?_) AllReadyH.nil)
  refine step_append_ints 12 rfl rfl _ _ 62 rfl W0.heap.size 5 ti (.int .u8 0) 1 .u8 Tryd.underlying62 hin hz0 hz1 hz2 rfl _ _ _ rfl oa_8 _ U rfl (IsL.own ob rfl) (by have := L1.out; have := L2.out; have := L3.out; have := L4.out; unfold maxLen; omega) (by have := L1.out; have := L2.out; have := L3.out; have := L4.out; omega) hl8 ?_
  intro vc W9 oc hb9
  have hx9 := (Box.upR hx8 hb9 (by omega)).1
  have sz9 := hx9.lt
  have hB9 : Below w.heap.size w W9 := hB8.trans (hb9.mono (by omega))
  have hL9 : Below W0.heap.size W0 W9 := hL8.trans hb9
  have hl9 := hL9.size
  refine hK.out _ _ hx9 (fun _ => ?_); clear hK K
  refine takeH 9 3 (v := ?vs9_10) rfl (by rfl) (by kernel_rfl) (by kernel_rfl) (by kernel_rfl) (fun _ _ _ h => h) (Or.inl ⟨by rfl, ?_⟩) (hx9) ?_
  rotate_left
  · intro wq hSq
    go_simp
    exact rfl
  try simp only [Act.put, List.setIfInBounds_toArray, List.set_cons_zero, List.set_cons_succ]
  refine wpAnyH_done (by kernel_rfl) ?_ _

  go_upto_region 2 with fail
  refine wp_region_held_drew (S := fun w' => Box w' w.heap.size V) (by kernel_rfl) (hx9.drew) (fun _ => ?_)
  refine F_drew (F := fun W => wpAnyH _ _ _ _ _ _ _ _ W) ?_
  intro Y0 hb0
  have hy0 := Box.below hx9 hb0; have hC0 := below_thru hB9 hb0; have hM0 := below_thru hL9 hb0; have hm0 := hM0.size; have szY := hy0.lt; have oc := ownR_below oc hb0
  clear hx9 hB9 hb0
  refine takeH 0 13 (v := ?vu0_51) rfl (by rfl) (by kernel_rfl) (by kernel_rfl) (by kernel_rfl) (fun _ _ _ h => h) (Or.inl ⟨by rfl, ?_⟩) (hy0) ?_
  rotate_left
  · intro wq hSq
    go_simp
    exact rfl
  try simp only [Act.put, List.setIfInBounds_toArray, List.set_cons_zero, List.set_cons_succ]
  refine takeH 1 14 (v := ?vu1_52) rfl (by rfl) (by kernel_rfl) (by kernel_rfl) (by kernel_rfl) (fun _ _ _ h => h) (Or.inl ⟨by rfl, ?_⟩) (hy0) ?_
  rotate_left
  · intro wq hSq
    go_simp
    exact rfl
  try simp only [Act.put, List.setIfInBounds_toArray, List.set_cons_zero, List.set_cons_succ]
  refine takeH 2 15 (v := ?vu2_53) rfl (by rfl) (by kernel_rfl) (by kernel_rfl) (by kernel_rfl) (fun _ _ _ h => h) (Or.inl ⟨by rfl, ?_⟩) (hy0) ?_
  rotate_left
  · intro wq hSq
    have cq := hSq.c 2 _ v2
    have zq := lt_of_cell cq
    go_simp
    exact rfl
  try simp only [Act.put, List.setIfInBounds_toArray, List.set_cons_zero, List.set_cons_succ]
  refine takeH 3 16 (v := ?vu3_54) rfl (by rfl) (by kernel_rfl) (by kernel_rfl) (by kernel_rfl) (fun _ _ _ h => h) (Or.inl ⟨by rfl, ?_⟩) (hy0) ?_
  rotate_left
  · intro wq hSq
    go_simp
    exact rfl
  try simp only [Act.put, List.setIfInBounds_toArray, List.set_cons_zero, List.set_cons_succ]
  refine takeH 6 19 (v := ?vu6_55) rfl (by rfl) (by kernel_rfl) (by kernel_rfl) (by kernel_rfl) (fun _ _ _ h => h) (Or.inl ⟨by rfl, ?_⟩) (hy0) ?_
  rotate_left
  · intro wq hSq
    go_simp
    exact rfl
  try simp only [Act.put, List.setIfInBounds_toArray, List.set_cons_zero, List.set_cons_succ]
  refine takeH 7 20 (v := ?vu7_56) rfl (by rfl) (by kernel_rfl) (by kernel_rfl) (by kernel_rfl) (fun _ _ _ h => h) (Or.inl ⟨by rfl, ?_⟩) (hy0) ?_
  rotate_left
  · intro wq hSq
    have cq := hSq.c 3 _ v3
    have zq := lt_of_cell cq
    go_simp
    exact rfl
  try simp only [Act.put, List.setIfInBounds_toArray, List.set_cons_zero, List.set_cons_succ]
  refine wpAnyH_ready (rs := [4]) (by kernel_rfl) (by simp) (AllReadyH.cons rfl (fun K hK => ?_) AllReadyH.nil)
  go_simp
  refine (A3 _).mono ?_
  rintro e W57 ⟨vd, rfl, od, hb57⟩
  have od := ownR_base od (hm0)
  have hx57 := Box.below hy0 hb57
  have sz57 := hx57.lt
  have hB57 : Below w.heap.size w W57 := below_thru hC0 hb57
  have hL57 : Below W0.heap.size W0 W57 := below_thru hM0 hb57
  have hl57 := hL57.size
  have oc_57 := ownR_below oc hb57
  refine hK.out _ _ hx57 (fun _ => ?_); clear hK K
  refine wpAnyH_ready (rs := [5]) (by kernel_rfl) (by simp) (AllReadyH.cons rfl (fun K hK => ?_) AllReadyH.nil)
  refine step_append_ints 18 rfl rfl _ _ 62 rfl W0.heap.size 5 ti (.int .u8 0) 1 .u8 Tryd.underlying62 hin hz0 hz1 hz2 rfl _ _ _ rfl oc_57 _ E rfl (IsL.own od rfl) (by have := L1.out; have := L2.out; have := L3.out; have := L4.out; unfold maxLen; omega) (by have := L1.out; have := L2.out; have := L3.out; have := L4.out; omega) hl57 ?_
  intro ve W58 oe hb58
  have hx58 := (Box.upR hx57 hb58 (by omega)).1
  have sz58 := hx58.lt
  have hB58 : Below w.heap.size w W58 := hB57.trans (hb58.mono (by omega))
  have hL58 : Below W0.heap.size W0 W58 := hL57.trans hb58
  have hl58 := hL58.size
  refine hK.out _ _ hx58 (fun _ => ?_); clear hK K
  refine wpAnyH_ready (rs := [8]) (by kernel_rfl) (by simp) (AllReadyH.cons rfl (fun K hK => ?_) AllReadyH.nil)
  go_simp
  refine (A4 _).mono ?_
  rintro e W59 ⟨vf, rfl, of, hb59⟩
  have of := ownR_base of (hl58)
  have hx59 := Box.below hx58 hb59
  have sz59 := hx59.lt
  have hB59 : Below w.heap.size w W59 := below_thru hB58 hb59
  have hL59 : Below W0.heap.size W0 W59 := below_thru hL58 hb59
  have hl59 := hL59.size
  have oe_59 := ownR_below oe hb59
  refine hK.out _ _ hx59 (fun _ => ?_); clear hK K
  refine wpAnyH_ready (rs := [9]) (by kernel_rfl) (by simp) (AllReadyH.cons rfl (fun K hK => ?_) AllReadyH.nil)
  refine step_append_ints 22 rfl rfl _ _ 62 rfl W0.heap.size 5 ti (.int .u8 0) 1 .u8 Tryd.underlying62 hin hz0 hz1 hz2 rfl _ _ _ rfl oe_59 _ X rfl (IsL.own of rfl) (by have := L1.out; have := L2.out; have := L3.out; have := L4.out; unfold maxLen; omega) (by have := L1.out; have := L2.out; have := L3.out; have := L4.out; omega) hl59 ?_
  intro vg W60 og hb60
  have hx60 := (Box.upR hx59 hb60 (by omega)).1
  have sz60 := hx60.lt
  have hB60 : Below w.heap.size w W60 := hB59.trans (hb60.mono (by omega))
  have hL60 : Below W0.heap.size W0 W60 := hL59.trans hb60
  have hl60 := hL60.size
  refine hK.out _ _ hx60 (fun _ => ?_); clear hK K
  refine takeH 10 2 (v := ?vu10_61) rfl (by rfl) (by kernel_rfl) (by kernel_rfl) (by kernel_rfl) (fun _ _ _ h => h) (Or.inl ⟨by rfl, ?_⟩) (hx60) ?_
  rotate_left
  · intro wq hSq
    go_simp
    exact rfl
  try simp only [Act.put, List.setIfInBounds_toArray, List.set_cons_zero, List.set_cons_succ]
  refine wpAnyH_done (by kernel_rfl) ?_ _
  go_wp2_with fail
  go_returns
  refine ⟨_, rfl, ?_, hB60⟩
  have h1 := ownR_base og (Nat.le_of_lt sz0)
  have hq : M = ((T ++ U) ++ E) ++ X := by rw [HM.out]; simp only [List.append_assoc]
  rw [hq]
  have hn : (((T ++ U) ++ E) ++ X).length = T.length + U.length + E.length + X.length := by simp only [List.length_append]
  rw [hn]
  rw [List.map_append, List.map_append, List.map_append]
  exact h1


end Go.Proofs.YtofjpeplgagihaaDoor

namespace Go.Proofs.YtofjpeplgagihaaDoor
open Go.RowKit

theorem Box.ofOwn {w : World} {B e n : Nat} {v : Value} {l : List Value} (h : w.ownsRow B e 1 v n l) (hn : 0 < n) : ∃ g c, v = .slice (some ⟨g, 0, none⟩) n c ∧ B ≤ g ∧ n ≤ c ∧ c ≤ 9223372036854775807 ∧ Box w g l := by
  obtain ⟨_, ⟨rfl, h0⟩ | ⟨g, cap, cur, rfl, hb, hg, h1, h2, h3, h4⟩⟩ := h
  · omega
  · refine ⟨g, cap, rfl, hb, h1, by unfold maxLen at h2; omega, ?_⟩
    have hlt := (Array.getElem?_eq_some_iff.1 hg).1
    have key : ∀ (i : Nat) (v : Value), l[i]? = some v → cur[i]? = some v := fun i v e => by
      rw [← h4, List.getElem?_take] at e
      split at e
      · rwa [Array.getElem?_toList] at e
      · cases e
    exact ⟨fun i v e => by simp [World.cell?, hg, key i v e], fun i v e => by simp [World.frozen?, hg], hlt⟩
/-- The first of a message's bytes; the rest is zero. -/
def mS (g : List Int) (i : Nat) : List Int := g.take i ++ List.replicate (20 - i) 0
theorem mS_all {g : List Int} (h : g.length = 20) : mS g 20 = g := by unfold mS; rw [List.take_of_length_le (by omega)]; simp
theorem mS_len {g : List Int} (h : g.length = 20) {i : Nat} (hi : i ≤ 20) : (mS g i).length = 20 := by unfold mS; rw [List.length_append, List.length_take, List.length_replicate]; omega
theorem mS_succ {g : List Int} (h : g.length = 20) {i : Nat} (hi : i < 20) : (mS g i).set i (nth g i) = mS g (i + 1) := by
  unfold mS
  have l1 : (g.take i).length = i := by rw [List.length_take]; omega
  obtain ⟨m, hm⟩ : ∃ m, 20 - i = m + 1 := ⟨19 - i, by omega⟩
  have hm2 : 20 - (i + 1) = m := by omega
  rw [hm, hm2, List.set_append_right i (nth g i) (by omega), l1, Nat.sub_self, List.replicate_succ, List.set_cons_zero, take_succ_nth (by omega), List.append_assoc]
  rfl

set_option maxRecDepth 100000 in
set_option maxHeartbeats 3200000 in
theorem rtagfor_is (k : Nums) {g K D : List Int} (hg : g.length = 32) (hK : K.length = 32) (hKb : Byts K) (hD : Hid (tagL K k.msg = D)) (w : World) : Calls Tryd.prog 49 #[.agg (K.map (Value.int .u8)).toArray, .agg (tcell k g).toArray] w fun e w' => e = .returned (.agg (D.map (Value.int .u8)).toArray) ∧ Below w.heap.size w w' := by
  have B := fun W => rmsg_is k (g := g) W
  have hm := k.msg_len
  have HMB := Lib.hid k.msg_byts.l
  have hDl : D.length = 32 := by rw [← hD.out]; exact tagL_len _ _
  obtain ⟨M, hM⟩ : ∃ M, k.msg = M := ⟨_, rfl⟩
  rw [hM] at B hm HMB hD
  have HM := Lib.hid hm
  have HK := Lib.hid hK
  have HKB := Lib.hid hKb.l
  have ID := Lib.hid (size_dig hDl)
  have LD := Lib.hid (len_dig hDl)
  have SV := Lib.hid (size_tok k hg)
  obtain ⟨V, hV⟩ : ∃ V, tcell k g = V := ⟨_, rfl⟩
  rw [hV] at B SV ⊢
  clear hV hM hm hDl hK hKb hg
  have hx : Box (((w.alloc (.cells (K.map (Value.int .u8)).toArray 23)).alloc (.cells V.toArray 30)).alloc (.cells zero32.toArray 23)) w.heap.size (K.map (Value.int .u8)) := Box.alloc (Box.alloc (Box.newc rfl rfl) _) _
  have hv : Box (((w.alloc (.cells (K.map (Value.int .u8)).toArray 23)).alloc (.cells V.toArray 30)).alloc (.cells zero32.toArray 23)) (w.heap.size + 1) V := Box.alloc (Box.newc rfl (by simp)) _
  have hr : Box (((w.alloc (.cells (K.map (Value.int .u8)).toArray 23)).alloc (.cells V.toArray 30)).alloc (.cells zero32.toArray 23)) (w.heap.size + 2) zero32 := Box.newc rfl (by simp)
  have hB : Below w.heap.size w (((w.alloc (.cells (K.map (Value.int .u8)).toArray 23)).alloc (.cells V.toArray 30)).alloc (.cells zero32.toArray 23)) := by go_grown
  go_enter Tryd.func49, Tryd.ntmps49
  go_upto_region 1 with fail
  refine wp_region_held_drew (S := fun W => Box W (w.heap.size + 1) V) (by kernel_rfl) (hv.drew) (fun _ => ?_)
  refine F_drew (F := fun W => wpAnyH _ _ _ _ _ _ _ _ W) ?_
  intro W0 hb0
  have hx0 := hx.below hb0; have hv0 := hv.below hb0; have hr0 := hr.below hb0; have hB0 := below_thru hB hb0
  clear hx hv hr hB hb0
  refine takeH 0 5 (v := ?vt0_1) rfl (by rfl) (by kernel_rfl) (by kernel_rfl) (by kernel_rfl) (fun _ _ _ h => h) (Or.inl ⟨by rfl, ?_⟩) (hv0) ?_
  rotate_left
  · intro wq hSq
    go_simp
    exact rfl
  try simp only [Act.put, List.setIfInBounds_toArray, List.set_cons_zero, List.set_cons_succ]
  refine takeH 1 6 (v := .agg V.toArray) rfl (by rfl) (by kernel_rfl) (by kernel_rfl) (by kernel_rfl) (fun _ _ _ h => h) (yieldsIf_load_mid (by rfl) _ _ rfl _ _ rfl V _ (fun wq hq => hq.range) Tryd.underlying30 rfl SV.out) (hv0) ?_
  try simp only [Act.put, List.setIfInBounds_toArray, List.set_cons_zero, List.set_cons_succ]
  refine wpAnyH_ready (rs := [2]) (by kernel_rfl) (by simp) (AllReadyH.cons rfl (fun K hK => ?_) AllReadyH.nil)
  go_simp
  refine (B _).mono ?_
  rintro e W2 ⟨vm, rfl, om, hb2⟩
  have hx2 := Box.below hx0 hb2
  have hv2 := Box.below hv0 hb2
  have hr2 := Box.below hr0 hb2
  have hB2 := below_thru hB0 hb2
  have lm := Lib.hid (IsL.own om rfl)
  clear om
  refine hK.out _ _ hv2 (fun _ => ?_); clear hK
  refine wpAnyH_ready (rs := [3]) (by kernel_rfl) (by simp) (AllReadyH.cons rfl (fun K hK => ?_) AllReadyH.nil)
  go_simp
  refine (rtag_is _ (Lib.hid (IsL.boxed 32 HK.out hx2 (by omega))) lm (by have := HK.out; omega) (by have := HM.out; omega) HKB HMB hD).mono ?_
  rintro e W3 ⟨rfl, hb3⟩
  have hx3 := Box.below hx2 hb3
  have hv3 := Box.below hv2 hb3
  have hr3 := Box.below hr2 hb3
  have hB3 := below_thru hB2 hb3
  refine hK.out _ _ hv3 (fun _ => ?_); clear hK
  refine wpAnyH_ready (rs := [4]) (by kernel_rfl) (by simp) (AllReadyH.cons rfl (fun K hK => ?_) AllReadyH.nil)
  refine step_store_box0 rfl rfl _ _ _ rfl hr3 rfl rfl ID.out LD.out (oneCell_ints _) (fun W4 hW => ?_)
  refine hK.out _ _ (hW.past _ _ (by omega) hv3) (fun _ => ?_); clear hK
  refine wpAnyH_done (by kernel_rfl) ?_ _
  go_wp2_with fail
  exact bodyPost_ret (results_box Tryd.results49 hW.box rfl Tryd.underlying23 rfl ID.out) rfl ⟨rfl, hW.below _ _ (by omega) hB3⟩


set_option maxRecDepth 100000 in
set_option maxHeartbeats 3200000 in
theorem rmint_is (k : Nums) {K D : List Int} (hK : K.length = 32) (hKb : Byts K) (hD : Hid (tagL K k.msg = D)) (w : World) : Calls Tryd.prog 35 #[.agg (K.map (Value.int .u8)).toArray, .int .u32 k.t, .int .u32 k.u, .int .u32 k.e, .int .u64 k.x] w fun e w' => e = .returned (.agg (tcell k D).toArray) ∧ Below w.heap.size w w' := by
  have hDl : D.length = 32 := by rw [← hD.out]; exact tagL_len _ _
  have A := fun (W : World) => rtagfor_is k (g := zeroD) zd32 hK hKb hD W
  have S0 := Lib.hid (size_tok k zd32)
  have SV := Lib.hid (size_tok k hDl)
  have SK := Lib.hid (size_dig hK)
  have SD := Lib.hid (size_dig hDl)
  have L0 := Lib.hid (len_tok Nums.zero k zd32 zd32)
  have LV := Lib.hid (len_tok Nums.zero k zd32 hDl)
  have O0 := Lib.hid (tcell_one k zeroD)
  have OV := Lib.hid (tcell_one k D)
  have P1 := Lib.hid (show 4 + (D.map (Value.int .u8)).length ≤ (tcell k zeroD).length by rw [List.length_map, hDl, tcell_len k zd32]; omega)
  have P2 := Lib.hid (show tcell k D = (tcell k zeroD).take 4 ++ D.map (Value.int .u8) ++ (tcell k zeroD).drop (4 + (D.map (Value.int .u8)).length) by
    rw [List.drop_eq_nil_of_le (by rw [tcell_len k zd32, List.length_map, hDl]; omega), List.append_nil]
    rfl)
  have hx : Box ((w.alloc (.cells (K.map (Value.int .u8)).toArray 23)).alloc (.cells zeroTk.toArray 30)) w.heap.size (K.map (Value.int .u8)) := Box.alloc (Box.newc rfl rfl) _
  have hr : Box ((w.alloc (.cells (K.map (Value.int .u8)).toArray 23)).alloc (.cells zeroTk.toArray 30)) (w.heap.size + 1) zeroTk := Box.newc rfl (by simp)
  have hB : Below w.heap.size w ((w.alloc (.cells (K.map (Value.int .u8)).toArray 23)).alloc (.cells zeroTk.toArray 30)) := by go_grown
  have BT := fun W => build_tok0' k.t k.u k.e k.x W
  have HV : tcell k zeroD = .int .u32 k.t :: .int .u32 k.u :: .int .u32 k.e :: .int .u64 k.x :: zeroD.map (Value.int .u8) := rfl
  rw [← HV] at BT
  obtain ⟨V0, hV0⟩ : ∃ V, tcell k zeroD = V := ⟨_, rfl⟩
  obtain ⟨V, hV⟩ : ∃ V, tcell k D = V := ⟨_, rfl⟩
  rw [hV0] at BT S0 L0 O0 P1 P2 A
  rw [hV] at SV LV OV P2 ⊢
  clear hDl hK hKb hD HV hV hV0
  go_enter Tryd.func35, Tryd.ntmps35
  go_upto_region 2 with (first | (refine wpList_build4 rfl 30 _ rfl (us := #[(0, .int .u32 k.t), (1, .int .u32 k.u), (2, .int .u32 k.e), (3, .int .u64 k.x)]) (by rfl) (BT _) ?_) | (refine wpList_store_box (cs := V0) rfl _ _ _ rfl (Box.newc (l := zeroTk) rfl (by simp)) rfl rfl S0.out L0.out O0.out ?_; intro w2 hW2))
  have hB2 : Below w.heap.size w w2 := hW2.below _ _ (by first | omega | (simp; done) | (simp; omega)) (by go_grown)
  have hx2 : Box w2 w.heap.size (K.map (Value.int .u8)) := hW2.past _ _ (by first | omega | (simp; done) | (simp; omega)) (hx.alloc _)
  have hr2 : Box w2 (w.heap.size + 1) zeroTk := hW2.past _ _ (by first | omega | (simp; done) | (simp; omega)) (hr.alloc _)
  have ht2 := hW2.box
  clear hW2 hx hr hB
  go_wp2_with (first | (refine wpList_load_box rfl _ _ rfl hx2 rfl Tryd.underlying23 rfl SK.out ?_) | (refine wpList_load_box rfl _ _ rfl ht2 rfl Tryd.underlying30 rfl S0.out ?_))
  refine (A _).mono ?_
  rintro e w3 ⟨rfl, hb3⟩
  have hr3 := hr2.below hb3
  have ht3 := ht2.below hb3
  have hB3 := below_thru hB2 hb3
  have hz3 := ht3.lt
  clear hx2 hr2 ht2 hB2 hb3
  go_upto_region 3 with (refine wpList_store_part (cs := D.map (Value.int .u8)) (ws := V) rfl _ _ _ rfl ht3 rfl rfl SD.out P1.out P2.out (oneCell_ints _) ?_; intro w4 hW4)
  have hB4 : Below w.heap.size w w4 := hW4.below _ _ (by first | omega | (simp; done) | (simp; omega)) hB3
  have hr4 : Box w4 (w.heap.size + 1) zeroTk := hW4.past _ _ (by first | omega | (simp; done) | (simp; omega)) hr3
  have ht4 := hW4.box
  clear hW4 hr3 ht3 hB3
  go_wp2_with (first | (refine wpList_load_box rfl _ _ rfl ht4 rfl Tryd.underlying30 rfl SV.out ?_) | (refine wpList_store_box (cs := V) rfl _ _ _ rfl hr4 rfl rfl SV.out LV.out OV.out ?_; intro w9 hW9))
  exact bodyPost_ret (results_box Tryd.results35 hW9.box rfl Tryd.underlying30 rfl SV.out) rfl ⟨rfl, hW9.below _ _ (by omega) hB4⟩

set_option maxRecDepth 100000 in
set_option maxHeartbeats 3200000 in
theorem rverify_is (k : Nums) {g K : List Int} {q : Int} (hg : g.length = 32) (hK : K.length = 32) (hKb : Byts K) (hq : Hid (verN K k g = q)) (w : World) : Calls Tryd.prog 55 #[.agg (K.map (Value.int .u8)).toArray, .agg (tcell k g).toArray] w fun e w' => e = .returned (.int .i64 q) ∧ Below w.heap.size w w' := by
  have hDl := tagL_len K k.msg
  obtain ⟨D, hD⟩ : ∃ D, tagL K k.msg = D := ⟨_, rfl⟩
  have A := fun W => rtagfor_is k hg hK hKb (Lib.hid hD) W
  have hqq : (if D = g then 0 else 22) = q := by rw [← hD]; exact hq.out
  rw [hD] at hDl
  have SV := Lib.hid (size_tok k hg)
  have SK := Lib.hid (size_dig hK)
  have SG := Lib.hid (size_dig hg)
  have HT := Lib.hid (tcell_drop k g)
  have E := fun W => eq_ints (P := Tryd.prog) W 9998 Tryd.underlying23 Tryd.underlying5 size_u8' g D hg hDl
  rw [show (9998 : Nat) + 2 = 10000 from rfl] at E
  obtain ⟨V, hV⟩ : ∃ V, tcell k g = V := ⟨_, rfl⟩
  rw [hV] at A SV HT ⊢
  obtain ⟨c, hc⟩ : ∃ c, decide (g = D) = c := ⟨_, rfl⟩
  rw [hc] at E
  have hx : Box ((w.alloc (.cells (K.map (Value.int .u8)).toArray 23)).alloc (.cells V.toArray 30)) w.heap.size (K.map (Value.int .u8)) := Box.alloc (Box.newc rfl rfl) _
  have hv : Box ((w.alloc (.cells (K.map (Value.int .u8)).toArray 23)).alloc (.cells V.toArray 30)) (w.heap.size + 1) V := Box.newc rfl (by simp)
  have hB : Below w.heap.size w ((w.alloc (.cells (K.map (Value.int .u8)).toArray 23)).alloc (.cells V.toArray 30)) := by go_grown
  clear hV hD hg hK hKb hDl hq
  have h0 := And.intro hx hv
  clear hx hv
  cases c
  · rw [if_neg (fun q => of_decide_eq_false hc q.symm)] at hqq
    subst hqq
    clear hc
    go_enter Tryd.func55, Tryd.ntmps55
    go_upto_region 1 with fail
    refine wp_region_held_drew (S := fun W => Box W w.heap.size (K.map (Value.int .u8)) ∧ Box W (w.heap.size + 1) V) (by kernel_rfl) ⟨h0.1.drew, h0.2.drew⟩ (fun _ => ?_)
    refine F_drew (F := fun W => wpAnyH _ _ _ _ _ _ _ _ W) ?_
    intro W0 hb0
    have hx0 := And.intro (h0.1.below hb0) (h0.2.below hb0); have hB0 := below_thru hB hb0
    clear h0 hB hb0
    refine takeH 0 5 (v := ?vv0_1) rfl (by rfl) (by kernel_rfl) (by kernel_rfl) (by kernel_rfl) (fun _ _ _ h => h) (Or.inl ⟨by rfl, ?_⟩) (hx0) ?_
    rotate_left
    · intro wq hSq
      go_simp
      exact rfl
    try simp only [Act.put, List.setIfInBounds_toArray, List.set_cons_zero, List.set_cons_succ]
    refine takeH 1 6 (v := .agg (g.map (Value.int .u8)).toArray) rfl (by rfl) (by kernel_rfl) (by kernel_rfl) (by kernel_rfl) (fun _ _ _ h => h) (yieldsIf_load_mid (by rfl) _ _ rfl _ _ rfl (g.map (Value.int .u8)) _ (fun wq hq => Box.rangeFrom hq.2 4 _ HT.out) Tryd.underlying23 rfl SG.out) (hx0) ?_
    try simp only [Act.put, List.setIfInBounds_toArray, List.set_cons_zero, List.set_cons_succ]
    refine takeH 2 7 (v := .agg (K.map (Value.int .u8)).toArray) rfl (by rfl) (by kernel_rfl) (by kernel_rfl) (by kernel_rfl) (fun _ _ _ h => h) (yieldsIf_load_mid (by rfl) _ _ rfl _ _ rfl (K.map (Value.int .u8)) _ (fun wq hq => hq.1.range) Tryd.underlying23 rfl SK.out) (hx0) ?_
    try simp only [Act.put, List.setIfInBounds_toArray, List.set_cons_zero, List.set_cons_succ]
    refine takeH 3 8 (v := .agg V.toArray) rfl (by rfl) (by kernel_rfl) (by kernel_rfl) (by kernel_rfl) (fun _ _ _ h => h) (yieldsIf_load_mid (by rfl) _ _ rfl _ _ rfl V _ (fun wq hq => hq.2.range) Tryd.underlying30 rfl SV.out) (hx0) ?_
    try simp only [Act.put, List.setIfInBounds_toArray, List.set_cons_zero, List.set_cons_succ]
    refine wpAnyH_ready (rs := [4]) (by kernel_rfl) (by simp) (AllReadyH.cons rfl (fun K hK => ?_) AllReadyH.nil)
    go_simp
    refine (A _).mono ?_
    rintro e W2 ⟨rfl, hb2⟩
    have hx2 := And.intro (Box.below hx0.1 hb2) (Box.below hx0.2 hb2); have hB2 := below_thru hB0 hb2
    refine hK.out _ _ hx2 (fun _ => ?_); clear hK
    refine takeH 5 10 (v := ?vv5_3) rfl (by rfl) (by kernel_rfl) (by kernel_rfl) (by kernel_rfl) (fun _ _ _ h => h) (Or.inl ⟨by rfl, ?_⟩) (hx2) ?_
    rotate_left
    · intro wq hSq
      go_simp
      exact rfl
    try simp only [Act.put, List.setIfInBounds_toArray, List.set_cons_zero, List.set_cons_succ]
    refine wpAnyH_done (by kernel_rfl) ?_ _
    go_wp2_with fail
    go_returns
    exact ⟨rfl, hB2⟩

  · rw [if_pos (of_decide_eq_true hc).symm] at hqq
    subst hqq
    clear hc
    go_enter Tryd.func55, Tryd.ntmps55
    go_upto_region 1 with fail
    refine wp_region_held_drew (S := fun W => Box W w.heap.size (K.map (Value.int .u8)) ∧ Box W (w.heap.size + 1) V) (by kernel_rfl) ⟨h0.1.drew, h0.2.drew⟩ (fun _ => ?_)
    refine F_drew (F := fun W => wpAnyH _ _ _ _ _ _ _ _ W) ?_
    intro W0 hb0
    have hx0 := And.intro (h0.1.below hb0) (h0.2.below hb0); have hB0 := below_thru hB hb0
    clear h0 hB hb0
    refine takeH 0 5 (v := ?vy0_1) rfl (by rfl) (by kernel_rfl) (by kernel_rfl) (by kernel_rfl) (fun _ _ _ h => h) (Or.inl ⟨by rfl, ?_⟩) (hx0) ?_
    rotate_left
    · intro wq hSq
      go_simp
      exact rfl
    try simp only [Act.put, List.setIfInBounds_toArray, List.set_cons_zero, List.set_cons_succ]
    refine takeH 1 6 (v := .agg (g.map (Value.int .u8)).toArray) rfl (by rfl) (by kernel_rfl) (by kernel_rfl) (by kernel_rfl) (fun _ _ _ h => h) (yieldsIf_load_mid (by rfl) _ _ rfl _ _ rfl (g.map (Value.int .u8)) _ (fun wq hq => Box.rangeFrom hq.2 4 _ HT.out) Tryd.underlying23 rfl SG.out) (hx0) ?_
    try simp only [Act.put, List.setIfInBounds_toArray, List.set_cons_zero, List.set_cons_succ]
    refine takeH 2 7 (v := .agg (K.map (Value.int .u8)).toArray) rfl (by rfl) (by kernel_rfl) (by kernel_rfl) (by kernel_rfl) (fun _ _ _ h => h) (yieldsIf_load_mid (by rfl) _ _ rfl _ _ rfl (K.map (Value.int .u8)) _ (fun wq hq => hq.1.range) Tryd.underlying23 rfl SK.out) (hx0) ?_
    try simp only [Act.put, List.setIfInBounds_toArray, List.set_cons_zero, List.set_cons_succ]
    refine takeH 3 8 (v := .agg V.toArray) rfl (by rfl) (by kernel_rfl) (by kernel_rfl) (by kernel_rfl) (fun _ _ _ h => h) (yieldsIf_load_mid (by rfl) _ _ rfl _ _ rfl V _ (fun wq hq => hq.2.range) Tryd.underlying30 rfl SV.out) (hx0) ?_
    try simp only [Act.put, List.setIfInBounds_toArray, List.set_cons_zero, List.set_cons_succ]
    refine wpAnyH_ready (rs := [4]) (by kernel_rfl) (by simp) (AllReadyH.cons rfl (fun K hK => ?_) AllReadyH.nil)
    go_simp
    refine (A _).mono ?_
    rintro e W2 ⟨rfl, hb2⟩
    have hx2 := And.intro (Box.below hx0.1 hb2) (Box.below hx0.2 hb2); have hB2 := below_thru hB0 hb2
    refine hK.out _ _ hx2 (fun _ => ?_); clear hK
    refine takeH 5 10 (v := ?vy5_3) rfl (by rfl) (by kernel_rfl) (by kernel_rfl) (by kernel_rfl) (fun _ _ _ h => h) (Or.inl ⟨by rfl, ?_⟩) (hx2) ?_
    rotate_left
    · intro wq hSq
      go_simp
      exact rfl
    try simp only [Act.put, List.setIfInBounds_toArray, List.set_cons_zero, List.set_cons_succ]
    refine wpAnyH_done (by kernel_rfl) ?_ _
    go_wp2_with fail
    go_returns
    exact ⟨rfl, hB2⟩


end Go.Proofs.YtofjpeplgagihaaDoor
