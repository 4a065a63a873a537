/-
  Token's reference: its messages.
-/
import Derived.Test.YtlbbedknldmcpaaTokA
import Derived.Test.YtlbbedknldmcpaaRFldA
namespace Go.Proofs.Ytlbbedknldmcpaa
open Go.RowKit

set_option maxRecDepth 100000 in
set_option maxHeartbeats 1600000 in
theorem rbytes_own (n : Int) (m : Nat) (w : World) (h0 : 0 ≤ n) (h1 : n ≤ 18446744073709551615) (hm : m ≤ 8) : Calls Try.prog 20 #[.int .u64 n, .int .i64 m] w (GivesOwn (be m n) w) := by
  have _ := h1
  obtain ⟨ti, hin, hz0, hz1, hz2⟩ := info_parts info_u8'
  go_enter Try.func20, Try.ntmps20
  go_wp2_with fail
  go_loopw [5, 6] (fun s5 s6 wr => ∃ (i j : Nat), s6 = .int .i64 ((i : Int) - 1) ∧ Hid (m = j + i) ∧ i ≤ m ∧ Hid (wr.ownsRow w.heap.size 5 1 s5 j (((be m n).take j).map (Value.int .u8))) ∧ Below w.heap.size w wr) (fun _ s6 _ => (intOf s6 + 1).toNat)
  case atStart => exact ⟨m, 0, rfl, Lib.hid (by omega), Nat.le_refl _, Lib.hid (by simpa using ownU_nil), by go_grown⟩
  case round =>
    obtain ⟨i, j, rfl, HMJ, him, HO, hB⟩ := hrel
    have hs := hB.size
    cases i with
    | zero =>
      have HX := Lib.hid (show (be m n).take j = be m n from List.take_of_length_le (by rw [be_len]; have := HMJ.out; omega))
      have d1 : ((0 : Nat) : Int) - 1 = -1 := rfl
      rw [d1]
      go_wp2_with fail
      go_returns
      refine ⟨_, rfl, ?_, hB⟩
      have h1 := HO.out
      rw [HX.out, show j = (be m n).length by rw [be_len]; have := HMJ.out; omega] at h1
      exact h1
    | succ i =>
      have d1 : ((i + 1 : Nat) : Int) - 1 = (i : Int) := by omega
      rw [d1]
      have HT := Lib.hid (be_take_succ m n j i HMJ.out h0)
      have hjm : j + 1 ≤ 8 := by have := HMJ.out; omega
      have HO2 := Lib.hid (fun (x : Int) => ownR_below HO.out ((Below.refl wr.heap.size wr).alloc (Nat.le_refl _) (.cells #[.int .u8 x] 5)))
      go_wp2_with (at_builtin; refine wpList_append_ints rfl _ _ 28 rfl w.heap.size 5 ti (.int .u8 0) 1 .u8 Try.underlying28 hin hz0 hz1 hz2 rfl _ j _ rfl (HO2.out _) _ 1 [n / 2 ^ (8 * i) % 256] rfl ((IsL.built [n / 2 ^ (8 * i) % 256] rfl rfl rfl rfl (by simp)).ints) (fun h => by cases h) (by unfold maxLen; simp; omega) (by simp; omega) (by simp; omega) ?_; intro v4 w4 hown4 hgrow4)
      have hB4 : Below w.heap.size w w4 := (hB.alloc hs _).grown hgrow4 (by simp; omega) (own_block (HO2.out (n / 2 ^ (8 * i) % 256)))
      have HO4 := Lib.hid (show w4.ownsRow w.heap.size 5 1 v4 (j + 1) (((be m n).take (j + 1)).map (Value.int .u8)) by rw [HT.out, List.map_append]; exact hown4)
      clear hown4 hgrow4 HO2 HO
      go_wp2_with fail
      go_roundw
      case rel => exact ⟨i, j + 1, rfl, Lib.hid (by have := HMJ.out; omega), by omega, HO4, hB4⟩
      case measure => simp [intOf]

theorem Box.keepR {w w' : World} {b B : Nat} {vs : List Value} (h : Box w b vs) (hb : Below B w w') (hB : b < B) : Box w' b vs := by
  have hh := hb.block b hB
  exact ⟨fun i v e => by have := h.c i v e; simpa [World.cell?, hh] using this, fun i v e => by have := h.f i v e; simpa [World.frozen?, hh] using this, Nat.lt_of_lt_of_le h.lt hb.size⟩
theorem Box.upR {w w' : World} {b B : Nat} {vs : List Value} (h : Box w b vs) (hb : Below B w w') (hB : b < B) : Box w' b vs ∧ b < w'.heap.size := ⟨h.keepR hb hB, (h.keepR hb hB).lt⟩
theorem step_append_ints {P : Program} {w : World} {ops : Array Oper} {o : Oper} {a : Act} {K : Act → World → Prop} {Q : Exit → Act → World → Prop} {E : Prop} (d : Nat) (hd : o.dst = some d) (hgd : o.guard = none) (s x : Operand) (t : TypeId)
    (ho : o.op = .call { callee := .builtin .append, args := #[s, x], argTypes := #[t, t] })
    (base : Nat) (e : TypeId) (i : TypeInfo) (z : Value) (bytes : Nat) (k : IntKind) (ht : P.underlying t = some (.slice e)) (hi : P.info? e = some i) (hz : i.zero = some z)
    (hsize : i.size = 1) (hby : i.bytes = bytes) (hzs : z.cells.size = 1)
    (v : Value) (n : Nat) (l : List Value) (hs : a.eval s = v) (hown : w.ownsRow base e 1 v n l)
    (v2 : Value) (xs : List Int) (hx : a.eval x = v2) (hin : IsL w k v2 xs)
    (h63 : n + xs.length ≤ maxLen) (hbytes : (n + xs.length) * bytes ≤ 140737488355328) (hbase : base ≤ w.heap.size)
    (h : ∀ v' w', w'.ownsRow base e 1 v' (n + xs.length) (l ++ xs.map (Value.int k)) → Below base w w' → K (a.put (some d) v') w') : if Region.wanted o (yielded ops a.tmps) = true then Oper.wp P o a w K Q else E := by
  rw [if_pos (by simp [Region.wanted, hgd])]
  obtain ⟨at0, cap, rfl, h2, h0⟩ := hin
  exact wp_append_ints s x t ho base e i z bytes k ht hi hz hsize hby hzs v n l hs hown at0 cap xs hx h2 h0 h63 hbytes hbase fun v' w' h1 h2 => by rw [hd]; exact h v' w' h1 ((Below.refl _ w).grown h2 hbase (own_block hown))

set_option maxRecDepth 100000 in
set_option maxHeartbeats 3200000 in
theorem rmsg_is (k : Nums) {g : List Int} (w : World) : Calls Try.prog 15 #[.agg (tcell k g).toArray] w (GivesOwn k.msg w) := by
  obtain ⟨ti, hin, hz0, hz1, hz2⟩ := info_parts info_u8'
  have ht0 := k.ht.1
  have ht1 := k.ht.2
  have hu0 := k.hu.1
  have hu1 := k.hu.2
  have he0 := k.he.1
  have he1 := k.he.2
  have wt : IntKind.u64.wrap k.t = k.t := by rw [IntKind.wrap_u64]; omega
  have wu : IntKind.u64.wrap k.u = k.u := by rw [IntKind.wrap_u64]; omega
  have we : IntKind.u64.wrap k.e = k.e := by rw [IntKind.wrap_u64]; omega
  have A1 := fun W => rbytes_own k.t 4 W ht0 (by omega) (by omega)
  have A2 := fun W => rbytes_own k.u 4 W hu0 (by omega) (by omega)
  have A3 := fun W => rbytes_own k.e 4 W he0 (by omega) (by omega)
  have A4 := fun W => rbytes_own k.x 8 W k.hx.1 k.hx.2 (by omega)
  have l1 := be_len 4 k.t
  have l2 := be_len 4 k.u
  have l3 := be_len 4 k.e
  have l4 := be_len 8 k.x
  have HM : Hid (k.msg = be 4 k.t ++ (be 4 k.u ++ (be 4 k.e ++ be 8 k.x))) := Lib.hid rfl
  obtain ⟨T, e1⟩ : ∃ T, be 4 k.t = T := ⟨_, rfl⟩
  obtain ⟨U, e2⟩ : ∃ T, be 4 k.u = T := ⟨_, rfl⟩
  obtain ⟨E, e3⟩ : ∃ T, be 4 k.e = T := ⟨_, rfl⟩
  obtain ⟨X, e4⟩ : ∃ T, be 8 k.x = T := ⟨_, rfl⟩
  rw [e1] at A1 l1 HM
  rw [e2] at A2 l2 HM
  rw [e3] at A3 l3 HM
  rw [e4] at A4 l4 HM
  have L1 := Lib.hid l1
  have L2 := Lib.hid l2
  have L3 := Lib.hid l3
  have L4 := Lib.hid l4
  obtain ⟨M, hM⟩ : ∃ M, k.msg = M := ⟨_, rfl⟩
  rw [hM] at HM ⊢
  obtain ⟨V, hV⟩ : ∃ V, tcell k g = V := ⟨_, rfl⟩
  have v0 : V[0]? = some (.int .u32 k.t) := by rw [← hV]; rfl
  have v1 : V[1]? = some (.int .u32 k.u) := by rw [← hV]; rfl
  have v2 : V[2]? = some (.int .u32 k.e) := by rw [← hV]; rfl
  have v3 : V[3]? = some (.int .u64 k.x) := by rw [← hV]; rfl
  rw [hV]
  clear hV hM l1 l2 l3 l4 e1 e2 e3 e4 ht0 ht1 hu0 hu1 he0 he1
  have hx : Box (w.alloc (.cells V.toArray 27)) w.heap.size V := Box.newc rfl rfl
  have hB : Below w.heap.size w (w.alloc (.cells V.toArray 27)) := by go_grown
  go_enter Try.func15, Try.ntmps15
  go_upto_region 1 with fail
  refine wp_region_held_drew (S := fun w' => Box w' w.heap.size V) (by kernel_rfl) (hx.drew) (fun _ => ?_)
  refine F_drew (F := fun W => wpAnyH _ _ _ _ _ _ _ _ W) ?_
  intro W0 hb0
  have hx0 := hx.below hb0; have hB0 := below_thru hB hb0; have hL0 := Below.refl W0.heap.size W0; have hl0 := hL0.size; have sz0 := hx0.lt
  clear hx hB hb0
  refine takeH 0 4 (v := ?vs0_1) rfl (by rfl) (by kernel_rfl) (by kernel_rfl) (by kernel_rfl) (fun _ _ _ h => h) (Or.inl ⟨by rfl, ?_⟩) (hx0) ?_
  rotate_left
  · intro wq hSq
    go_simp
    exact rfl
  try simp only [Act.put, List.setIfInBounds_toArray, List.set_cons_zero, List.set_cons_succ]
  refine takeH 1 5 (v := ?vs1_2) rfl (by rfl) (by kernel_rfl) (by kernel_rfl) (by kernel_rfl) (fun _ _ _ h => h) (Or.inl ⟨by rfl, ?_⟩) (hx0) ?_
  rotate_left
  · intro wq hSq
    have cq := hSq.c 0 _ v0
    have zq := lt_of_cell cq
    go_simp
    exact rfl
  try simp only [Act.put, List.setIfInBounds_toArray, List.set_cons_zero, List.set_cons_succ]
  refine takeH 2 6 (v := ?vs2_3) rfl (by rfl) (by kernel_rfl) (by kernel_rfl) (by kernel_rfl) (fun _ _ _ h => h) (Or.inl ⟨by rfl, ?_⟩) (hx0) ?_
  rotate_left
  · intro wq hSq
    go_simp
    exact rfl
  try simp only [Act.put, List.setIfInBounds_toArray, List.set_cons_zero, List.set_cons_succ]
  refine takeH 4 8 (v := ?vs4_4) rfl (by rfl) (by kernel_rfl) (by kernel_rfl) (by kernel_rfl) (fun _ _ _ h => h) (Or.inl ⟨by rfl, ?_⟩) (hx0) ?_
  rotate_left
  · intro wq hSq
    go_simp
    exact rfl
  try simp only [Act.put, List.setIfInBounds_toArray, List.set_cons_zero, List.set_cons_succ]
  refine takeH 5 9 (v := ?vs5_5) rfl (by rfl) (by kernel_rfl) (by kernel_rfl) (by kernel_rfl) (fun _ _ _ h => h) (Or.inl ⟨by rfl, ?_⟩) (hx0) ?_
  rotate_left
  · intro wq hSq
    have cq := hSq.c 1 _ v1
    have zq := lt_of_cell cq
    go_simp
    exact rfl
  try simp only [Act.put, List.setIfInBounds_toArray, List.set_cons_zero, List.set_cons_succ]
  refine takeH 6 10 (v := ?vs6_6) rfl (by rfl) (by kernel_rfl) (by kernel_rfl) (by kernel_rfl) (fun _ _ _ h => h) (Or.inl ⟨by rfl, ?_⟩) (hx0) ?_
  rotate_left
  · intro wq hSq
    go_simp
    exact rfl
  try simp only [Act.put, List.setIfInBounds_toArray, List.set_cons_zero, List.set_cons_succ]
  refine wpAnyH_ready (rs := [3]) (by kernel_rfl) (by simp) (AllReadyH.cons rfl (fun K hK => ?_) AllReadyH.nil)
  go_simp
  refine (A1 _).mono ?_
  rintro e W7 ⟨va, rfl, oa, hb7⟩
  have oa := ownR_base oa (hl0)
  have hx7 := Box.below hx0 hb7
  have sz7 := hx7.lt
  have hB7 : Below w.heap.size w W7 := below_thru hB0 hb7
  have hL7 : Below W0.heap.size W0 W7 := below_thru hL0 hb7
  have hl7 := hL7.size
  refine hK.out _ _ hx7 (fun _ => ?_); clear hK K
  refine wpAnyH_ready (rs := [7]) (by kernel_rfl) (by simp) (AllReadyH.cons rfl (fun K hK => ?_) AllReadyH.nil)
  go_simp
  refine (A2 _).mono ?_
  rintro e W8 ⟨vb, rfl, ob, hb8⟩
  have ob := ownR_base ob (hl7)
  have hx8 := Box.below hx7 hb8
  have sz8 := hx8.lt
  have hB8 : Below w.heap.size w W8 := below_thru hB7 hb8
  have hL8 : Below W0.heap.size W0 W8 := below_thru hL7 hb8
  have hl8 := hL8.size
  have oa_8 := ownR_below oa hb8
  refine hK.out _ _ hx8 (fun _ => ?_); clear hK K
  refine wpAnyH_ready (rs := [8]) (by kernel_rfl) (by simp) (AllReadyH.cons rfl (fun K hK => ?_) AllReadyH.nil)
  refine step_append_ints 12 rfl rfl _ _ 28 rfl W0.heap.size 5 ti (.int .u8 0) 1 .u8 Try.underlying28 hin hz0 hz1 hz2 rfl _ _ _ rfl oa_8 _ U rfl (IsL.own ob rfl) (by have := L1.out; have := L2.out; have := L3.out; have := L4.out; unfold maxLen; omega) (by have := L1.out; have := L2.out; have := L3.out; have := L4.out; omega) hl8 ?_
  intro vc W9 oc hb9
  have hx9 := (Box.upR hx8 hb9 (by omega)).1
  have sz9 := hx9.lt
  have hB9 : Below w.heap.size w W9 := hB8.trans (hb9.mono (by omega))
  have hL9 : Below W0.heap.size W0 W9 := hL8.trans hb9
  have hl9 := hL9.size
  refine hK.out _ _ hx9 (fun _ => ?_); clear hK K
  refine takeH 9 3 (v := ?vs9_10) rfl (by rfl) (by kernel_rfl) (by kernel_rfl) (by kernel_rfl) (fun _ _ _ h => h) (Or.inl ⟨by rfl, ?_⟩) (hx9) ?_
  rotate_left
  · intro wq hSq
    go_simp
    exact rfl
  try simp only [Act.put, List.setIfInBounds_toArray, List.set_cons_zero, List.set_cons_succ]
  refine wpAnyH_done (by kernel_rfl) ?_ _

  go_upto_region 2 with fail
  refine wp_region_held_drew (S := fun w' => Box w' w.heap.size V) (by kernel_rfl) (hx9.drew) (fun _ => ?_)
  refine F_drew (F := fun W => wpAnyH _ _ _ _ _ _ _ _ W) ?_
  intro Y0 hb0
  have hy0 := Box.below hx9 hb0; have hC0 := below_thru hB9 hb0; have hM0 := below_thru hL9 hb0; have hm0 := hM0.size; have szY := hy0.lt; have oc := ownR_below oc hb0
  clear hx9 hB9 hb0
  refine takeH 0 13 (v := ?vu0_51) rfl (by rfl) (by kernel_rfl) (by kernel_rfl) (by kernel_rfl) (fun _ _ _ h => h) (Or.inl ⟨by rfl, ?_⟩) (hy0) ?_
  rotate_left
  · intro wq hSq
    go_simp
    exact rfl
  try simp only [Act.put, List.setIfInBounds_toArray, List.set_cons_zero, List.set_cons_succ]
  refine takeH 1 14 (v := ?vu1_52) rfl (by rfl) (by kernel_rfl) (by kernel_rfl) (by kernel_rfl) (fun _ _ _ h => h) (Or.inl ⟨by rfl, ?_⟩) (hy0) ?_
  rotate_left
  · intro wq hSq
    go_simp
    exact rfl
  try simp only [Act.put, List.setIfInBounds_toArray, List.set_cons_zero, List.set_cons_succ]
  refine takeH 2 15 (v := ?vu2_53) rfl (by rfl) (by kernel_rfl) (by kernel_rfl) (by kernel_rfl) (fun _ _ _ h => h) (Or.inl ⟨by rfl, ?_⟩) (hy0) ?_
  rotate_left
  · intro wq hSq
    have cq := hSq.c 2 _ v2
    have zq := lt_of_cell cq
    go_simp
    exact rfl
  try simp only [Act.put, List.setIfInBounds_toArray, List.set_cons_zero, List.set_cons_succ]
  refine takeH 3 16 (v := ?vu3_54) rfl (by rfl) (by kernel_rfl) (by kernel_rfl) (by kernel_rfl) (fun _ _ _ h => h) (Or.inl ⟨by rfl, ?_⟩) (hy0) ?_
  rotate_left
  · intro wq hSq
    go_simp
    exact rfl
  try simp only [Act.put, List.setIfInBounds_toArray, List.set_cons_zero, List.set_cons_succ]
  refine takeH 6 19 (v := ?vu6_55) rfl (by rfl) (by kernel_rfl) (by kernel_rfl) (by kernel_rfl) (fun _ _ _ h => h) (Or.inl ⟨by rfl, ?_⟩) (hy0) ?_
  rotate_left
  · intro wq hSq
    go_simp
    exact rfl
  try simp only [Act.put, List.setIfInBounds_toArray, List.set_cons_zero, List.set_cons_succ]
  refine takeH 7 20 (v := ?vu7_56) rfl (by rfl) (by kernel_rfl) (by kernel_rfl) (by kernel_rfl) (fun _ _ _ h => h) (Or.inl ⟨by rfl, ?_⟩) (hy0) ?_
  rotate_left
  · intro wq hSq
    have cq := hSq.c 3 _ v3
    have zq := lt_of_cell cq
    go_simp
    exact rfl
  try simp only [Act.put, List.setIfInBounds_toArray, List.set_cons_zero, List.set_cons_succ]
  refine wpAnyH_ready (rs := [4]) (by kernel_rfl) (by simp) (AllReadyH.cons rfl (fun K hK => ?_) AllReadyH.nil)
  go_simp
  refine (A3 _).mono ?_
  rintro e W57 ⟨vd, rfl, od, hb57⟩
  have od := ownR_base od (hm0)
  have hx57 := Box.below hy0 hb57
  have sz57 := hx57.lt
  have hB57 : Below w.heap.size w W57 := below_thru hC0 hb57
  have hL57 : Below W0.heap.size W0 W57 := below_thru hM0 hb57
  have hl57 := hL57.size
  have oc_57 := ownR_below oc hb57
  refine hK.out _ _ hx57 (fun _ => ?_); clear hK K
  refine wpAnyH_ready (rs := [5]) (by kernel_rfl) (by simp) (AllReadyH.cons rfl (fun K hK => ?_) AllReadyH.nil)
  refine step_append_ints 18 rfl rfl _ _ 28 rfl W0.heap.size 5 ti (.int .u8 0) 1 .u8 Try.underlying28 hin hz0 hz1 hz2 rfl _ _ _ rfl oc_57 _ E rfl (IsL.own od rfl) (by have := L1.out; have := L2.out; have := L3.out; have := L4.out; unfold maxLen; omega) (by have := L1.out; have := L2.out; have := L3.out; have := L4.out; omega) hl57 ?_
  intro ve W58 oe hb58
  have hx58 := (Box.upR hx57 hb58 (by omega)).1
  have sz58 := hx58.lt
  have hB58 : Below w.heap.size w W58 := hB57.trans (hb58.mono (by omega))
  have hL58 : Below W0.heap.size W0 W58 := hL57.trans hb58
  have hl58 := hL58.size
  refine hK.out _ _ hx58 (fun _ => ?_); clear hK K
  refine wpAnyH_ready (rs := [8]) (by kernel_rfl) (by simp) (AllReadyH.cons rfl (fun K hK => ?_) AllReadyH.nil)
  go_simp
  refine (A4 _).mono ?_
  rintro e W59 ⟨vf, rfl, of, hb59⟩
  have of := ownR_base of (hl58)
  have hx59 := Box.below hx58 hb59
  have sz59 := hx59.lt
  have hB59 : Below w.heap.size w W59 := below_thru hB58 hb59
  have hL59 : Below W0.heap.size W0 W59 := below_thru hL58 hb59
  have hl59 := hL59.size
  have oe_59 := ownR_below oe hb59
  refine hK.out _ _ hx59 (fun _ => ?_); clear hK K
  refine wpAnyH_ready (rs := [9]) (by kernel_rfl) (by simp) (AllReadyH.cons rfl (fun K hK => ?_) AllReadyH.nil)
  refine step_append_ints 22 rfl rfl _ _ 28 rfl W0.heap.size 5 ti (.int .u8 0) 1 .u8 Try.underlying28 hin hz0 hz1 hz2 rfl _ _ _ rfl oe_59 _ X rfl (IsL.own of rfl) (by have := L1.out; have := L2.out; have := L3.out; have := L4.out; unfold maxLen; omega) (by have := L1.out; have := L2.out; have := L3.out; have := L4.out; omega) hl59 ?_
  intro vg W60 og hb60
  have hx60 := (Box.upR hx59 hb60 (by omega)).1
  have sz60 := hx60.lt
  have hB60 : Below w.heap.size w W60 := hB59.trans (hb60.mono (by omega))
  have hL60 : Below W0.heap.size W0 W60 := hL59.trans hb60
  have hl60 := hL60.size
  refine hK.out _ _ hx60 (fun _ => ?_); clear hK K
  refine takeH 10 2 (v := ?vu10_61) rfl (by rfl) (by kernel_rfl) (by kernel_rfl) (by kernel_rfl) (fun _ _ _ h => h) (Or.inl ⟨by rfl, ?_⟩) (hx60) ?_
  rotate_left
  · intro wq hSq
    go_simp
    exact rfl
  try simp only [Act.put, List.setIfInBounds_toArray, List.set_cons_zero, List.set_cons_succ]
  refine wpAnyH_done (by kernel_rfl) ?_ _
  go_wp2_with fail
  go_returns
  refine ⟨_, rfl, ?_, hB60⟩
  have h1 := ownR_base og (Nat.le_of_lt sz0)
  have hq : M = ((T ++ U) ++ E) ++ X := by rw [HM.out]; simp only [List.append_assoc]
  rw [hq]
  have hn : (((T ++ U) ++ E) ++ X).length = T.length + U.length + E.length + X.length := by simp only [List.length_append]
  rw [hn]
  rw [List.map_append, List.map_append, List.map_append]
  exact h1


end Go.Proofs.Ytlbbedknldmcpaa
