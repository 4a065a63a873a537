/-
  Package token, walked: Read.
-/
import Derived.Test.YtlbbedknldmcpaaTokC
namespace Go.Proofs.Ytlbbedknldmcpaa
open Go.RowKit

/-- Bytes of a token's length are those of a token. -/
theorem tok_of_bytes {bs : List Int} (hl : bs.length = 52) (hb : Byts bs) : ∃ (k : Nums) (g : List Int), bs = k.msg ++ g ∧ g.length = 32 ∧ Byts g := by
  obtain ⟨k, hk, _⟩ := Nums.of_bytes (bs := bs.take 20) (by rw [List.length_take]; omega) (hb.take 20)
  exact ⟨k, bs.drop 20, by rw [hk, List.take_append_drop], by rw [List.length_drop, hl], hb.drop 20⟩

set_option maxRecDepth 100000 in
set_option maxHeartbeats 1600000 in
theorem rword_is {b i : Nat} {v : Value} {fs : List Fd} {f : Fd} (w : World) (hc : w.cell? ⟨b, 0, none⟩ = some v) (h1 : IsR LF w v fs) (hi : fs[i]? = some f) (hn : f.n ≤ 4294967295) (him : i ≤ 1000) : Calls Try.prog 11 #[.int .i64 i, .pointer (some ⟨b, 0, none⟩)] w fun e w' => e = .returned (.int .u32 f.n) ∧ w' = w := by
  obtain ⟨a0, c0, rfl, hr⟩ := id h1
  have i1 := hr.room
  have i2 := hr.most
  obtain ⟨b1, off, rfl, hR⟩ := h1.get 34 rfl hi
  have c1 := hR 1 (.int .u64 f.n) rfl
  have il := (List.getElem?_eq_some_iff.1 hi).1
  have hw : IntKind.u32.wrap f.n = f.n := by have := f.hn; rw [IntKind.wrap_u32]; omega
  obtain ⟨n, hnn⟩ : ∃ n, f.n = n := ⟨_, rfl⟩
  rw [hnn] at c1 hw ⊢
  have zb := lt_of_cell hc
  have zc := lt_of_cell c1
  have i3 : (i : Int) < (fs.length : Int) := by omega
  have i4 : (0 : Int) ≤ (i : Int) := by omega
  clear hr h1 hR hi hn hnn
  go_enter Try.func11, Try.ntmps11
  go_wp2_with fail
  go_returns
  exact ⟨rfl, rfl⟩

theorem list32 {l : List Int} (h : l.length = 32) : ∃ x0 x1 x2 x3 x4 x5 x6 x7 x8 x9 x10 x11 x12 x13 x14 x15 x16 x17 x18 x19 x20 x21 x22 x23 x24 x25 x26 x27 x28 x29 x30 x31, l = [x0, x1, x2, x3, x4, x5, x6, x7, x8, x9, x10, x11, x12, x13, x14, x15, x16, x17, x18, x19, x20, x21, x22, x23, x24, x25, x26, x27, x28, x29, x30, x31] := by
  match l, h with
  | [x0, x1, x2, x3, x4, x5, x6, x7, x8, x9, x10, x11, x12, x13, x14, x15, x16, x17, x18, x19, x20, x21, x22, x23, x24, x25, x26, x27, x28, x29, x30, x31], _ => exact ⟨x0, x1, x2, x3, x4, x5, x6, x7, x8, x9, x10, x11, x12, x13, x14, x15, x16, x17, x18, x19, x20, x21, x22, x23, x24, x25, x26, x27, x28, x29, x30, x31, rfl⟩
set_option maxRecDepth 100000 in
theorem build_tok (t u e x : Int) {g : List Int} (h : g.length = 32) (W : World) : (Instr.build 27 #[(0, .int .u32 t), (1, .int .u32 u), (2, .int .u32 e), (3, .int .u64 x), (4, .agg (g.map (Value.int .u8)).toArray)]).run Try.prog W = .ok (.agg (.int .u32 t :: .int .u32 u :: .int .u32 e :: .int .u64 x :: g.map (Value.int .u8)).toArray) W := by
  obtain ⟨x0, x1, x2, x3, x4, x5, x6, x7, x8, x9, x10, x11, x12, x13, x14, x15, x16, x17, x18, x19, x20, x21, x22, x23, x24, x25, x26, x27, x28, x29, x30, x31, rfl⟩ := list32 h
  kernel_rfl
theorem yieldsIf_build {P : Program} {ops : Array Oper} {S : World → Prop} {op : Oper} {a : Act} (hw : Region.wanted op (yielded ops a.tmps) = true) (t : TypeId) (xs : Array (Nat × Operand)) (ho : op.op = .build t xs) {us : Array (Nat × Value)} {v : Value}
    (hx : (xs.toList.map fun p => (p.1, a.eval p.2)) = us.toList) (hr : ∀ W, (Instr.build t us).run P W = .ok v W) : YieldsIf P ops S op v a :=
  .inl ⟨hw, fun w _ => by
    have hx' : (xs.map fun (i, x) => (i, a.eval x)) = us := by
      apply Array.ext'
      rw [Array.toList_map, ← hx]
    subst hx'
    unfold execOp
    simp only [ho, Sem.run_bind, hr, Result.andThen_ok, Sem.run_pure]⟩
def zeroT : List Value := tcell Nums.zero zeroD
theorem z32 : zeroD.length = 32 := by decide
theorem size_two (a b : Int) : ([a, b].map (Value.int .i64)).toArray = #[.int .i64 a, .int .i64 b] := rfl

set_option maxRecDepth 100000 in
set_option maxHeartbeats 1600000 in
theorem tread_bad {v : Value} {bs : List Int} (w : World) (h1 : IsL w .u8 v bs) (hl : bs.length ≠ 52) : Calls Try.prog 4 #[v] w fun e w' => e = .returned (.tuple #[.agg zeroT.toArray, .int .i64 12]) ∧ Below w.heap.size w w' := by
  have hx : Box (w.alloc (.cells zeroT.toArray 27)) w.heap.size zeroT := Box.newc rfl rfl
  have hB : Below w.heap.size w (w.alloc (.cells zeroT.toArray 27)) := by go_grown
  have hne : ¬ [((bs.take 20).length : Int), ((bs.drop 20).length : Int)] = [20, 32] := by
    simp
    omega
  have C := fun W => split_is w W h1
  obtain ⟨xs, hxs⟩ : ∃ xs, bs.take 20 = xs := ⟨_, rfl⟩
  obtain ⟨ys, hys⟩ : ∃ ys, bs.drop 20 = ys := ⟨_, rfl⟩
  rw [hxs, hys] at C hne
  have hq : ∀ W : World, (Op.equalIn 10000 39 (.agg #[.int .i64 (xs.length : Int), .int .i64 (ys.length : Int)]) (.agg #[.int .i64 20, .int .i64 32])).run Try.prog W = .ok false W := fun W => by
    have := eq_ints W 9998 Try.underlying39 Try.underlying3 (by kernel_rfl) [(xs.length : Int), (ys.length : Int)] [20, 32] rfl rfl
    rw [decide_eq_false hne] at this
    exact this
  clear hxs hys hne hl h1
  go_enter Try.func4, Try.ntmps4
  go_wp2_with fail
  refine (C _).mono ?_
  rintro e w1 ⟨v1, v2, rfl, ⟨a1, c1, rfl, _⟩, ⟨a2, c2, rfl, _⟩, hb1⟩
  have hx1 := hx.below hb1
  have hB1 := below_thru hB hb1
  clear hx hB hb1 C
  go_wp2_with (refine wpList_store_box (cs := zeroT) rfl _ _ _ rfl hx1 rfl rfl (size_tok _ z32) rfl (tcell_one _ _) ?_; intro w2 hW2)
  exact bodyPost_ret (results_box2 Try.results4 hW2.box rfl rfl Try.underlying27 rfl (size_tok _ z32)) rfl ⟨rfl, hW2.below _ _ (Nat.le_refl _) hB1⟩

set_option maxRecDepth 100000 in
set_option maxHeartbeats 3200000 in
theorem tread_ok (k : Nums) {g : List Int} (hg : g.length = 32) {v : Value} (w : World) (h1 : IsL w .u8 v (k.msg ++ g)) : Calls Try.prog 4 #[v] w fun e w' => e = .returned (.tuple #[.agg (tcell k g).toArray, .int .i64 0]) ∧ Below w.heap.size w w' := by
  have hx : Box (w.alloc (.cells zeroT.toArray 27)) w.heap.size zeroT := Box.newc rfl rfl
  have hB : Below w.heap.size w (w.alloc (.cells zeroT.toArray 27)) := by go_grown
  have hm := k.msg_len
  have C := fun W => split_is w W h1
  rw [List.take_left' hm, List.drop_left' hm] at C
  have R := fun (W : World) (a b : Value) (h1 : IsL W .u8 a [4, 4, 4, 5]) (h2 : IsL W .u8 b k.msg) => read_is W h1 h2 (by decide) k.msg_byts
  rw [k.rea.1, k.rea.2] at R
  obtain ⟨M, hM⟩ : ∃ M, k.msg = M := ⟨_, rfl⟩
  rw [hM] at C R hm
  have HM := Lib.hid hm
  have HG := Lib.hid hg
  have hq : ∀ W : World, (Op.equalIn 10000 39 (.agg #[.int .i64 20, .int .i64 32]) (.agg #[.int .i64 20, .int .i64 32])).run Try.prog W = .ok true W := fun W =>
    eq_ints W 9998 Try.underlying39 Try.underlying3 (by kernel_rfl) [20, 32] [20, 32] rfl rfl
  have BT := fun W => build_tok k.t k.u k.e k.x HG.out W
  have ST := Lib.hid (size_tok k HG.out)
  have LT := Lib.hid (len_tok Nums.zero k z32 HG.out)
  have OT := Lib.hid (tcell_one k g)
  have HV : tcell k g = .int .u32 k.t :: .int .u32 k.u :: .int .u32 k.e :: .int .u64 k.x :: g.map (Value.int .u8) := rfl
  rw [← HV] at BT
  clear HV
  obtain ⟨V, hV⟩ : ∃ V, tcell k g = V := ⟨_, rfl⟩
  rw [hV] at BT ST LT OT ⊢
  clear hV
  clear hM hm hg h1
  go_enter Try.func4, Try.ntmps4
  go_wp2_with fail
  refine (C _).mono ?_
  rintro e w1 ⟨v1, v2, rfl, hv1, hv2, hb1⟩
  have hx1 := hx.below hb1
  have hB1 := below_thru hB hb1
  have hs1 := hB1.size
  have hzx := hx1.lt
  obtain ⟨a1, c1, rfl, i1, _⟩ := id hv1
  obtain ⟨a2, c2, rfl, i2, _⟩ := id hv2
  obtain ⟨b2, o2, rfl, hr2⟩ := IsL.rangeOf hv2 (by have := HG.out; omega)
  have zb2 : b2 < w.heap.size := lt_of_cell (hr2 0 _ (List.getElem?_eq_getElem (by simp [HG.out])))
  have ic1 := i1.room
  have ic2 := i2.room
  have im1 := i1.most
  have im2 := i2.most
  have HV1 := Lib.hid (hv1.below hB1)
  have hg1 := range_below hr2 hB1
  rw [HM.out] at ic1 ⊢
  rw [HG.out] at ic2 ⊢
  have HV1 : Hid (IsL w1 .u8 (.slice a1 20 c1) M) := Lib.hid (by have := HV1.out; rwa [HM.out] at this)
  have hA : ∀ W, (Instr.arrayAt 25 (.slice (some ⟨b2, o2, none⟩) 32 c2)).run Try.prog W = .ok (.pointer (some ⟨b2, o2, none⟩)) W := fun W => run_arrayAt W 25 _ 32 _ 32 c2 Try.underlying25 (Nat.le_refl _)
  clear hx hB hb1 hv1 hv2 i1 i2 hr2 C
  go_wp2_with fail
  have hkin : IsL (w1.alloc (.cells #[.int .u8 4, .int .u8 4, .int .u8 4, .int .u8 5] 5)) .u8 (.slice (some ⟨w1.heap.size, 0, none⟩) 4 4) [4, 4, 4, 5] := IsL.built [4, 4, 4, 5] rfl rfl rfl rfl (by decide)
  refine (R _ _ _ hkin (HV1.out.alloc _)).mono ?_
  rintro e w2 ⟨vr, rfl, hor, hb2⟩
  have hBw : Below w1.heap.size w1 w2 := below_thru (by go_grown) hb2
  have hx2 := hx1.below hBw
  have hB2 := below_thru hB1 hBw
  have hg2 := range_below hg1 hBw
  have hrow := IsR.own hor rfl rfl
  have hob := ownR_block hor
  have hs2 := hB2.size
  have f0 : ∃ f, k.row[0]? = some f ∧ f.n = k.t ∧ f.n ≤ 4294967295 := ⟨_, rfl, rfl, k.ht.2⟩
  have f1 : ∃ f, k.row[1]? = some f ∧ f.n = k.u ∧ f.n ≤ 4294967295 := ⟨_, rfl, rfl, k.hu.2⟩
  have f2 : ∃ f, k.row[2]? = some f ∧ f.n = k.e ∧ f.n ≤ 4294967295 := ⟨_, rfl, rfl, k.he.2⟩
  have f3 : ∃ f, k.row[3]? = some f ∧ f.n = k.x := ⟨_, rfl, rfl⟩
  have hfl : k.row.length = 4 := rfl
  obtain ⟨fs, hfs⟩ : ∃ fs, k.row = fs := ⟨_, rfl⟩
  rw [hfs] at hrow f0 f1 f2 f3 hfl
  obtain ⟨a3, c3, rfl, hrr⟩ := id hrow
  obtain ⟨f3, e3, q3⟩ := f3
  obtain ⟨b4, o4, rfl, hR4⟩ := hrow.get 34 rfl e3
  have zb4 : w.heap.size < b4 := by have := hob b4 rfl; simp at this; omega
  have c4 := hR4 1 (.int .u64 k.x) (by rw [← q3]; rfl)
  have ir1 := hrr.room
  have ir2 := hrr.most
  rw [hfl] at ir1 ⊢
  have hrow : IsR LF w2 (.slice (some ⟨b4, o4, none⟩) 4 c3) fs := by rwa [hfl] at hrow
  clear hx1 hB1 hg1 hBw hb2 hor R hkin HV1 hfs hrr hR4 e3 q3 hob
  have hIG := Lib.hid (show (Try.prog.info? 25).map (·.size) = some (g.map (Value.int .u8)).length by rw [sizeDig, List.length_map, HG.out])
  go_upto_region 6 with fail
  refine wp_region_held_drew (S := fun W => W.cell? ⟨w2.heap.size, 0, none⟩ = some (.slice (some ⟨b4, o4, none⟩) 4 c3) ∧ W.cell? ⟨b4, o4 + 3 * 34 + 1, none⟩ = some (.int .u64 k.x) ∧ W.rangeAt b2 o2 (g.map (Value.int .u8))) (by kernel_rfl) ⟨(Box.newc (l := [.slice (some ⟨b4, o4, none⟩) 4 c3]) rfl rfl).c 0 _ rfl, cell_alloc c4, range_cells hg2 (fun b o v h => cell_alloc h)⟩ (fun _ => ?_)
  have hX : Below w2.heap.size w2 (w2.alloc (.cells #[.slice (some ⟨b4, o4, none⟩) 4 c3] 40)) := (Below.refl _ _).alloc (Nat.le_refl _) _
  have cX := (Box.newc (l := [.slice (some ⟨b4, o4, none⟩) 4 c3]) (w := w2) (t := 40) rfl rfl).c 0 _ rfl
  have zX : w2.heap.size < (w2.alloc (.cells #[.slice (some ⟨b4, o4, none⟩) 4 c3] 40)).heap.size := by simp
  refine F_drew (F := fun W => wpAnyH _ _ _ _ _ _ _ _ W) ?_
  intro W0 hb0
  have hW0 : Below w2.heap.size w2 W0 := below_thru hX hb0
  have hx0 := And.intro (cell_below hb0 cX) (And.intro (cell_below hW0 c4) (range_below hg2 hW0))
  have zx2 := hx2.lt; have ht0 := hx2.below hW0; have hB0 := below_thru hB2 hW0; have hr0 := hrow.below hW0
  clear hx2 hg2 hB2 c4 cX hb0 hX hrow zX
  refine takeH 0 29 (v := ?vt0_1) rfl (by rfl) (by kernel_rfl) (by kernel_rfl) (by kernel_rfl) (fun _ _ _ h => h) (Or.inl ⟨by rfl, ?_⟩) (hx0) ?_
  rotate_left
  · intro wq hSq
    go_simp
    exact rfl
  try simp only [Act.put, List.setIfInBounds_toArray, List.set_cons_zero, List.set_cons_succ]
  refine takeH 2 31 (v := ?vt2_2) rfl (by rfl) (by kernel_rfl) (by kernel_rfl) (by kernel_rfl) (fun _ _ _ h => h) (Or.inl ⟨by rfl, ?_⟩) (hx0) ?_
  rotate_left
  · intro wq hSq
    go_simp
    exact rfl
  try simp only [Act.put, List.setIfInBounds_toArray, List.set_cons_zero, List.set_cons_succ]
  refine takeH 4 33 (v := ?vt4_3) rfl (by rfl) (by kernel_rfl) (by kernel_rfl) (by kernel_rfl) (fun _ _ _ h => h) (Or.inl ⟨by rfl, ?_⟩) (hx0) ?_
  rotate_left
  · intro wq hSq
    go_simp
    exact rfl
  try simp only [Act.put, List.setIfInBounds_toArray, List.set_cons_zero, List.set_cons_succ]
  refine takeH 6 35 (v := ?vt6_4) rfl (by rfl) (by kernel_rfl) (by kernel_rfl) (by kernel_rfl) (fun _ _ _ h => h) (Or.inl ⟨by rfl, ?_⟩) (hx0) ?_
  rotate_left
  · intro wq hSq
    have cq := hSq.1
    have zq := lt_of_cell cq
    go_simp
    exact rfl
  try simp only [Act.put, List.setIfInBounds_toArray, List.set_cons_zero, List.set_cons_succ]
  refine takeH 7 36 (v := ?vt7_5) rfl (by rfl) (by kernel_rfl) (by kernel_rfl) (by kernel_rfl) (fun _ _ _ h => h) (Or.inl ⟨by rfl, ?_⟩) (hx0) ?_
  rotate_left
  · intro wq hSq
    go_simp
    exact rfl
  try simp only [Act.put, List.setIfInBounds_toArray, List.set_cons_zero, List.set_cons_succ]
  refine takeH 8 37 (v := ?vt8_6) rfl (by rfl) (by kernel_rfl) (by kernel_rfl) (by kernel_rfl) (fun _ _ _ h => h) (Or.inl ⟨by rfl, ?_⟩) (hx0) ?_
  rotate_left
  · intro wq hSq
    go_simp
    exact rfl
  try simp only [Act.put, List.setIfInBounds_toArray, List.set_cons_zero, List.set_cons_succ]
  refine takeH 9 38 (v := ?vt9_7) rfl (by rfl) (by kernel_rfl) (by kernel_rfl) (by kernel_rfl) (fun _ _ _ h => h) (Or.inl ⟨by rfl, ?_⟩) (hx0) ?_
  rotate_left
  · intro wq hSq
    have cq := hSq.2.1
    have zq := lt_of_cell cq
    go_simp
    exact rfl
  try simp only [Act.put, List.setIfInBounds_toArray, List.set_cons_zero, List.set_cons_succ]
  refine takeH 10 39 (v := ?vt10_8) rfl (by rfl) (by kernel_rfl) (by kernel_rfl) (by kernel_rfl) (fun _ _ _ h => h) (Or.inl ⟨by rfl, ?_⟩) (hx0) ?_
  rotate_left
  · intro wq hSq
    go_simp
    exact rfl
  try simp only [Act.put, List.setIfInBounds_toArray, List.set_cons_zero, List.set_cons_succ]
  refine takeH 11 40 (v := ?vt11_9) rfl (by rfl) (by kernel_rfl) (by kernel_rfl) (by kernel_rfl) (fun _ _ _ h => h) (Or.inl ⟨by rfl, ?_⟩) (hx0) ?_
  rotate_left
  · intro wq hSq
    go_simp
    exact rfl
  try simp only [Act.put, List.setIfInBounds_toArray, List.set_cons_zero, List.set_cons_succ]
  refine takeH 12 41 (v := .agg (g.map (Value.int .u8)).toArray) rfl (by rfl) (by kernel_rfl) (by kernel_rfl) (by kernel_rfl) (fun _ _ _ h => h) (yieldsIf_load_mid (by rfl) _ _ rfl _ _ rfl (g.map (Value.int .u8)) _ (fun wq hq => hq.2.2) Try.underlying25 rfl hIG.out) (hx0) ?_
  try simp only [Act.put, List.setIfInBounds_toArray, List.set_cons_zero, List.set_cons_succ]
  refine wpAnyH_ready (rs := [1]) (by kernel_rfl) (by simp) (AllReadyH.cons rfl (fun K hK => ?_) AllReadyH.nil)
  obtain ⟨f0w, e0w, q0w, l0w⟩ := f0
  have C0 := rword_is W0 hx0.1 hr0 e0w l0w (by omega)
  rw [q0w] at C0
  clear q0w e0w l0w
  go_simp
  refine C0.mono ?_
  rintro e W10 ⟨rfl, rfl⟩
  clear C0
  refine hK.out _ _ hx0 (fun _ => ?_); clear hK K
  refine wpAnyH_ready (rs := [3]) (by kernel_rfl) (by simp) (AllReadyH.cons rfl (fun K hK => ?_) AllReadyH.nil)
  obtain ⟨f1w, e1w, q1w, l1w⟩ := f1
  have C1 := rword_is W10 hx0.1 hr0 e1w l1w (by omega)
  rw [q1w] at C1
  clear q1w e1w l1w
  go_simp
  refine C1.mono ?_
  rintro e W11 ⟨rfl, rfl⟩
  clear C1
  refine hK.out _ _ hx0 (fun _ => ?_); clear hK K
  refine wpAnyH_ready (rs := [5]) (by kernel_rfl) (by simp) (AllReadyH.cons rfl (fun K hK => ?_) AllReadyH.nil)
  obtain ⟨f2w, e2w, q2w, l2w⟩ := f2
  have C2 := rword_is W11 hx0.1 hr0 e2w l2w (by omega)
  rw [q2w] at C2
  clear q2w e2w l2w
  go_simp
  refine C2.mono ?_
  rintro e W12 ⟨rfl, rfl⟩
  clear C2
  refine hK.out _ _ hx0 (fun _ => ?_); clear hK K
  refine takeH 13 42 (v := .agg V.toArray) rfl (by rfl) (by kernel_rfl) (by kernel_rfl) (by kernel_rfl) (fun _ _ _ h => h) (yieldsIf_build (by rfl) _ _ rfl (us := #[(0, .int .u32 k.t), (1, .int .u32 k.u), (2, .int .u32 k.e), (3, .int .u64 k.x), (4, .agg (g.map (Value.int .u8)).toArray)]) (by rfl) BT) (hx0) ?_
  try simp only [Act.put, List.setIfInBounds_toArray, List.set_cons_zero, List.set_cons_succ]
  refine wpAnyH_ready (rs := [14]) (by kernel_rfl) (by simp) (AllReadyH.cons rfl (fun K hK => ?_) AllReadyH.nil)
  refine step_store_box0 rfl rfl _ _ _ rfl ht0 rfl rfl ST.out LT.out OT.out (fun W13 hW => ?_)
  have hx13 := And.intro (hW.cell _ _ _ (by omega) hx0.1) (And.intro (hW.cell _ _ _ (by omega) hx0.2.1) (fun j v hv => hW.cell _ _ _ (by omega) (hx0.2.2 j v hv) : W13.rangeAt b2 o2 (g.map (Value.int .u8))))
  refine hK.out _ _ hx13 (fun _ => ?_); clear hK K
  refine takeH 15 3 (v := ?vt15_14) rfl (by rfl) (by kernel_rfl) (by kernel_rfl) (by kernel_rfl) (fun _ _ _ h => h) (Or.inl ⟨by rfl, ?_⟩) (hx13) ?_
  rotate_left
  · intro wq hSq
    go_simp
    exact rfl
  try simp only [Act.put, List.setIfInBounds_toArray, List.set_cons_zero, List.set_cons_succ]
  refine wpAnyH_done (by kernel_rfl) ?_ _
  go_wp2_with fail
  exact bodyPost_ret (results_box2 Try.results4 hW.box rfl rfl Try.underlying27 rfl ST.out) rfl ⟨rfl, hW.below _ _ (Nat.le_refl _) hB0⟩


end Go.Proofs.Ytlbbedknldmcpaa
