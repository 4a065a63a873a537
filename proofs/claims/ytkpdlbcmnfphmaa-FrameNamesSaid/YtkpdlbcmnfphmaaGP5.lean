/-
  Package token, walked: Write, Read.
  Package token, walked: Read.
  Token's reference: its messages.
  Token's reference: bytes of tokens written and read.
-/
import Derived.Test.YtkpdlbcmnfphmaaGP4
import Derived.Test.YtkpdlbcmnfphmaaGP3

namespace Go.Proofs.Ytkpdlbcmnfphmaa
open Go.RowKit

theorem Box.isl {w : World} {b : Nat} {k : IntKind} {xs : List Int} (n : Nat) (hn : xs.length = n) (h : Box w b (xs.map (Value.int k))) (hl : n ≤ 1000000) : IsL w k (.slice (some ⟨b, 0, Option.none⟩) n n) xs := IsL.boxed n hn h hl

set_option maxRecDepth 100000 in
set_option maxHeartbeats 3200000 in
theorem twrite_is (k : Nums) {g : List Int} (hg : g.length = 32) (w : World) : Calls Try.prog 40 #[.agg (tcell k g).toArray] w (GivesOwn (k.msg ++ g) w) := by
  have B := fun W => bytes_is k (g := g) W
  have hm := k.msg_len
  obtain ⟨M, hM⟩ : ∃ M, k.msg = M := ⟨_, rfl⟩
  rw [hM] at B hm ⊢
  have HM := Lib.hid hm
  have IM := Lib.hid (size_msg hm)
  have LM := Lib.hid (len_msg hm)
  have HG := Lib.hid hg
  have HSZ := Lib.hid (size_tok k hg)
  have HT := Lib.hid (tcell_drop k g)
  obtain ⟨V, hV⟩ : ∃ V, tcell k g = V := ⟨_, rfl⟩
  rw [hV] at B HSZ HT ⊢
  clear hV hM hm hg
  have hx : Box (w.alloc (.cells V.toArray 38)) w.heap.size V := Box.newc rfl rfl
  have hB : Below w.heap.size w (w.alloc (.cells V.toArray 38)) := by go_grown
  go_enter Try.func40, Try.ntmps40
  go_wp2_with (refine wpList_load_box rfl _ _ rfl hx rfl Try.underlying38 rfl HSZ.out ?_)
  refine (B _).mono ?_
  rintro e w1 ⟨rfl, hb1⟩
  have hx1 := hx.below hb1
  have hB1 := below_thru hB hb1
  have hs1 := hB1.size
  have hz1 := hx1.lt
  clear hx hB hb1
  go_upto_region 2 with (refine wpList_store_box (cs := M.map (Value.int .u8)) rfl _ _ _ rfl (Box.newc (l := zero20) rfl rfl) rfl rfl IM.out LM.out (oneCell_ints _) ?_; intro w2 hW2)
  have hB2 : Below w.heap.size w w2 := hW2.below _ _ hs1 (hB1.alloc hs1 _)
  have hx2 : Box w2 w.heap.size V := hW2.past _ _ (by omega) (hx1.alloc _)
  have hm2 := hW2.box
  clear hx1 hB1 hW2
  obtain ⟨bm, hbm⟩ : ∃ b, w1.heap.size = b := ⟨_, rfl⟩
  rw [hbm] at hm2 ⊢
  clear hbm
  refine wp_region_held_drew (S := fun _ => True) (by kernel_rfl) trivial (fun _ => ?_)
  refine F_drew (F := fun W => wpAnyH _ _ _ _ _ _ _ _ W) ?_
  intro W0 hb0
  have hx0 := hx2.below hb0; have hm0 := hm2.below hb0; have hB0 := below_thru hB2 hb0
  clear hx2 hm2 hB2 hb0
  refine takeH 0 6 (v := ?vt0_1) rfl (by rfl) (by kernel_rfl) (by kernel_rfl) (by kernel_rfl) (fun _ _ _ h => h) (Or.inl ⟨by rfl, ?_⟩) (trivial) ?_
  rotate_left
  · intro wq hSq
    go_simp
    exact rfl
  try simp only [Act.put, List.setIfInBounds_toArray, List.set_cons_zero, List.set_cons_succ]
  refine takeH 1 7 (v := ?vt1_2) rfl (by rfl) (by kernel_rfl) (by kernel_rfl) (by kernel_rfl) (fun _ _ _ h => h) (Or.inl ⟨by rfl, ?_⟩) (trivial) ?_
  rotate_left
  · intro wq hSq
    go_simp
    exact rfl
  try simp only [Act.put, List.setIfInBounds_toArray, List.set_cons_zero, List.set_cons_succ]
  refine takeH 2 8 (v := ?vt2_3) rfl (by rfl) (by kernel_rfl) (by kernel_rfl) (by kernel_rfl) (fun _ _ _ h => h) (Or.inl ⟨by rfl, ?_⟩) (trivial) ?_
  rotate_left
  · intro wq hSq
    go_simp
    exact rfl
  try simp only [Act.put, List.setIfInBounds_toArray, List.set_cons_zero, List.set_cons_succ]
  refine wpAnyH_ready (rs := [3]) (by kernel_rfl) (by simp) (AllReadyH.cons rfl (fun K hK => ?_) AllReadyH.nil)
  go_simp
  refine hK.out _ _ trivial (fun _ => ?_); clear hK K
  refine F_both (F := fun W => wpAnyH _ _ _ _ _ _ _ _ W) (J := fun W => Box W W0.heap.size [.slice (some ⟨bm, 0, none⟩) 20 20, .slice (some ⟨w.heap.size, 4, none⟩) 32 32]) (J2 := fun W => Below W0.heap.size W0 W) (Box.newc rfl rfl) ((Below.refl _ _).alloc (Nat.le_refl _) _) ?_
  intro W4 hv4 hb4
  have hx4 := hx0.below hb4; have hm4 := hm0.below hb4; have hB4 := below_thru hB0 hb4
  refine wpAnyH_ready (rs := [4]) (by kernel_rfl) (by simp) (AllReadyH.cons rfl (fun K hK => ?_) AllReadyH.nil)
  go_simp
  have L1 := IsL.boxed 20 HM.out hm4 (by omega)
  have L2 := IsL.range 32 32 HG.out (Box.rangeFrom hx4 4 (g.map (Value.int .u8)) HT.out) (by omega) (by omega)
  have C := concat_is (n := 2) (xss := [M, g]) W4 hv4 (fun i v xs h1 h2 => by match i, h1, h2 with | 0, h1, h2 => (cases h1; cases h2; exact L1) | 1, h1, h2 => (cases h1; cases h2; exact L2)) rfl rfl (by decide) (by simp [HM.out, HG.out])
  rw [show [M, g].flatten = M ++ g by simp] at C
  refine C.mono ?_
  rintro e W5 ⟨vr, rfl, hor, hb5⟩
  have hB5 := below_thru hB4 hb5
  have hor := ownR_base hor (hB4.size)
  refine hK.out _ _ trivial (fun _ => ?_); clear hK K
  refine takeH 5 2 (v := ?vt5_6) rfl (by rfl) (by kernel_rfl) (by kernel_rfl) (by kernel_rfl) (fun _ _ _ h => h) (Or.inl ⟨by rfl, ?_⟩) (trivial) ?_
  rotate_left
  · intro wq hSq
    go_simp
    exact rfl
  try simp only [Act.put, List.setIfInBounds_toArray, List.set_cons_zero, List.set_cons_succ]
  refine wpAnyH_done (by kernel_rfl) ?_ _
  go_wp2_with fail
  go_returns
  exact ⟨_, rfl, hor, hB5⟩


end Go.Proofs.Ytkpdlbcmnfphmaa

namespace Go.Proofs.Ytkpdlbcmnfphmaa
open Go.RowKit

/-- Bytes of a token's length are those of a token. -/
theorem tok_of_bytes {bs : List Int} (hl : bs.length = 52) (hb : Byts bs) : ∃ (k : Nums) (g : List Int), bs = k.msg ++ g ∧ g.length = 32 ∧ Byts g := by
  obtain ⟨k, hk, _⟩ := Nums.of_bytes (bs := bs.take 20) (by rw [List.length_take]; omega) (hb.take 20)
  exact ⟨k, bs.drop 20, by rw [hk, List.take_append_drop], by rw [List.length_drop, hl], hb.drop 20⟩

set_option maxRecDepth 100000 in
set_option maxHeartbeats 1600000 in
theorem rword_is {b i : Nat} {v : Value} {fs : List Fd} {f : Fd} (w : World) (hc : w.cell? ⟨b, 0, none⟩ = some v) (h1 : IsR LF w v fs) (hi : fs[i]? = some f) (hn : f.n ≤ 4294967295) (him : i ≤ 1000) : Calls Try.prog 63 #[.int .i64 i, .pointer (some ⟨b, 0, none⟩)] w fun e w' => e = .returned (.int .u32 f.n) ∧ w' = w := by
  obtain ⟨a0, c0, rfl, hr⟩ := id h1
  have i1 := hr.room
  have i2 := hr.most
  obtain ⟨b1, off, rfl, hR⟩ := h1.get 34 rfl hi
  have c1 := hR 1 (.int .u64 f.n) rfl
  have il := (List.getElem?_eq_some_iff.1 hi).1
  have hw : IntKind.u32.wrap f.n = f.n := by have := f.hn; rw [IntKind.wrap_u32]; omega
  obtain ⟨n, hnn⟩ : ∃ n, f.n = n := ⟨_, rfl⟩
  rw [hnn] at c1 hw ⊢
  have zb := lt_of_cell hc
  have zc := lt_of_cell c1
  have i3 : (i : Int) < (fs.length : Int) := by omega
  have i4 : (0 : Int) ≤ (i : Int) := by omega
  clear hr h1 hR hi hn hnn
  go_enter Try.func63, Try.ntmps63
  go_wp2_with fail
  go_returns
  exact ⟨rfl, rfl⟩

theorem list32 {l : List Int} (h : l.length = 32) : ∃ x0 x1 x2 x3 x4 x5 x6 x7 x8 x9 x10 x11 x12 x13 x14 x15 x16 x17 x18 x19 x20 x21 x22 x23 x24 x25 x26 x27 x28 x29 x30 x31, l = [x0, x1, x2, x3, x4, x5, x6, x7, x8, x9, x10, x11, x12, x13, x14, x15, x16, x17, x18, x19, x20, x21, x22, x23, x24, x25, x26, x27, x28, x29, x30, x31] := by
  match l, h with
  | [x0, x1, x2, x3, x4, x5, x6, x7, x8, x9, x10, x11, x12, x13, x14, x15, x16, x17, x18, x19, x20, x21, x22, x23, x24, x25, x26, x27, x28, x29, x30, x31], _ => exact ⟨x0, x1, x2, x3, x4, x5, x6, x7, x8, x9, x10, x11, x12, x13, x14, x15, x16, x17, x18, x19, x20, x21, x22, x23, x24, x25, x26, x27, x28, x29, x30, x31, rfl⟩
set_option maxRecDepth 100000 in
theorem build_tok (t u e x : Int) {g : List Int} (h : g.length = 32) (W : World) : (Instr.build 38 #[(0, .int .u32 t), (1, .int .u32 u), (2, .int .u32 e), (3, .int .u64 x), (4, .agg (g.map (Value.int .u8)).toArray)]).run Try.prog W = .ok (.agg (.int .u32 t :: .int .u32 u :: .int .u32 e :: .int .u64 x :: g.map (Value.int .u8)).toArray) W := by
  obtain ⟨x0, x1, x2, x3, x4, x5, x6, x7, x8, x9, x10, x11, x12, x13, x14, x15, x16, x17, x18, x19, x20, x21, x22, x23, x24, x25, x26, x27, x28, x29, x30, x31, rfl⟩ := list32 h
  kernel_rfl
theorem yieldsIf_build {P : Program} {ops : Array Oper} {S : World → Prop} {op : Oper} {a : Act} (hw : Region.wanted op (yielded ops a.tmps) = true) (t : TypeId) (xs : Array (Nat × Operand)) (ho : op.op = .build t xs) {us : Array (Nat × Value)} {v : Value}
    (hx : (xs.toList.map fun p => (p.1, a.eval p.2)) = us.toList) (hr : ∀ W, (Instr.build t us).run P W = .ok v W) : YieldsIf P ops S op v a :=
  .inl ⟨hw, fun w _ => by
    have hx' : (xs.map fun (i, x) => (i, a.eval x)) = us := by
      apply Array.ext'
      rw [Array.toList_map, ← hx]
    subst hx'
    unfold execOp
    simp only [ho, Sem.run_bind, hr, Result.andThen_ok, Sem.run_pure]⟩
def zeroT : List Value := tcell Nums.zero zeroD
theorem z32 : zeroD.length = 32 := by decide

set_option maxRecDepth 100000 in
set_option maxHeartbeats 1600000 in
theorem tread_bad {v : Value} {bs : List Int} (w : World) (h1 : IsL w .u8 v bs) (hl : bs.length ≠ 52) : Calls Try.prog 53 #[v] w fun e w' => e = .returned (.tuple #[.agg zeroT.toArray, .int .i64 12]) ∧ Below w.heap.size w w' := by
  have hx : Box (w.alloc (.cells zeroT.toArray 38)) w.heap.size zeroT := Box.newc rfl rfl
  have hB : Below w.heap.size w (w.alloc (.cells zeroT.toArray 38)) := by go_grown
  have hne : ¬ [((bs.take 20).length : Int), ((bs.drop 20).length : Int)] = [20, 32] := by
    simp
    omega
  have C := fun W => split_is w W h1
  obtain ⟨xs, hxs⟩ : ∃ xs, bs.take 20 = xs := ⟨_, rfl⟩
  obtain ⟨ys, hys⟩ : ∃ ys, bs.drop 20 = ys := ⟨_, rfl⟩
  rw [hxs, hys] at C hne
  have hq : ∀ W : World, (Op.equalIn 10000 114 (.agg #[.int .i64 (xs.length : Int), .int .i64 (ys.length : Int)]) (.agg #[.int .i64 20, .int .i64 32])).run Try.prog W = .ok false W := fun W => by
    have := eq_ints W 9998 Try.underlying114 Try.underlying3 (by kernel_rfl) [(xs.length : Int), (ys.length : Int)] [20, 32] rfl rfl
    rw [decide_eq_false hne] at this
    exact this
  clear hxs hys hne hl h1
  go_enter Try.func53, Try.ntmps53
  go_wp2_with fail
  refine (C _).mono ?_
  rintro e w1 ⟨v1, v2, rfl, ⟨a1, c1, rfl, _⟩, ⟨a2, c2, rfl, _⟩, hb1⟩
  have hx1 := hx.below hb1
  have hB1 := below_thru hB hb1
  clear hx hB hb1 C
  go_wp2_with (refine wpList_store_box (cs := zeroT) rfl _ _ _ rfl hx1 rfl rfl (size_tok _ z32) rfl (tcell_one _ _) ?_; intro w2 hW2)
  exact bodyPost_ret (results_box2 Try.results53 hW2.box rfl rfl Try.underlying38 rfl (size_tok _ z32)) rfl ⟨rfl, hW2.below _ _ (Nat.le_refl _) hB1⟩

set_option maxRecDepth 100000 in
set_option maxHeartbeats 3200000 in
theorem tread_ok (k : Nums) {g : List Int} (hg : g.length = 32) {v : Value} (w : World) (h1 : IsL w .u8 v (k.msg ++ g)) : Calls Try.prog 53 #[v] w fun e w' => e = .returned (.tuple #[.agg (tcell k g).toArray, .int .i64 0]) ∧ Below w.heap.size w w' := by
  have hx : Box (w.alloc (.cells zeroT.toArray 38)) w.heap.size zeroT := Box.newc rfl rfl
  have hB : Below w.heap.size w (w.alloc (.cells zeroT.toArray 38)) := by go_grown
  have hm := k.msg_len
  have C := fun W => split_is w W h1
  rw [List.take_left' hm, List.drop_left' hm] at C
  have R := fun (W : World) (a b : Value) (h1 : IsL W .u8 a [4, 4, 4, 5]) (h2 : IsL W .u8 b k.msg) => read_is W h1 h2 (by decide) k.msg_byts
  rw [k.rea.1, k.rea.2] at R
  obtain ⟨M, hM⟩ : ∃ M, k.msg = M := ⟨_, rfl⟩
  rw [hM] at C R hm
  have HM := Lib.hid hm
  have HG := Lib.hid hg
  have hq : ∀ W : World, (Op.equalIn 10000 114 (.agg #[.int .i64 20, .int .i64 32]) (.agg #[.int .i64 20, .int .i64 32])).run Try.prog W = .ok true W := fun W =>
    eq_ints W 9998 Try.underlying114 Try.underlying3 (by kernel_rfl) [20, 32] [20, 32] rfl rfl
  have BT := fun W => build_tok k.t k.u k.e k.x HG.out W
  have ST := Lib.hid (size_tok k HG.out)
  have LT := Lib.hid (len_tok Nums.zero k z32 HG.out)
  have OT := Lib.hid (tcell_one k g)
  have HV : tcell k g = .int .u32 k.t :: .int .u32 k.u :: .int .u32 k.e :: .int .u64 k.x :: g.map (Value.int .u8) := rfl
  rw [← HV] at BT
  clear HV
  obtain ⟨V, hV⟩ : ∃ V, tcell k g = V := ⟨_, rfl⟩
  rw [hV] at BT ST LT OT ⊢
  clear hV
  clear hM hm hg h1
  go_enter Try.func53, Try.ntmps53
  go_wp2_with fail
  refine (C _).mono ?_
  rintro e w1 ⟨v1, v2, rfl, hv1, hv2, hb1⟩
  have hx1 := hx.below hb1
  have hB1 := below_thru hB hb1
  have hs1 := hB1.size
  have hzx := hx1.lt
  obtain ⟨a1, c1, rfl, i1, _⟩ := id hv1
  obtain ⟨a2, c2, rfl, i2, _⟩ := id hv2
  obtain ⟨b2, o2, rfl, hr2⟩ := IsL.rangeOf hv2 (by have := HG.out; omega)
  have zb2 : b2 < w.heap.size := lt_of_cell (hr2 0 _ (List.getElem?_eq_getElem (by simp [HG.out])))
  have ic1 := i1.room
  have ic2 := i2.room
  have im1 := i1.most
  have im2 := i2.most
  have HV1 := Lib.hid (hv1.below hB1)
  have hg1 := range_below hr2 hB1
  rw [HM.out] at ic1 ⊢
  rw [HG.out] at ic2 ⊢
  have HV1 : Hid (IsL w1 .u8 (.slice a1 20 c1) M) := Lib.hid (by have := HV1.out; rwa [HM.out] at this)
  have hA : ∀ W, (Instr.arrayAt 29 (.slice (some ⟨b2, o2, none⟩) 32 c2)).run Try.prog W = .ok (.pointer (some ⟨b2, o2, none⟩)) W := fun W => run_arrayAt W 29 _ 32 _ 32 c2 Try.underlying29 (Nat.le_refl _)
  clear hx hB hb1 hv1 hv2 i1 i2 hr2 C
  go_wp2_with fail
  have hkin : IsL (w1.alloc (.cells #[.int .u8 4, .int .u8 4, .int .u8 4, .int .u8 5] 5)) .u8 (.slice (some ⟨w1.heap.size, 0, none⟩) 4 4) [4, 4, 4, 5] := IsL.built [4, 4, 4, 5] rfl rfl rfl rfl (by decide)
  refine (R _ _ _ hkin (HV1.out.alloc _)).mono ?_
  rintro e w2 ⟨vr, rfl, hor, hb2⟩
  have hBw : Below w1.heap.size w1 w2 := below_thru (by go_grown) hb2
  have hx2 := hx1.below hBw
  have hB2 := below_thru hB1 hBw
  have hg2 := range_below hg1 hBw
  have hrow := IsR.own hor rfl rfl
  have hob := ownR_block hor
  have hs2 := hB2.size
  have f0 : ∃ f, k.row[0]? = some f ∧ f.n = k.t ∧ f.n ≤ 4294967295 := ⟨_, rfl, rfl, k.ht.2⟩
  have f1 : ∃ f, k.row[1]? = some f ∧ f.n = k.u ∧ f.n ≤ 4294967295 := ⟨_, rfl, rfl, k.hu.2⟩
  have f2 : ∃ f, k.row[2]? = some f ∧ f.n = k.e ∧ f.n ≤ 4294967295 := ⟨_, rfl, rfl, k.he.2⟩
  have f3 : ∃ f, k.row[3]? = some f ∧ f.n = k.x := ⟨_, rfl, rfl⟩
  have hfl : k.row.length = 4 := rfl
  obtain ⟨fs, hfs⟩ : ∃ fs, k.row = fs := ⟨_, rfl⟩
  rw [hfs] at hrow f0 f1 f2 f3 hfl
  obtain ⟨a3, c3, rfl, hrr⟩ := id hrow
  obtain ⟨f3, e3, q3⟩ := f3
  obtain ⟨b4, o4, rfl, hR4⟩ := hrow.get 34 rfl e3
  have zb4 : w.heap.size < b4 := by have := hob b4 rfl; simp at this; omega
  have c4 := hR4 1 (.int .u64 k.x) (by rw [← q3]; rfl)
  have ir1 := hrr.room
  have ir2 := hrr.most
  rw [hfl] at ir1 ⊢
  have hrow : IsR LF w2 (.slice (some ⟨b4, o4, none⟩) 4 c3) fs := by rwa [hfl] at hrow
  clear hx1 hB1 hg1 hBw hb2 hor R hkin HV1 hfs hrr hR4 e3 q3 hob
  have hIG := Lib.hid (show (Try.prog.info? 29).map (·.size) = some (g.map (Value.int .u8)).length by rw [sizeDig, List.length_map, HG.out])
  go_upto_region 6 with fail
  refine wp_region_held_drew (S := fun W => W.cell? ⟨w2.heap.size, 0, none⟩ = some (.slice (some ⟨b4, o4, none⟩) 4 c3) ∧ W.cell? ⟨b4, o4 + 3 * 34 + 1, none⟩ = some (.int .u64 k.x) ∧ W.rangeAt b2 o2 (g.map (Value.int .u8))) (by kernel_rfl) ⟨(Box.newc (l := [.slice (some ⟨b4, o4, none⟩) 4 c3]) rfl rfl).c 0 _ rfl, cell_alloc c4, range_cells hg2 (fun b o v h => cell_alloc h)⟩ (fun _ => ?_)
  have hX : Below w2.heap.size w2 (w2.alloc (.cells #[.slice (some ⟨b4, o4, none⟩) 4 c3] 85)) := (Below.refl _ _).alloc (Nat.le_refl _) _
  have cX := (Box.newc (l := [.slice (some ⟨b4, o4, none⟩) 4 c3]) (w := w2) (t := 85) rfl rfl).c 0 _ rfl
  have zX : w2.heap.size < (w2.alloc (.cells #[.slice (some ⟨b4, o4, none⟩) 4 c3] 85)).heap.size := by simp
  refine F_drew (F := fun W => wpAnyH _ _ _ _ _ _ _ _ W) ?_
  intro W0 hb0
  have hW0 : Below w2.heap.size w2 W0 := below_thru hX hb0
  have hx0 := And.intro (cell_below hb0 cX) (And.intro (cell_below hW0 c4) (range_below hg2 hW0))
  have zx2 := hx2.lt; have ht0 := hx2.below hW0; have hB0 := below_thru hB2 hW0; have hr0 := hrow.below hW0
  clear hx2 hg2 hB2 c4 cX hb0 hX hrow zX
  refine takeH 0 29 (v := ?vt0_1) rfl (by rfl) (by kernel_rfl) (by kernel_rfl) (by kernel_rfl) (fun _ _ _ h => h) (Or.inl ⟨by rfl, ?_⟩) (hx0) ?_
  rotate_left
  · intro wq hSq
    go_simp
    exact rfl
  try simp only [Act.put, List.setIfInBounds_toArray, List.set_cons_zero, List.set_cons_succ]
  refine takeH 2 31 (v := ?vt2_2) rfl (by rfl) (by kernel_rfl) (by kernel_rfl) (by kernel_rfl) (fun _ _ _ h => h) (Or.inl ⟨by rfl, ?_⟩) (hx0) ?_
  rotate_left
  · intro wq hSq
    go_simp
    exact rfl
  try simp only [Act.put, List.setIfInBounds_toArray, List.set_cons_zero, List.set_cons_succ]
  refine takeH 4 33 (v := ?vt4_3) rfl (by rfl) (by kernel_rfl) (by kernel_rfl) (by kernel_rfl) (fun _ _ _ h => h) (Or.inl ⟨by rfl, ?_⟩) (hx0) ?_
  rotate_left
  · intro wq hSq
    go_simp
    exact rfl
  try simp only [Act.put, List.setIfInBounds_toArray, List.set_cons_zero, List.set_cons_succ]
  refine takeH 6 35 (v := ?vt6_4) rfl (by rfl) (by kernel_rfl) (by kernel_rfl) (by kernel_rfl) (fun _ _ _ h => h) (Or.inl ⟨by rfl, ?_⟩) (hx0) ?_
  rotate_left
  · intro wq hSq
    have cq := hSq.1
    have zq := lt_of_cell cq
    go_simp
    exact rfl
  try simp only [Act.put, List.setIfInBounds_toArray, List.set_cons_zero, List.set_cons_succ]
  refine takeH 7 36 (v := ?vt7_5) rfl (by rfl) (by kernel_rfl) (by kernel_rfl) (by kernel_rfl) (fun _ _ _ h => h) (Or.inl ⟨by rfl, ?_⟩) (hx0) ?_
  rotate_left
  · intro wq hSq
    go_simp
    exact rfl
  try simp only [Act.put, List.setIfInBounds_toArray, List.set_cons_zero, List.set_cons_succ]
  refine takeH 8 37 (v := ?vt8_6) rfl (by rfl) (by kernel_rfl) (by kernel_rfl) (by kernel_rfl) (fun _ _ _ h => h) (Or.inl ⟨by rfl, ?_⟩) (hx0) ?_
  rotate_left
  · intro wq hSq
    go_simp
    exact rfl
  try simp only [Act.put, List.setIfInBounds_toArray, List.set_cons_zero, List.set_cons_succ]
  refine takeH 9 38 (v := ?vt9_7) rfl (by rfl) (by kernel_rfl) (by kernel_rfl) (by kernel_rfl) (fun _ _ _ h => h) (Or.inl ⟨by rfl, ?_⟩) (hx0) ?_
  rotate_left
  · intro wq hSq
    have cq := hSq.2.1
    have zq := lt_of_cell cq
    go_simp
    exact rfl
  try simp only [Act.put, List.setIfInBounds_toArray, List.set_cons_zero, List.set_cons_succ]
  refine takeH 10 39 (v := ?vt10_8) rfl (by rfl) (by kernel_rfl) (by kernel_rfl) (by kernel_rfl) (fun _ _ _ h => h) (Or.inl ⟨by rfl, ?_⟩) (hx0) ?_
  rotate_left
  · intro wq hSq
    go_simp
    exact rfl
  try simp only [Act.put, List.setIfInBounds_toArray, List.set_cons_zero, List.set_cons_succ]
  refine takeH 11 40 (v := ?vt11_9) rfl (by rfl) (by kernel_rfl) (by kernel_rfl) (by kernel_rfl) (fun _ _ _ h => h) (Or.inl ⟨by rfl, ?_⟩) (hx0) ?_
  rotate_left
  · intro wq hSq
    go_simp
    exact rfl
  try simp only [Act.put, List.setIfInBounds_toArray, List.set_cons_zero, List.set_cons_succ]
  refine takeH 12 41 (v := .agg (g.map (Value.int .u8)).toArray) rfl (by rfl) (by kernel_rfl) (by kernel_rfl) (by kernel_rfl) (fun _ _ _ h => h) (yieldsIf_load_mid (by rfl) _ _ rfl _ _ rfl (g.map (Value.int .u8)) _ (fun wq hq => hq.2.2) Try.underlying29 rfl hIG.out) (hx0) ?_
  try simp only [Act.put, List.setIfInBounds_toArray, List.set_cons_zero, List.set_cons_succ]
  refine wpAnyH_ready (rs := [1]) (by kernel_rfl) (by simp) (AllReadyH.cons rfl (fun K hK => ?_) AllReadyH.nil)
  obtain ⟨f0w, e0w, q0w, l0w⟩ := f0
  have C0 := rword_is W0 hx0.1 hr0 e0w l0w (by omega)
  rw [q0w] at C0
  clear q0w e0w l0w
  go_simp
  refine C0.mono ?_
  rintro e W10 ⟨rfl, rfl⟩
  clear C0
  refine hK.out _ _ hx0 (fun _ => ?_); clear hK K
  refine wpAnyH_ready (rs := [3]) (by kernel_rfl) (by simp) (AllReadyH.cons rfl (fun K hK => ?_) AllReadyH.nil)
  obtain ⟨f1w, e1w, q1w, l1w⟩ := f1
  have C1 := rword_is W10 hx0.1 hr0 e1w l1w (by omega)
  rw [q1w] at C1
  clear q1w e1w l1w
  go_simp
  refine C1.mono ?_
  rintro e W11 ⟨rfl, rfl⟩
  clear C1
  refine hK.out _ _ hx0 (fun _ => ?_); clear hK K
  refine wpAnyH_ready (rs := [5]) (by kernel_rfl) (by simp) (AllReadyH.cons rfl (fun K hK => ?_) AllReadyH.nil)
  obtain ⟨f2w, e2w, q2w, l2w⟩ := f2
  have C2 := rword_is W11 hx0.1 hr0 e2w l2w (by omega)
  rw [q2w] at C2
  clear q2w e2w l2w
  go_simp
  refine C2.mono ?_
  rintro e W12 ⟨rfl, rfl⟩
  clear C2
  refine hK.out _ _ hx0 (fun _ => ?_); clear hK K
  refine takeH 13 42 (v := .agg V.toArray) rfl (by rfl) (by kernel_rfl) (by kernel_rfl) (by kernel_rfl) (fun _ _ _ h => h) (yieldsIf_build (by rfl) _ _ rfl (us := #[(0, .int .u32 k.t), (1, .int .u32 k.u), (2, .int .u32 k.e), (3, .int .u64 k.x), (4, .agg (g.map (Value.int .u8)).toArray)]) (by rfl) BT) (hx0) ?_
  try simp only [Act.put, List.setIfInBounds_toArray, List.set_cons_zero, List.set_cons_succ]
  refine wpAnyH_ready (rs := [14]) (by kernel_rfl) (by simp) (AllReadyH.cons rfl (fun K hK => ?_) AllReadyH.nil)
  refine step_store_box0 rfl rfl _ _ _ rfl ht0 rfl rfl ST.out LT.out OT.out (fun W13 hW => ?_)
  have hx13 := And.intro (hW.cell _ _ _ (by omega) hx0.1) (And.intro (hW.cell _ _ _ (by omega) hx0.2.1) (fun j v hv => hW.cell _ _ _ (by omega) (hx0.2.2 j v hv) : W13.rangeAt b2 o2 (g.map (Value.int .u8))))
  refine hK.out _ _ hx13 (fun _ => ?_); clear hK K
  refine takeH 15 3 (v := ?vt15_14) rfl (by rfl) (by kernel_rfl) (by kernel_rfl) (by kernel_rfl) (fun _ _ _ h => h) (Or.inl ⟨by rfl, ?_⟩) (hx13) ?_
  rotate_left
  · intro wq hSq
    go_simp
    exact rfl
  try simp only [Act.put, List.setIfInBounds_toArray, List.set_cons_zero, List.set_cons_succ]
  refine wpAnyH_done (by kernel_rfl) ?_ _
  go_wp2_with fail
  exact bodyPost_ret (results_box2 Try.results53 hW.box rfl rfl Try.underlying38 rfl ST.out) rfl ⟨rfl, hW.below _ _ (Nat.le_refl _) hB0⟩


end Go.Proofs.Ytkpdlbcmnfphmaa

namespace Go.Proofs.Ytkpdlbcmnfphmaa
open Go.RowKit

set_option maxRecDepth 100000 in
set_option maxHeartbeats 1600000 in
theorem rbytes_own (n : Int) (m : Nat) (w : World) (h0 : 0 ≤ n) (h1 : n ≤ 18446744073709551615) (hm : m ≤ 8) : Calls Try.prog 49 #[.int .u64 n, .int .i64 m] w (GivesOwn (be m n) w) := by
  have _ := h1
  obtain ⟨ti, hin, hz0, hz1, hz2⟩ := info_parts info_u8'
  go_enter Try.func49, Try.ntmps49
  go_wp2_with fail
  go_loopw [5, 6] (fun s5 s6 wr => ∃ (i j : Nat), s6 = .int .i64 ((i : Int) - 1) ∧ Hid (m = j + i) ∧ i ≤ m ∧ Hid (wr.ownsRow w.heap.size 5 1 s5 j (((be m n).take j).map (Value.int .u8))) ∧ Below w.heap.size w wr) (fun _ s6 _ => (intOf s6 + 1).toNat)
  case atStart => exact ⟨m, 0, rfl, Lib.hid (by omega), Nat.le_refl _, Lib.hid (by simpa using ownU_nil), by go_grown⟩
  case round =>
    obtain ⟨i, j, rfl, HMJ, him, HO, hB⟩ := hrel
    have hs := hB.size
    cases i with
    | zero =>
      have HX := Lib.hid (show (be m n).take j = be m n from List.take_of_length_le (by rw [be_len]; have := HMJ.out; omega))
      have d1 : ((0 : Nat) : Int) - 1 = -1 := rfl
      rw [d1]
      go_wp2_with fail
      go_returns
      refine ⟨_, rfl, ?_, hB⟩
      have h1 := HO.out
      rw [HX.out, show j = (be m n).length by rw [be_len]; have := HMJ.out; omega] at h1
      exact h1
    | succ i =>
      have d1 : ((i + 1 : Nat) : Int) - 1 = (i : Int) := by omega
      rw [d1]
      have HT := Lib.hid (be_take_succ m n j i HMJ.out h0)
      have hjm : j + 1 ≤ 8 := by have := HMJ.out; omega
      have HO2 := Lib.hid (fun (x : Int) => ownR_below HO.out ((Below.refl wr.heap.size wr).alloc (Nat.le_refl _) (.cells #[.int .u8 x] 5)))
      go_wp2_with (at_builtin; refine wpList_append_ints rfl _ _ 33 rfl w.heap.size 5 ti (.int .u8 0) 1 .u8 Try.underlying33 hin hz0 hz1 hz2 rfl _ j _ rfl (HO2.out _) _ 1 [n / 2 ^ (8 * i) % 256] rfl ((IsL.built [n / 2 ^ (8 * i) % 256] rfl rfl rfl rfl (by simp)).ints) (fun h => by cases h) (by unfold maxLen; simp; omega) (by simp; omega) (by simp; omega) ?_; intro v4 w4 hown4 hgrow4)
      have hB4 : Below w.heap.size w w4 := (hB.alloc hs _).grown hgrow4 (by simp; omega) (own_block (HO2.out (n / 2 ^ (8 * i) % 256)))
      have HO4 := Lib.hid (show w4.ownsRow w.heap.size 5 1 v4 (j + 1) (((be m n).take (j + 1)).map (Value.int .u8)) by rw [HT.out, List.map_append]; exact hown4)
      clear hown4 hgrow4 HO2 HO
      go_wp2_with fail
      go_roundw
      case rel => exact ⟨i, j + 1, rfl, Lib.hid (by have := HMJ.out; omega), by omega, HO4, hB4⟩
      case measure => simp [intOf]

theorem Box.keepR {w w' : World} {b B : Nat} {vs : List Value} (h : Box w b vs) (hb : Below B w w') (hB : b < B) : Box w' b vs := by
  have hh := hb.block b hB
  exact ⟨fun i v e => by have := h.c i v e; simpa [World.cell?, hh] using this, fun i v e => by have := h.f i v e; simpa [World.frozen?, hh] using this, Nat.lt_of_lt_of_le h.lt hb.size⟩
theorem Box.upR {w w' : World} {b B : Nat} {vs : List Value} (h : Box w b vs) (hb : Below B w w') (hB : b < B) : Box w' b vs ∧ b < w'.heap.size := ⟨h.keepR hb hB, (h.keepR hb hB).lt⟩
theorem step_append_ints {P : Program} {w : World} {ops : Array Oper} {o : Oper} {a : Act} {K : Act → World → Prop} {Q : Exit → Act → World → Prop} {E : Prop} (d : Nat) (hd : o.dst = some d) (hgd : o.guard = none) (s x : Operand) (t : TypeId)
    (ho : o.op = .call { callee := .builtin .append, args := #[s, x], argTypes := #[t, t] })
    (base : Nat) (e : TypeId) (i : TypeInfo) (z : Value) (bytes : Nat) (k : IntKind) (ht : P.underlying t = some (.slice e)) (hi : P.info? e = some i) (hz : i.zero = some z)
    (hsize : i.size = 1) (hby : i.bytes = bytes) (hzs : z.cells.size = 1)
    (v : Value) (n : Nat) (l : List Value) (hs : a.eval s = v) (hown : w.ownsRow base e 1 v n l)
    (v2 : Value) (xs : List Int) (hx : a.eval x = v2) (hin : IsL w k v2 xs)
    (h63 : n + xs.length ≤ maxLen) (hbytes : (n + xs.length) * bytes ≤ 140737488355328) (hbase : base ≤ w.heap.size)
    (h : ∀ v' w', w'.ownsRow base e 1 v' (n + xs.length) (l ++ xs.map (Value.int k)) → Below base w w' → K (a.put (some d) v') w') : if Region.wanted o (yielded ops a.tmps) = true then Oper.wp P o a w K Q else E := by
  rw [if_pos (by simp [Region.wanted, hgd])]
  obtain ⟨at0, cap, rfl, h2, h0⟩ := hin
  exact wp_append_ints s x t ho base e i z bytes k ht hi hz hsize hby hzs v n l hs hown at0 cap xs hx h2 h0 h63 hbytes hbase fun v' w' h1 h2 => by rw [hd]; exact h v' w' h1 ((Below.refl _ w).grown h2 hbase (own_block hown))

set_option maxRecDepth 100000 in
set_option maxHeartbeats 3200000 in
theorem rmsg_is (k : Nums) {g : List Int} (w : World) : Calls Try.prog 58 #[.agg (tcell k g).toArray] w (GivesOwn k.msg w) := by
  obtain ⟨ti, hin, hz0, hz1, hz2⟩ := info_parts info_u8'
  have ht0 := k.ht.1
  have ht1 := k.ht.2
  have hu0 := k.hu.1
  have hu1 := k.hu.2
  have he0 := k.he.1
  have he1 := k.he.2
  have wt : IntKind.u64.wrap k.t = k.t := by rw [IntKind.wrap_u64]; omega
  have wu : IntKind.u64.wrap k.u = k.u := by rw [IntKind.wrap_u64]; omega
  have we : IntKind.u64.wrap k.e = k.e := by rw [IntKind.wrap_u64]; omega
  have A1 := fun W => rbytes_own k.t 4 W ht0 (by omega) (by omega)
  have A2 := fun W => rbytes_own k.u 4 W hu0 (by omega) (by omega)
  have A3 := fun W => rbytes_own k.e 4 W he0 (by omega) (by omega)
  have A4 := fun W => rbytes_own k.x 8 W k.hx.1 k.hx.2 (by omega)
  have l1 := be_len 4 k.t
  have l2 := be_len 4 k.u
  have l3 := be_len 4 k.e
  have l4 := be_len 8 k.x
  have HM : Hid (k.msg = be 4 k.t ++ (be 4 k.u ++ (be 4 k.e ++ be 8 k.x))) := Lib.hid rfl
  obtain ⟨T, e1⟩ : ∃ T, be 4 k.t = T := ⟨_, rfl⟩
  obtain ⟨U, e2⟩ : ∃ T, be 4 k.u = T := ⟨_, rfl⟩
  obtain ⟨E, e3⟩ : ∃ T, be 4 k.e = T := ⟨_, rfl⟩
  obtain ⟨X, e4⟩ : ∃ T, be 8 k.x = T := ⟨_, rfl⟩
  rw [e1] at A1 l1 HM
  rw [e2] at A2 l2 HM
  rw [e3] at A3 l3 HM
  rw [e4] at A4 l4 HM
  have L1 := Lib.hid l1
  have L2 := Lib.hid l2
  have L3 := Lib.hid l3
  have L4 := Lib.hid l4
  obtain ⟨M, hM⟩ : ∃ M, k.msg = M := ⟨_, rfl⟩
  rw [hM] at HM ⊢
  obtain ⟨V, hV⟩ : ∃ V, tcell k g = V := ⟨_, rfl⟩
  have v0 : V[0]? = some (.int .u32 k.t) := by rw [← hV]; rfl
  have v1 : V[1]? = some (.int .u32 k.u) := by rw [← hV]; rfl
  have v2 : V[2]? = some (.int .u32 k.e) := by rw [← hV]; rfl
  have v3 : V[3]? = some (.int .u64 k.x) := by rw [← hV]; rfl
  rw [hV]
  clear hV hM l1 l2 l3 l4 e1 e2 e3 e4 ht0 ht1 hu0 hu1 he0 he1
  have hx : Box (w.alloc (.cells V.toArray 38)) w.heap.size V := Box.newc rfl rfl
  have hB : Below w.heap.size w (w.alloc (.cells V.toArray 38)) := by go_grown
  go_enter Try.func58, Try.ntmps58
  go_upto_region 1 with fail
  refine wp_region_held_drew (S := fun w' => Box w' w.heap.size V) (by kernel_rfl) (hx.drew) (fun _ => ?_)
  refine F_drew (F := fun W => wpAnyH _ _ _ _ _ _ _ _ W) ?_
  intro W0 hb0
  have hx0 := hx.below hb0; have hB0 := below_thru hB hb0; have hL0 := Below.refl W0.heap.size W0; have hl0 := hL0.size; have sz0 := hx0.lt
  clear hx hB hb0
  refine takeH 0 4 (v := ?vs0_1) rfl (by rfl) (by kernel_rfl) (by kernel_rfl) (by kernel_rfl) (fun _ _ _ h => h) (Or.inl ⟨by rfl, ?_⟩) (hx0) ?_
  rotate_left
  · intro wq hSq
    go_simp
    exact rfl
  try simp only [Act.put, List.setIfInBounds_toArray, List.set_cons_zero, List.set_cons_succ]
  refine takeH 1 5 (v := ?vs1_2) rfl (by rfl) (by kernel_rfl) (by kernel_rfl) (by kernel_rfl) (fun _ _ _ h => h) (Or.inl ⟨by rfl, ?_⟩) (hx0) ?_
  rotate_left
  · intro wq hSq
    have cq := hSq.c 0 _ v0
    have zq := lt_of_cell cq
    go_simp
    exact rfl
  try simp only [Act.put, List.setIfInBounds_toArray, List.set_cons_zero, List.set_cons_succ]
  refine takeH 2 6 (v := ?vs2_3) rfl (by rfl) (by kernel_rfl) (by kernel_rfl) (by kernel_rfl) (fun _ _ _ h => h) (Or.inl ⟨by rfl, ?_⟩) (hx0) ?_
  rotate_left
  · intro wq hSq
    go_simp
    exact rfl
  try simp only [Act.put, List.setIfInBounds_toArray, List.set_cons_zero, List.set_cons_succ]
  refine takeH 4 8 (v := ?vs4_4) rfl (by rfl) (by kernel_rfl) (by kernel_rfl) (by kernel_rfl) (fun _ _ _ h => h) (Or.inl ⟨by rfl, ?_⟩) (hx0) ?_
  rotate_left
  · intro wq hSq
    go_simp
    exact rfl
  try simp only [Act.put, List.setIfInBounds_toArray, List.set_cons_zero, List.set_cons_succ]
  refine takeH 5 9 (v := ?vs5_5) rfl (by rfl) (by kernel_rfl) (by kernel_rfl) (by kernel_rfl) (fun _ _ _ h => h) (Or.inl ⟨by rfl, ?_⟩) (hx0) ?_
  rotate_left
  · intro wq hSq
    have cq := hSq.c 1 _ v1
    have zq := lt_of_cell cq
    go_simp
    exact rfl
  try simp only [Act.put, List.setIfInBounds_toArray, List.set_cons_zero, List.set_cons_succ]
  refine takeH 6 10 (v := ?vs6_6) rfl (by rfl) (by kernel_rfl) (by kernel_rfl) (by kernel_rfl) (fun _ _ _ h => h) (Or.inl ⟨by rfl, ?_⟩) (hx0) ?_
  rotate_left
  · intro wq hSq
    go_simp
    exact rfl
  try simp only [Act.put, List.setIfInBounds_toArray, List.set_cons_zero, List.set_cons_succ]
  refine wpAnyH_ready (rs := [3]) (by kernel_rfl) (by simp) (AllReadyH.cons rfl (fun K hK => ?_) AllReadyH.nil)
  go_simp
  refine (A1 _).mono ?_
  rintro e W7 ⟨va, rfl, oa, hb7⟩
  have oa := ownR_base oa (hl0)
  have hx7 := Box.below hx0 hb7
  have sz7 := hx7.lt
  have hB7 : Below w.heap.size w W7 := below_thru hB0 hb7
  have hL7 : Below W0.heap.size W0 W7 := below_thru hL0 hb7
  have hl7 := hL7.size
  refine hK.out _ _ hx7 (fun _ => ?_); clear hK K
  refine wpAnyH_ready (rs := [7]) (by kernel_rfl) (by simp) (AllReadyH.cons rfl (fun K hK => ?_) AllReadyH.nil)
  go_simp
  refine (A2 _).mono ?_
  rintro e W8 ⟨vb, rfl, ob, hb8⟩
  have ob := ownR_base ob (hl7)
  have hx8 := Box.below hx7 hb8
  have sz8 := hx8.lt
  have hB8 : Below w.heap.size w W8 := below_thru hB7 hb8
  have hL8 : Below W0.heap.size W0 W8 := below_thru hL7 hb8
  have hl8 := hL8.size
  have oa_8 := ownR_below oa hb8
  refine hK.out _ _ hx8 (fun _ => ?_); clear hK K
  refine wpAnyH_ready (rs := [8]) (by kernel_rfl) (by simp) (AllReadyH.cons rfl (fun K hK => ?_) AllReadyH.nil)
  refine step_append_ints 12 rfl rfl _ _ 33 rfl W0.heap.size 5 ti (.int .u8 0) 1 .u8 Try.underlying33 hin hz0 hz1 hz2 rfl _ _ _ rfl oa_8 _ U rfl (IsL.own ob rfl) (by have := L1.out; have := L2.out; have := L3.out; have := L4.out; unfold maxLen; omega) (by have := L1.out; have := L2.out; have := L3.out; have := L4.out; omega) hl8 ?_
  intro vc W9 oc hb9
  have hx9 := (Box.upR hx8 hb9 (by omega)).1
  have sz9 := hx9.lt
  have hB9 : Below w.heap.size w W9 := hB8.trans (hb9.mono (by omega))
  have hL9 : Below W0.heap.size W0 W9 := hL8.trans hb9
  have hl9 := hL9.size
  refine hK.out _ _ hx9 (fun _ => ?_); clear hK K
  refine takeH 9 3 (v := ?vs9_10) rfl (by rfl) (by kernel_rfl) (by kernel_rfl) (by kernel_rfl) (fun _ _ _ h => h) (Or.inl ⟨by rfl, ?_⟩) (hx9) ?_
  rotate_left
  · intro wq hSq
    go_simp
    exact rfl
  try simp only [Act.put, List.setIfInBounds_toArray, List.set_cons_zero, List.set_cons_succ]
  refine wpAnyH_done (by kernel_rfl) ?_ _

  go_upto_region 2 with fail
  refine wp_region_held_drew (S := fun w' => Box w' w.heap.size V) (by kernel_rfl) (hx9.drew) (fun _ => ?_)
  refine F_drew (F := fun W => wpAnyH _ _ _ _ _ _ _ _ W) ?_
  intro Y0 hb0
  have hy0 := Box.below hx9 hb0; have hC0 := below_thru hB9 hb0; have hM0 := below_thru hL9 hb0; have hm0 := hM0.size; have szY := hy0.lt; have oc := ownR_below oc hb0
  clear hx9 hB9 hb0
  refine takeH 0 13 (v := ?vu0_51) rfl (by rfl) (by kernel_rfl) (by kernel_rfl) (by kernel_rfl) (fun _ _ _ h => h) (Or.inl ⟨by rfl, ?_⟩) (hy0) ?_
  rotate_left
  · intro wq hSq
    go_simp
    exact rfl
  try simp only [Act.put, List.setIfInBounds_toArray, List.set_cons_zero, List.set_cons_succ]
  refine takeH 1 14 (v := ?vu1_52) rfl (by rfl) (by kernel_rfl) (by kernel_rfl) (by kernel_rfl) (fun _ _ _ h => h) (Or.inl ⟨by rfl, ?_⟩) (hy0) ?_
  rotate_left
  · intro wq hSq
    go_simp
    exact rfl
  try simp only [Act.put, List.setIfInBounds_toArray, List.set_cons_zero, List.set_cons_succ]
  refine takeH 2 15 (v := ?vu2_53) rfl (by rfl) (by kernel_rfl) (by kernel_rfl) (by kernel_rfl) (fun _ _ _ h => h) (Or.inl ⟨by rfl, ?_⟩) (hy0) ?_
  rotate_left
  · intro wq hSq
    have cq := hSq.c 2 _ v2
    have zq := lt_of_cell cq
    go_simp
    exact rfl
  try simp only [Act.put, List.setIfInBounds_toArray, List.set_cons_zero, List.set_cons_succ]
  refine takeH 3 16 (v := ?vu3_54) rfl (by rfl) (by kernel_rfl) (by kernel_rfl) (by kernel_rfl) (fun _ _ _ h => h) (Or.inl ⟨by rfl, ?_⟩) (hy0) ?_
  rotate_left
  · intro wq hSq
    go_simp
    exact rfl
  try simp only [Act.put, List.setIfInBounds_toArray, List.set_cons_zero, List.set_cons_succ]
  refine takeH 6 19 (v := ?vu6_55) rfl (by rfl) (by kernel_rfl) (by kernel_rfl) (by kernel_rfl) (fun _ _ _ h => h) (Or.inl ⟨by rfl, ?_⟩) (hy0) ?_
  rotate_left
  · intro wq hSq
    go_simp
    exact rfl
  try simp only [Act.put, List.setIfInBounds_toArray, List.set_cons_zero, List.set_cons_succ]
  refine takeH 7 20 (v := ?vu7_56) rfl (by rfl) (by kernel_rfl) (by kernel_rfl) (by kernel_rfl) (fun _ _ _ h => h) (Or.inl ⟨by rfl, ?_⟩) (hy0) ?_
  rotate_left
  · intro wq hSq
    have cq := hSq.c 3 _ v3
    have zq := lt_of_cell cq
    go_simp
    exact rfl
  try simp only [Act.put, List.setIfInBounds_toArray, List.set_cons_zero, List.set_cons_succ]
  refine wpAnyH_ready (rs := [4]) (by kernel_rfl) (by simp) (AllReadyH.cons rfl (fun K hK => ?_) AllReadyH.nil)
  go_simp
  refine (A3 _).mono ?_
  rintro e W57 ⟨vd, rfl, od, hb57⟩
  have od := ownR_base od (hm0)
  have hx57 := Box.below hy0 hb57
  have sz57 := hx57.lt
  have hB57 : Below w.heap.size w W57 := below_thru hC0 hb57
  have hL57 : Below W0.heap.size W0 W57 := below_thru hM0 hb57
  have hl57 := hL57.size
  have oc_57 := ownR_below oc hb57
  refine hK.out _ _ hx57 (fun _ => ?_); clear hK K
  refine wpAnyH_ready (rs := [5]) (by kernel_rfl) (by simp) (AllReadyH.cons rfl (fun K hK => ?_) AllReadyH.nil)
  refine step_append_ints 18 rfl rfl _ _ 33 rfl W0.heap.size 5 ti (.int .u8 0) 1 .u8 Try.underlying33 hin hz0 hz1 hz2 rfl _ _ _ rfl oc_57 _ E rfl (IsL.own od rfl) (by have := L1.out; have := L2.out; have := L3.out; have := L4.out; unfold maxLen; omega) (by have := L1.out; have := L2.out; have := L3.out; have := L4.out; omega) hl57 ?_
  intro ve W58 oe hb58
  have hx58 := (Box.upR hx57 hb58 (by omega)).1
  have sz58 := hx58.lt
  have hB58 : Below w.heap.size w W58 := hB57.trans (hb58.mono (by omega))
  have hL58 : Below W0.heap.size W0 W58 := hL57.trans hb58
  have hl58 := hL58.size
  refine hK.out _ _ hx58 (fun _ => ?_); clear hK K
  refine wpAnyH_ready (rs := [8]) (by kernel_rfl) (by simp) (AllReadyH.cons rfl (fun K hK => ?_) AllReadyH.nil)
  go_simp
  refine (A4 _).mono ?_
  rintro e W59 ⟨vf, rfl, of, hb59⟩
  have of := ownR_base of (hl58)
  have hx59 := Box.below hx58 hb59
  have sz59 := hx59.lt
  have hB59 : Below w.heap.size w W59 := below_thru hB58 hb59
  have hL59 : Below W0.heap.size W0 W59 := below_thru hL58 hb59
  have hl59 := hL59.size
  have oe_59 := ownR_below oe hb59
  refine hK.out _ _ hx59 (fun _ => ?_); clear hK K
  refine wpAnyH_ready (rs := [9]) (by kernel_rfl) (by simp) (AllReadyH.cons rfl (fun K hK => ?_) AllReadyH.nil)
  refine step_append_ints 22 rfl rfl _ _ 33 rfl W0.heap.size 5 ti (.int .u8 0) 1 .u8 Try.underlying33 hin hz0 hz1 hz2 rfl _ _ _ rfl oe_59 _ X rfl (IsL.own of rfl) (by have := L1.out; have := L2.out; have := L3.out; have := L4.out; unfold maxLen; omega) (by have := L1.out; have := L2.out; have := L3.out; have := L4.out; omega) hl59 ?_
  intro vg W60 og hb60
  have hx60 := (Box.upR hx59 hb60 (by omega)).1
  have sz60 := hx60.lt
  have hB60 : Below w.heap.size w W60 := hB59.trans (hb60.mono (by omega))
  have hL60 : Below W0.heap.size W0 W60 := hL59.trans hb60
  have hl60 := hL60.size
  refine hK.out _ _ hx60 (fun _ => ?_); clear hK K
  refine takeH 10 2 (v := ?vu10_61) rfl (by rfl) (by kernel_rfl) (by kernel_rfl) (by kernel_rfl) (fun _ _ _ h => h) (Or.inl ⟨by rfl, ?_⟩) (hx60) ?_
  rotate_left
  · intro wq hSq
    go_simp
    exact rfl
  try simp only [Act.put, List.setIfInBounds_toArray, List.set_cons_zero, List.set_cons_succ]
  refine wpAnyH_done (by kernel_rfl) ?_ _
  go_wp2_with fail
  go_returns
  refine ⟨_, rfl, ?_, hB60⟩
  have h1 := ownR_base og (Nat.le_of_lt sz0)
  have hq : M = ((T ++ U) ++ E) ++ X := by rw [HM.out]; simp only [List.append_assoc]
  rw [hq]
  have hn : (((T ++ U) ++ E) ++ X).length = T.length + U.length + E.length + X.length := by simp only [List.length_append]
  rw [hn]
  rw [List.map_append, List.map_append, List.map_append]
  exact h1


end Go.Proofs.Ytkpdlbcmnfphmaa

namespace Go.Proofs.Ytkpdlbcmnfphmaa
open Go.RowKit

set_option maxRecDepth 100000 in
set_option maxHeartbeats 3200000 in
theorem rwrite_is (k : Nums) {g : List Int} (hg : g.length = 32) (w : World) : Calls Try.prog 48 #[.agg (tcell k g).toArray] w (GivesOwn (k.msg ++ g) w) := by
  obtain ⟨ti, hin, hz0, hz1, hz2⟩ := info_parts info_u8'
  have A := fun W => rmsg_is k (g := g) W
  have hm := k.msg_len
  obtain ⟨M, hM⟩ : ∃ M, k.msg = M := ⟨_, rfl⟩
  rw [hM] at A hm ⊢
  have HM := Lib.hid hm
  have HG := Lib.hid hg
  have HT := Lib.hid (tcell_drop k g)
  have ST := Lib.hid (size_tok k hg)
  obtain ⟨V, hV⟩ : ∃ V, tcell k g = V := ⟨_, rfl⟩
  rw [hV] at A HT ST ⊢
  clear hV hM hm hg
  have hx : Box (w.alloc (.cells V.toArray 38)) w.heap.size V := Box.newc rfl rfl
  have hB : Below w.heap.size w (w.alloc (.cells V.toArray 38)) := by go_grown
  go_enter Try.func48, Try.ntmps48
  go_upto_region 1 with fail
  refine wp_region_held_drew (S := fun w' => Box w' w.heap.size V) (by kernel_rfl) (hx.drew) (fun _ => ?_)
  refine F_drew (F := fun W => wpAnyH _ _ _ _ _ _ _ _ W) ?_
  intro W0 hb0
  have hx0 := hx.below hb0; have hB0 := below_thru hB hb0; have hL0 := Below.refl W0.heap.size W0; have hl0 := hL0.size; have sz0 := hx0.lt
  clear hx hB hb0
  refine takeH 2 5 (v := ?vs2_1) rfl (by rfl) (by kernel_rfl) (by kernel_rfl) (by kernel_rfl) (fun _ _ _ h => h) (Or.inl ⟨by rfl, ?_⟩) (hx0) ?_
  rotate_left
  · intro wq hSq
    go_simp
    exact rfl
  try simp only [Act.put, List.setIfInBounds_toArray, List.set_cons_zero, List.set_cons_succ]
  refine takeH 3 6 (v := ?vs3_2) rfl (by rfl) (by kernel_rfl) (by kernel_rfl) (by kernel_rfl) (fun _ _ _ h => h) (Or.inl ⟨by rfl, ?_⟩) (hx0) ?_
  rotate_left
  · intro wq hSq
    go_simp
    exact rfl
  try simp only [Act.put, List.setIfInBounds_toArray, List.set_cons_zero, List.set_cons_succ]
  refine takeH 0 3 (v := .agg V.toArray) rfl (by rfl) (by kernel_rfl) (by kernel_rfl) (by kernel_rfl) (fun _ _ _ h => h) (yieldsIf_load_mid (by rfl) _ _ rfl _ _ rfl V _ (fun wq hq => hq.range) Try.underlying38 rfl ST.out) (hx0) ?_
  try simp only [Act.put, List.setIfInBounds_toArray, List.set_cons_zero, List.set_cons_succ]
  refine wpAnyH_ready (rs := [1]) (by kernel_rfl) (by simp) (AllReadyH.cons rfl (fun K hK => ?_) AllReadyH.nil)
  go_simp
  refine (A _).mono ?_
  rintro e W3 ⟨va, rfl, oa, hb3⟩
  have oa := ownR_base oa (hl0)
  have hx3 := Box.below hx0 hb3
  have sz3 := hx3.lt
  have hB3 : Below w.heap.size w W3 := below_thru hB0 hb3
  have hL3 : Below W0.heap.size W0 W3 := below_thru hL0 hb3
  have hl3 := hL3.size
  refine hK.out _ _ hx3 (fun _ => ?_); clear hK K
  refine wpAnyH_ready (rs := [4]) (by kernel_rfl) (by simp) (AllReadyH.cons rfl (fun K hK => ?_) AllReadyH.nil)
  refine step_append_ints 7 rfl rfl _ _ 33 rfl W0.heap.size 5 ti (.int .u8 0) 1 .u8 Try.underlying33 hin hz0 hz1 hz2 rfl _ _ _ rfl oa _ g rfl (IsL.range 32 32 HG.out (Box.rangeFrom hx3 4 (g.map (Value.int .u8)) HT.out) (by omega) (by omega)) (by have := HM.out; have := HG.out; unfold maxLen; omega) (by have := HM.out; have := HG.out; omega) hl3 ?_
  intro vc W4 oc hb4
  have hx4 := (Box.upR hx3 hb4 (by omega)).1
  have sz4 := hx4.lt
  have hB4 : Below w.heap.size w W4 := hB3.trans (hb4.mono (by omega))
  have hL4 : Below W0.heap.size W0 W4 := hL3.trans hb4
  have hl4 := hL4.size
  refine hK.out _ _ hx4 (fun _ => ?_); clear hK K
  refine takeH 5 2 (v := ?vs5_5) rfl (by rfl) (by kernel_rfl) (by kernel_rfl) (by kernel_rfl) (fun _ _ _ h => h) (Or.inl ⟨by rfl, ?_⟩) (hx4) ?_
  rotate_left
  · intro wq hSq
    go_simp
    exact rfl
  try simp only [Act.put, List.setIfInBounds_toArray, List.set_cons_zero, List.set_cons_succ]
  refine wpAnyH_done (by kernel_rfl) ?_ _
  go_wp2_with fail
  go_returns
  refine ⟨_, rfl, ?_, hB4⟩
  rw [List.length_append, List.map_append]
  exact ownR_base oc (Nat.le_of_lt sz0)


theorem Nums.cuts (k : Nums) (g : List Int) : (k.msg ++ g).take 4 = be 4 k.t ∧ ((k.msg ++ g).take 8).drop 4 = be 4 k.u ∧ ((k.msg ++ g).take 12).drop 8 = be 4 k.e ∧ ((k.msg ++ g).take 20).drop 12 = be 8 k.x := by
  have l1 := be_len 4 k.t
  have l2 := be_len 4 k.u
  have l3 := be_len 4 k.e
  have l4 := be_len 8 k.x
  have e : k.msg ++ g = be 4 k.t ++ (be 4 k.u ++ (be 4 k.e ++ (be 8 k.x ++ g))) := by unfold Nums.msg; simp only [List.append_assoc]
  have e2 : be 4 k.t ++ (be 4 k.u ++ (be 4 k.e ++ (be 8 k.x ++ g))) = (be 4 k.t ++ be 4 k.u) ++ (be 4 k.e ++ (be 8 k.x ++ g)) := by simp only [List.append_assoc]
  have e3 : be 4 k.t ++ (be 4 k.u ++ (be 4 k.e ++ (be 8 k.x ++ g))) = (be 4 k.t ++ be 4 k.u ++ be 4 k.e) ++ (be 8 k.x ++ g) := by simp only [List.append_assoc]
  refine ⟨by rw [e, List.take_left' l1], ?_, ?_, ?_⟩
  · rw [e, List.drop_take, List.drop_left' l1, List.take_left' l2]
  · rw [e, List.drop_take, e2, List.drop_left' (by rw [List.length_append, l1, l2]), List.take_left' l3]
  · rw [e, List.drop_take, e3, List.drop_left' (by rw [List.length_append, List.length_append, l1, l2, l3]), List.take_left' l4]
/-- The first of a Tag's bytes; the rest is zero. -/
def gS (g : List Int) (i : Nat) : List Int := g.take i ++ List.replicate (32 - i) 0
theorem gS_zero (g : List Int) : gS g 0 = zeroD := rfl
theorem gS_all {g : List Int} (h : g.length = 32) : gS g 32 = g := by unfold gS; rw [List.take_of_length_le (by omega)]; simp
theorem gS_len {g : List Int} (h : g.length = 32) {i : Nat} (hi : i ≤ 32) : (gS g i).length = 32 := by unfold gS; rw [List.length_append, List.length_take, List.length_replicate]; omega
theorem gS_succ {g : List Int} (h : g.length = 32) {i : Nat} (hi : i < 32) : (gS g i).set i (nth g i) = gS g (i + 1) := by
  unfold gS
  have l1 : (g.take i).length = i := by rw [List.length_take]; omega
  obtain ⟨m, hm⟩ : ∃ m, 32 - i = m + 1 := ⟨31 - i, by omega⟩
  have hm2 : 32 - (i + 1) = m := by omega
  rw [hm, hm2, List.set_append_right i (nth g i) (by omega), l1, Nat.sub_self, List.replicate_succ, List.set_cons_zero, take_succ_nth (by omega), List.append_assoc]
  rfl
theorem tcell_set (k : Nums) (y : List Int) (i : Nat) (x : Int) : (tcell k y).set (4 + i) (.int .u8 x) = tcell k (y.set i x) := by
  rw [Nat.add_comm]
  show _ = .int .u32 k.t :: .int .u32 k.u :: .int .u32 k.e :: .int .u64 k.x :: (y.set i x).map (Value.int .u8)
  rw [List.map_set]
  rfl
theorem build_tok0 (t u e x : Int) (W : World) : (Instr.build 38 #[(0, .int .u32 t), (1, .int .u32 u), (2, .int .u32 e), (3, .int .u64 x)]).run Try.prog W = .ok (.agg (.int .u32 t :: .int .u32 u :: .int .u32 e :: .int .u64 x :: zeroD.map (Value.int .u8)).toArray) W := by kernel_rfl

set_option maxRecDepth 100000 in
set_option maxHeartbeats 1600000 in
theorem rread_bad {v : Value} {bs : List Int} (w : World) (h1 : IsL w .u8 v bs) (hl : bs.length ≠ 52) : Calls Try.prog 33 #[v] w fun e w' => e = .returned (.tuple #[.agg zeroT.toArray, .int .i64 12]) ∧ Below w.heap.size w w' := by
  obtain ⟨a0, c0, rfl, hr, _⟩ := id h1
  have i1 := hr.room
  have i2 := hr.most
  have hx : Box (w.alloc (.cells zeroT.toArray 38)) w.heap.size zeroT := Box.newc rfl rfl
  have hB : Below w.heap.size w (w.alloc (.cells zeroT.toArray 38)) := by go_grown
  have d1 : ((bs.length : Int) != 52) = true := by simp; omega
  clear hr h1
  go_enter Try.func33, Try.ntmps33
  go_wp2_with (refine wpList_store_box (cs := zeroT) rfl _ _ _ rfl hx rfl rfl (size_tok _ z32) rfl (tcell_one _ _) ?_; intro w2 hW2)
  exact bodyPost_ret (results_box2 Try.results33 hW2.box rfl rfl Try.underlying38 rfl (size_tok _ z32)) rfl ⟨rfl, hW2.below _ _ (Nat.le_refl _) hB⟩

set_option maxRecDepth 100000 in
set_option maxHeartbeats 3200000 in
theorem rread_ok (k : Nums) {g : List Int} (hg : g.length = 32) {v : Value} (w : World) (h1 : IsL w .u8 v (k.msg ++ g)) : Calls Try.prog 33 #[v] w fun e w' => e = .returned (.tuple #[.agg (tcell k g).toArray, .int .i64 0]) ∧ Below w.heap.size w w' := by
  obtain ⟨c1, c2, c3, c4⟩ := k.cuts g
  have hm := k.msg_len
  have hl : (k.msg ++ g).length = 52 := by rw [List.length_append, hm, hg]
  have HN := Lib.hid (fun (i : Nat) => (show nth (k.msg ++ g) (20 + i) = nth g i by rw [nth_append_right (by omega), hm]; congr 1; omega))
  obtain ⟨Z, hZ⟩ : ∃ Z, k.msg ++ g = Z := ⟨_, rfl⟩
  rw [hZ] at c1 c2 c3 c4 hl HN h1
  have HZ := Lib.hid hl
  obtain ⟨a0, c0, rfl, hr, _⟩ := id h1
  have i1 := hr.room
  have i2 := hr.most
  obtain ⟨b, off, rfl, _⟩ := h1.get 0 (by omega)
  rw [hl] at i1 h1 ⊢
  have h2 : IsL w .u8 (.slice (some ⟨b, off, none⟩) Z.length c0) Z := by rw [hl]; exact h1
  have S1 := Lib.hid (show IsL w .u8 (.slice (some ⟨b, off, none⟩) 4 c0) (be 4 k.t) by rw [← c1]; exact h2.taken (by omega))
  have S2 := Lib.hid (show IsL w .u8 (.slice (some ⟨b, off + 4, none⟩) 4 (c0 - 4)) (be 4 k.u) by rw [← c2]; exact (h2.taken (m := 8) (by omega)).dropped (by rw [List.length_take]; omega) (by rw [List.length_take]; omega) rfl (Or.inl rfl))
  have S3 := Lib.hid (show IsL w .u8 (.slice (some ⟨b, off + 8, none⟩) 4 (c0 - 8)) (be 4 k.e) by rw [← c3]; exact (h2.taken (m := 12) (by omega)).dropped (by rw [List.length_take]; omega) (by rw [List.length_take]; omega) rfl (Or.inl rfl))
  have S4 := Lib.hid (show IsL w .u8 (.slice (some ⟨b, off + 12, none⟩) 8 (c0 - 12)) (be 8 k.x) by rw [← c4]; exact (h2.taken (m := 20) (by omega)).dropped (by rw [List.length_take]; omega) (by rw [List.length_take]; omega) rfl (Or.inl rfl))
  have HL := Lib.hid h2
  have N1 := fun (W : World) (v : Value) (h : IsL W .u8 v (be 4 k.t)) => rnum_is W h (by rw [be_len]; omega) (be_byts _ _)
  have N2 := fun (W : World) (v : Value) (h : IsL W .u8 v (be 4 k.u)) => rnum_is W h (by rw [be_len]; omega) (be_byts _ _)
  have N3 := fun (W : World) (v : Value) (h : IsL W .u8 v (be 4 k.e)) => rnum_is W h (by rw [be_len]; omega) (be_byts _ _)
  have N4 := fun (W : World) (v : Value) (h : IsL W .u8 v (be 8 k.x)) => rnum_is W h (by rw [be_len]; omega) (be_byts _ _)
  rw [num_be 4 k.t k.ht.1 (by have := k.ht.2; show k.t < 4294967296; omega)] at N1
  rw [num_be 4 k.u k.hu.1 (by have := k.hu.2; show k.u < 4294967296; omega)] at N2
  rw [num_be 4 k.e k.he.1 (by have := k.he.2; show k.e < 4294967296; omega)] at N3
  rw [num_be 8 k.x k.hx.1 (by have := k.hx.2; show k.x < 18446744073709551616; omega)] at N4
  have wt : IntKind.u32.wrap k.t = k.t := by have := k.ht; rw [IntKind.wrap_u32]; omega
  have wu : IntKind.u32.wrap k.u = k.u := by have := k.hu; rw [IntKind.wrap_u32]; omega
  have we : IntKind.u32.wrap k.e = k.e := by have := k.he; rw [IntKind.wrap_u32]; omega
  have j0 : ¬ c0 = 0 := by omega
  have j4 : ¬ c0 = 4 := by omega
  have j8 : ¬ c0 = 8 := by omega
  have j12 : ¬ c0 = 12 := by omega
  have q4 : (4 : Int) ≤ (c0 : Int) := by omega
  have q8 : (8 : Int) ≤ (c0 : Int) := by omega
  have q12 : (12 : Int) ≤ (c0 : Int) := by omega
  have q20 : (20 : Int) ≤ (c0 : Int) := by omega
  have HG := Lib.hid hg
  have BT := fun W => build_tok0 k.t k.u k.e k.x W
  have HV : tcell k zeroD = .int .u32 k.t :: .int .u32 k.u :: .int .u32 k.e :: .int .u64 k.x :: zeroD.map (Value.int .u8) := rfl
  rw [← HV] at BT
  have ST0 := Lib.hid (size_tok k z32)
  have OT0 := Lib.hid (tcell_one k zeroD)
  have LT0 := Lib.hid (len_tok Nums.zero k z32 z32)
  have ST := Lib.hid (size_tok k hg)
  have OT := Lib.hid (tcell_one k g)
  have LT := Lib.hid (len_tok Nums.zero k z32 hg)
  have G0 : Hid (tcell k (gS g 0) = tcell k zeroD) := Lib.hid rfl
  have GA := Lib.hid (show tcell k (gS g 32) = tcell k g by rw [gS_all hg])
  have GS := Lib.hid (fun (i : Nat) (hi : i < 32) => (show (tcell k (gS g i)).set (4 + i) (.int .u8 (nth g i)) = tcell k (gS g (i + 1)) by rw [tcell_set, gS_succ hg hi]))
  have GL := Lib.hid (fun (i : Nat) (hi : i ≤ 32) => tcell_len k (gS_len hg hi))
  obtain ⟨V0, hV0⟩ : ∃ V, tcell k zeroD = V := ⟨_, rfl⟩
  obtain ⟨V, hV⟩ : ∃ V, tcell k g = V := ⟨_, rfl⟩
  rw [hV0] at BT ST0 OT0 LT0 G0
  rw [hV] at ST OT LT GA ⊢
  have hx : Box (w.alloc (.cells zeroT.toArray 38)) w.heap.size zeroT := Box.newc rfl rfl
  have hB : Below w.heap.size w (w.alloc (.cells zeroT.toArray 38)) := by go_grown
  clear hr h1 h2 hm hl hg HV hV0 hV c1 c2 c3 c4 hZ
  go_enter Try.func33, Try.ntmps33
  go_upto_region 3 with fail
  go_cut [4] (fun p wx => ∃ b4 : Nat, p = .pointer (some ⟨b4, 0, none⟩) ∧ w.heap.size < b4 ∧ Box wx b4 V0 ∧ Box wx w.heap.size zeroT ∧ Below w.heap.size w wx)
  case first =>
    refine wp_region_held_drew (S := fun _ => True) (by kernel_rfl) trivial (fun _ => ?_)
    refine F_drew (F := fun W => wpAnyH _ _ _ _ _ _ _ _ W) ?_
    intro W0 hb0
    have hx0 := hx.below hb0; have hB0 := below_thru hB hb0
    clear hb0
    refine takeH 0 10 (v := ?vu0_1) rfl (by rfl) (by kernel_rfl) (by kernel_rfl) (by kernel_rfl) (fun _ _ _ h => h) (Or.inl ⟨by rfl, ?_⟩) (trivial) ?_
    rotate_left
    · intro wq hSq
      go_simp
      exact rfl
    try simp only [Act.put, List.setIfInBounds_toArray, List.set_cons_zero, List.set_cons_succ]
    refine takeH 1 11 (v := ?vu1_2) rfl (by rfl) (by kernel_rfl) (by kernel_rfl) (by kernel_rfl) (fun _ _ _ h => h) (Or.inl ⟨by rfl, ?_⟩) (trivial) ?_
    rotate_left
    · intro wq hSq
      go_simp
      exact rfl
    try simp only [Act.put, List.setIfInBounds_toArray, List.set_cons_zero, List.set_cons_succ]
    refine takeH 4 14 (v := ?vu4_3) rfl (by rfl) (by kernel_rfl) (by kernel_rfl) (by kernel_rfl) (fun _ _ _ h => h) (Or.inl ⟨by rfl, ?_⟩) (trivial) ?_
    rotate_left
    · intro wq hSq
      go_simp
      exact rfl
    try simp only [Act.put, List.setIfInBounds_toArray, List.set_cons_zero, List.set_cons_succ]
    refine takeH 5 15 (v := ?vu5_4) rfl (by rfl) (by kernel_rfl) (by kernel_rfl) (by kernel_rfl) (fun _ _ _ h => h) (Or.inl ⟨by rfl, ?_⟩) (trivial) ?_
    rotate_left
    · intro wq hSq
      go_simp
      exact rfl
    try simp only [Act.put, List.setIfInBounds_toArray, List.set_cons_zero, List.set_cons_succ]
    refine takeH 8 18 (v := ?vu8_5) rfl (by rfl) (by kernel_rfl) (by kernel_rfl) (by kernel_rfl) (fun _ _ _ h => h) (Or.inl ⟨by rfl, ?_⟩) (trivial) ?_
    rotate_left
    · intro wq hSq
      go_simp
      exact rfl
    try simp only [Act.put, List.setIfInBounds_toArray, List.set_cons_zero, List.set_cons_succ]
    refine takeH 9 19 (v := ?vu9_6) rfl (by rfl) (by kernel_rfl) (by kernel_rfl) (by kernel_rfl) (fun _ _ _ h => h) (Or.inl ⟨by rfl, ?_⟩) (trivial) ?_
    rotate_left
    · intro wq hSq
      go_simp
      exact rfl
    try simp only [Act.put, List.setIfInBounds_toArray, List.set_cons_zero, List.set_cons_succ]
    refine takeH 12 22 (v := ?vu12_7) rfl (by rfl) (by kernel_rfl) (by kernel_rfl) (by kernel_rfl) (fun _ _ _ h => h) (Or.inl ⟨by rfl, ?_⟩) (trivial) ?_
    rotate_left
    · intro wq hSq
      go_simp
      exact rfl
    try simp only [Act.put, List.setIfInBounds_toArray, List.set_cons_zero, List.set_cons_succ]
    refine takeH 13 23 (v := ?vu13_8) rfl (by rfl) (by kernel_rfl) (by kernel_rfl) (by kernel_rfl) (fun _ _ _ h => h) (Or.inl ⟨by rfl, ?_⟩) (trivial) ?_
    rotate_left
    · intro wq hSq
      go_simp
      exact rfl
    try simp only [Act.put, List.setIfInBounds_toArray, List.set_cons_zero, List.set_cons_succ]
    refine wpAnyH_ready (rs := [2, 16]) (by kernel_rfl) (by simp) (AllReadyH.cons rfl (fun K hK => ?_) (AllReadyH.cons rfl (fun K hK => ?_) AllReadyH.nil))
    · skip
      go_simp
      refine (N1 _ _ (S1.out.below hB0)).mono ?_
      rintro e W9 ⟨rfl, hb9⟩
      have hx9 := Box.below hx0 hb9; have hB9 := below_thru hB0 hb9
      refine hK.out _ _ trivial (fun _ => ?_); clear hK K
      refine takeH 3 13 (v := ?vu3_10) rfl (by rfl) (by kernel_rfl) (by kernel_rfl) (by kernel_rfl) (fun _ _ _ h => h) (Or.inl ⟨by rfl, ?_⟩) (trivial) ?_
      rotate_left
      · intro wq hSq
        go_simp
        exact rfl
      try simp only [Act.put, List.setIfInBounds_toArray, List.set_cons_zero, List.set_cons_succ]
      refine wpAnyH_ready (rs := [6, 16]) (by kernel_rfl) (by simp) (AllReadyH.cons rfl (fun K hK => ?_) (AllReadyH.cons rfl (fun K hK => ?_) AllReadyH.nil))
      · skip
        go_simp
        refine (N2 _ _ (S2.out.below hB9)).mono ?_
        rintro e W11 ⟨rfl, hb11⟩
        have hx11 := Box.below hx9 hb11; have hB11 := below_thru hB9 hb11
        refine hK.out _ _ trivial (fun _ => ?_); clear hK K
        refine takeH 7 17 (v := ?vu7_12) rfl (by rfl) (by kernel_rfl) (by kernel_rfl) (by kernel_rfl) (fun _ _ _ h => h) (Or.inl ⟨by rfl, ?_⟩) (trivial) ?_
        rotate_left
        · intro wq hSq
          go_simp
          exact rfl
        try simp only [Act.put, List.setIfInBounds_toArray, List.set_cons_zero, List.set_cons_succ]
        refine wpAnyH_ready (rs := [10, 16]) (by kernel_rfl) (by simp) (AllReadyH.cons rfl (fun K hK => ?_) (AllReadyH.cons rfl (fun K hK => ?_) AllReadyH.nil))
        · skip
          go_simp
          refine (N3 _ _ (S3.out.below hB11)).mono ?_
          rintro e W13 ⟨rfl, hb13⟩
          have hx13 := Box.below hx11 hb13; have hB13 := below_thru hB11 hb13
          refine hK.out _ _ trivial (fun _ => ?_); clear hK K
          refine takeH 11 21 (v := ?vu11_14) rfl (by rfl) (by kernel_rfl) (by kernel_rfl) (by kernel_rfl) (fun _ _ _ h => h) (Or.inl ⟨by rfl, ?_⟩) (trivial) ?_
          rotate_left
          · intro wq hSq
            go_simp
            exact rfl
          try simp only [Act.put, List.setIfInBounds_toArray, List.set_cons_zero, List.set_cons_succ]
          refine wpAnyH_ready (rs := [14, 16]) (by kernel_rfl) (by simp) (AllReadyH.cons rfl (fun K hK => ?_) (AllReadyH.cons rfl (fun K hK => ?_) AllReadyH.nil))
          · skip
            go_simp
            refine (N4 _ _ (S4.out.below hB13)).mono ?_
            rintro e W15 ⟨rfl, hb15⟩
            have hx15 := Box.below hx13 hb15; have hB15 := below_thru hB13 hb15
            refine hK.out _ _ trivial (fun _ => ?_); clear hK K
            refine takeH 15 25 (v := .agg V0.toArray) rfl (by rfl) (by kernel_rfl) (by kernel_rfl) (by kernel_rfl) (fun _ _ _ h => h) (yieldsIf_build (by rfl) _ _ rfl (us := #[(0, .int .u32 k.t), (1, .int .u32 k.u), (2, .int .u32 k.e), (3, .int .u64 k.x)]) (by rfl) BT) (trivial) ?_
            try simp only [Act.put, List.setIfInBounds_toArray, List.set_cons_zero, List.set_cons_succ]
            refine wpAnyH_ready (rs := [16]) (by kernel_rfl) (by simp) (AllReadyH.cons rfl (fun K hK => ?_) AllReadyH.nil)
            go_simp
            refine hK.out _ _ trivial (fun _ => ?_); clear hK K
            have zz := Box.lt hx15
            refine F_alloc (F := fun W => wpAnyH _ _ _ _ _ _ _ _ W) zeroT rfl ?_
            intro W16 ht16 hb16
            have hx16 := Box.below hx15 hb16; have hB16 := below_thru hB15 hb16
            obtain ⟨b4, hb4⟩ : ∃ b, W15.heap.size = b := ⟨_, rfl⟩
            rw [hb4] at ht16 ⊢
            rw [hb4] at zz
            clear hb4
            refine wpAnyH_ready (rs := [17]) (by kernel_rfl) (by simp) (AllReadyH.cons rfl (fun K hK => ?_) AllReadyH.nil)
            refine step_store_box0 rfl rfl _ _ _ rfl ht16 rfl rfl ST0.out LT0.out OT0.out (fun W17 hW => ?_)
            have hR := hW.past _ _ (by omega) hx16; have hBT := hW.below _ _ (by omega) hB16; have hT := hW.box
            refine hK.out _ _ trivial (fun _ => ?_); clear hK K
            refine wpAnyH_done (by kernel_rfl) ?_ _
            go_wp2_with fail
            go_meet
            exact ⟨b4, rfl, zz, hT, hR, hBT⟩
          · skip
            go_simp
            refine hK.out _ _ trivial (fun _ => ?_); clear hK K
            have zz := Box.lt hx13
            refine F_alloc (F := fun W => wpAnyH _ _ _ _ _ _ _ _ W) zeroT rfl ?_
            intro W18 ht18 hb18
            have hx18 := Box.below hx13 hb18; have hB18 := below_thru hB13 hb18
            obtain ⟨b4, hb4⟩ : ∃ b, W13.heap.size = b := ⟨_, rfl⟩
            rw [hb4] at ht18 ⊢
            rw [hb4] at zz
            clear hb4
            refine wpAnyH_ready (rs := [14]) (by kernel_rfl) (by simp) (AllReadyH.cons rfl (fun K hK => ?_) AllReadyH.nil)
            go_simp
            refine (N4 _ _ (S4.out.below hB18)).mono ?_
            rintro e W19 ⟨rfl, hb19⟩
            have hx19 := Box.below hx18 hb19; have hB19 := below_thru hB18 hb19
            refine hK.out _ _ trivial (fun _ => ?_); clear hK K
            have ht19 := Box.below ht18 hb19
            refine takeH 15 25 (v := .agg V0.toArray) rfl (by rfl) (by kernel_rfl) (by kernel_rfl) (by kernel_rfl) (fun _ _ _ h => h) (yieldsIf_build (by rfl) _ _ rfl (us := #[(0, .int .u32 k.t), (1, .int .u32 k.u), (2, .int .u32 k.e), (3, .int .u64 k.x)]) (by rfl) BT) (trivial) ?_
            try simp only [Act.put, List.setIfInBounds_toArray, List.set_cons_zero, List.set_cons_succ]
            refine wpAnyH_ready (rs := [17]) (by kernel_rfl) (by simp) (AllReadyH.cons rfl (fun K hK => ?_) AllReadyH.nil)
            refine step_store_box0 rfl rfl _ _ _ rfl ht19 rfl rfl ST0.out LT0.out OT0.out (fun W20 hW => ?_)
            have hR := hW.past _ _ (by omega) hx19; have hBT := hW.below _ _ (by omega) hB19; have hT := hW.box
            refine hK.out _ _ trivial (fun _ => ?_); clear hK K
            refine wpAnyH_done (by kernel_rfl) ?_ _
            go_wp2_with fail
            go_meet
            exact ⟨b4, rfl, zz, hT, hR, hBT⟩
        · skip
          go_simp
          refine hK.out _ _ trivial (fun _ => ?_); clear hK K
          have zz := Box.lt hx11
          refine F_alloc (F := fun W => wpAnyH _ _ _ _ _ _ _ _ W) zeroT rfl ?_
          intro W21 ht21 hb21
          have hx21 := Box.below hx11 hb21; have hB21 := below_thru hB11 hb21
          obtain ⟨b4, hb4⟩ : ∃ b, W11.heap.size = b := ⟨_, rfl⟩
          rw [hb4] at ht21 ⊢
          rw [hb4] at zz
          clear hb4
          refine wpAnyH_ready (rs := [10]) (by kernel_rfl) (by simp) (AllReadyH.cons rfl (fun K hK => ?_) AllReadyH.nil)
          go_simp
          refine (N3 _ _ (S3.out.below hB21)).mono ?_
          rintro e W22 ⟨rfl, hb22⟩
          have hx22 := Box.below hx21 hb22; have hB22 := below_thru hB21 hb22
          refine hK.out _ _ trivial (fun _ => ?_); clear hK K
          have ht22 := Box.below ht21 hb22
          refine takeH 11 21 (v := ?vu11_23) rfl (by rfl) (by kernel_rfl) (by kernel_rfl) (by kernel_rfl) (fun _ _ _ h => h) (Or.inl ⟨by rfl, ?_⟩) (trivial) ?_
          rotate_left
          · intro wq hSq
            go_simp
            exact rfl
          try simp only [Act.put, List.setIfInBounds_toArray, List.set_cons_zero, List.set_cons_succ]
          refine wpAnyH_ready (rs := [14]) (by kernel_rfl) (by simp) (AllReadyH.cons rfl (fun K hK => ?_) AllReadyH.nil)
          go_simp
          refine (N4 _ _ (S4.out.below hB22)).mono ?_
          rintro e W24 ⟨rfl, hb24⟩
          have hx24 := Box.below hx22 hb24; have hB24 := below_thru hB22 hb24
          refine hK.out _ _ trivial (fun _ => ?_); clear hK K
          have ht24 := Box.below ht22 hb24
          refine takeH 15 25 (v := .agg V0.toArray) rfl (by rfl) (by kernel_rfl) (by kernel_rfl) (by kernel_rfl) (fun _ _ _ h => h) (yieldsIf_build (by rfl) _ _ rfl (us := #[(0, .int .u32 k.t), (1, .int .u32 k.u), (2, .int .u32 k.e), (3, .int .u64 k.x)]) (by rfl) BT) (trivial) ?_
          try simp only [Act.put, List.setIfInBounds_toArray, List.set_cons_zero, List.set_cons_succ]
          refine wpAnyH_ready (rs := [17]) (by kernel_rfl) (by simp) (AllReadyH.cons rfl (fun K hK => ?_) AllReadyH.nil)
          refine step_store_box0 rfl rfl _ _ _ rfl ht24 rfl rfl ST0.out LT0.out OT0.out (fun W25 hW => ?_)
          have hR := hW.past _ _ (by omega) hx24; have hBT := hW.below _ _ (by omega) hB24; have hT := hW.box
          refine hK.out _ _ trivial (fun _ => ?_); clear hK K
          refine wpAnyH_done (by kernel_rfl) ?_ _
          go_wp2_with fail
          go_meet
          exact ⟨b4, rfl, zz, hT, hR, hBT⟩
      · skip
        go_simp
        refine hK.out _ _ trivial (fun _ => ?_); clear hK K
        have zz := Box.lt hx9
        refine F_alloc (F := fun W => wpAnyH _ _ _ _ _ _ _ _ W) zeroT rfl ?_
        intro W26 ht26 hb26
        have hx26 := Box.below hx9 hb26; have hB26 := below_thru hB9 hb26
        obtain ⟨b4, hb4⟩ : ∃ b, W9.heap.size = b := ⟨_, rfl⟩
        rw [hb4] at ht26 ⊢
        rw [hb4] at zz
        clear hb4
        refine wpAnyH_ready (rs := [6]) (by kernel_rfl) (by simp) (AllReadyH.cons rfl (fun K hK => ?_) AllReadyH.nil)
        go_simp
        refine (N2 _ _ (S2.out.below hB26)).mono ?_
        rintro e W27 ⟨rfl, hb27⟩
        have hx27 := Box.below hx26 hb27; have hB27 := below_thru hB26 hb27
        refine hK.out _ _ trivial (fun _ => ?_); clear hK K
        have ht27 := Box.below ht26 hb27
        refine takeH 7 17 (v := ?vu7_28) rfl (by rfl) (by kernel_rfl) (by kernel_rfl) (by kernel_rfl) (fun _ _ _ h => h) (Or.inl ⟨by rfl, ?_⟩) (trivial) ?_
        rotate_left
        · intro wq hSq
          go_simp
          exact rfl
        try simp only [Act.put, List.setIfInBounds_toArray, List.set_cons_zero, List.set_cons_succ]
        refine wpAnyH_ready (rs := [10]) (by kernel_rfl) (by simp) (AllReadyH.cons rfl (fun K hK => ?_) AllReadyH.nil)
        go_simp
        refine (N3 _ _ (S3.out.below hB27)).mono ?_
        rintro e W29 ⟨rfl, hb29⟩
        have hx29 := Box.below hx27 hb29; have hB29 := below_thru hB27 hb29
        refine hK.out _ _ trivial (fun _ => ?_); clear hK K
        have ht29 := Box.below ht27 hb29
        refine takeH 11 21 (v := ?vu11_30) rfl (by rfl) (by kernel_rfl) (by kernel_rfl) (by kernel_rfl) (fun _ _ _ h => h) (Or.inl ⟨by rfl, ?_⟩) (trivial) ?_
        rotate_left
        · intro wq hSq
          go_simp
          exact rfl
        try simp only [Act.put, List.setIfInBounds_toArray, List.set_cons_zero, List.set_cons_succ]
        refine wpAnyH_ready (rs := [14]) (by kernel_rfl) (by simp) (AllReadyH.cons rfl (fun K hK => ?_) AllReadyH.nil)
        go_simp
        refine (N4 _ _ (S4.out.below hB29)).mono ?_
        rintro e W31 ⟨rfl, hb31⟩
        have hx31 := Box.below hx29 hb31; have hB31 := below_thru hB29 hb31
        refine hK.out _ _ trivial (fun _ => ?_); clear hK K
        have ht31 := Box.below ht29 hb31
        refine takeH 15 25 (v := .agg V0.toArray) rfl (by rfl) (by kernel_rfl) (by kernel_rfl) (by kernel_rfl) (fun _ _ _ h => h) (yieldsIf_build (by rfl) _ _ rfl (us := #[(0, .int .u32 k.t), (1, .int .u32 k.u), (2, .int .u32 k.e), (3, .int .u64 k.x)]) (by rfl) BT) (trivial) ?_
        try simp only [Act.put, List.setIfInBounds_toArray, List.set_cons_zero, List.set_cons_succ]
        refine wpAnyH_ready (rs := [17]) (by kernel_rfl) (by simp) (AllReadyH.cons rfl (fun K hK => ?_) AllReadyH.nil)
        refine step_store_box0 rfl rfl _ _ _ rfl ht31 rfl rfl ST0.out LT0.out OT0.out (fun W32 hW => ?_)
        have hR := hW.past _ _ (by omega) hx31; have hBT := hW.below _ _ (by omega) hB31; have hT := hW.box
        refine hK.out _ _ trivial (fun _ => ?_); clear hK K
        refine wpAnyH_done (by kernel_rfl) ?_ _
        go_wp2_with fail
        go_meet
        exact ⟨b4, rfl, zz, hT, hR, hBT⟩
    · skip
      go_simp
      refine hK.out _ _ trivial (fun _ => ?_); clear hK K
      have zz := Box.lt hx0
      refine F_alloc (F := fun W => wpAnyH _ _ _ _ _ _ _ _ W) zeroT rfl ?_
      intro W33 ht33 hb33
      have hx33 := Box.below hx0 hb33; have hB33 := below_thru hB0 hb33
      obtain ⟨b4, hb4⟩ : ∃ b, W0.heap.size = b := ⟨_, rfl⟩
      rw [hb4] at ht33 ⊢
      rw [hb4] at zz
      clear hb4
      refine wpAnyH_ready (rs := [2]) (by kernel_rfl) (by simp) (AllReadyH.cons rfl (fun K hK => ?_) AllReadyH.nil)
      go_simp
      refine (N1 _ _ (S1.out.below hB33)).mono ?_
      rintro e W34 ⟨rfl, hb34⟩
      have hx34 := Box.below hx33 hb34; have hB34 := below_thru hB33 hb34
      refine hK.out _ _ trivial (fun _ => ?_); clear hK K
      have ht34 := Box.below ht33 hb34
      refine takeH 3 13 (v := ?vu3_35) rfl (by rfl) (by kernel_rfl) (by kernel_rfl) (by kernel_rfl) (fun _ _ _ h => h) (Or.inl ⟨by rfl, ?_⟩) (trivial) ?_
      rotate_left
      · intro wq hSq
        go_simp
        exact rfl
      try simp only [Act.put, List.setIfInBounds_toArray, List.set_cons_zero, List.set_cons_succ]
      refine wpAnyH_ready (rs := [6]) (by kernel_rfl) (by simp) (AllReadyH.cons rfl (fun K hK => ?_) AllReadyH.nil)
      go_simp
      refine (N2 _ _ (S2.out.below hB34)).mono ?_
      rintro e W36 ⟨rfl, hb36⟩
      have hx36 := Box.below hx34 hb36; have hB36 := below_thru hB34 hb36
      refine hK.out _ _ trivial (fun _ => ?_); clear hK K
      have ht36 := Box.below ht34 hb36
      refine takeH 7 17 (v := ?vu7_37) rfl (by rfl) (by kernel_rfl) (by kernel_rfl) (by kernel_rfl) (fun _ _ _ h => h) (Or.inl ⟨by rfl, ?_⟩) (trivial) ?_
      rotate_left
      · intro wq hSq
        go_simp
        exact rfl
      try simp only [Act.put, List.setIfInBounds_toArray, List.set_cons_zero, List.set_cons_succ]
      refine wpAnyH_ready (rs := [10]) (by kernel_rfl) (by simp) (AllReadyH.cons rfl (fun K hK => ?_) AllReadyH.nil)
      go_simp
      refine (N3 _ _ (S3.out.below hB36)).mono ?_
      rintro e W38 ⟨rfl, hb38⟩
      have hx38 := Box.below hx36 hb38; have hB38 := below_thru hB36 hb38
      refine hK.out _ _ trivial (fun _ => ?_); clear hK K
      have ht38 := Box.below ht36 hb38
      refine takeH 11 21 (v := ?vu11_39) rfl (by rfl) (by kernel_rfl) (by kernel_rfl) (by kernel_rfl) (fun _ _ _ h => h) (Or.inl ⟨by rfl, ?_⟩) (trivial) ?_
      rotate_left
      · intro wq hSq
        go_simp
        exact rfl
      try simp only [Act.put, List.setIfInBounds_toArray, List.set_cons_zero, List.set_cons_succ]
      refine wpAnyH_ready (rs := [14]) (by kernel_rfl) (by simp) (AllReadyH.cons rfl (fun K hK => ?_) AllReadyH.nil)
      go_simp
      refine (N4 _ _ (S4.out.below hB38)).mono ?_
      rintro e W40 ⟨rfl, hb40⟩
      have hx40 := Box.below hx38 hb40; have hB40 := below_thru hB38 hb40
      refine hK.out _ _ trivial (fun _ => ?_); clear hK K
      have ht40 := Box.below ht38 hb40
      refine takeH 15 25 (v := .agg V0.toArray) rfl (by rfl) (by kernel_rfl) (by kernel_rfl) (by kernel_rfl) (fun _ _ _ h => h) (yieldsIf_build (by rfl) _ _ rfl (us := #[(0, .int .u32 k.t), (1, .int .u32 k.u), (2, .int .u32 k.e), (3, .int .u64 k.x)]) (by rfl) BT) (trivial) ?_
      try simp only [Act.put, List.setIfInBounds_toArray, List.set_cons_zero, List.set_cons_succ]
      refine wpAnyH_ready (rs := [17]) (by kernel_rfl) (by simp) (AllReadyH.cons rfl (fun K hK => ?_) AllReadyH.nil)
      refine step_store_box0 rfl rfl _ _ _ rfl ht40 rfl rfl ST0.out LT0.out OT0.out (fun W41 hW => ?_)
      have hR := hW.past _ _ (by omega) hx40; have hBT := hW.below _ _ (by omega) hB40; have hT := hW.box
      refine hK.out _ _ trivial (fun _ => ?_); clear hK K
      refine wpAnyH_done (by kernel_rfl) ?_ _
      go_wp2_with fail
      go_meet
      exact ⟨b4, rfl, zz, hT, hR, hBT⟩

  case rest =>
    obtain ⟨b4, rfl, zz, hT, hR, hBT⟩ := hcut
    obtain ⟨W3, rfl⟩ : ∃ u : World, u = wc := ⟨_, rfl⟩
    clear hx hB
    go_wp2_with fail
    go_loopw [5] (fun s5 wr => ∃ i : Nat, s5 = .int .i64 i ∧ i ≤ 32 ∧ Box wr b4 (tcell k (gS g i)) ∧ Box wr w.heap.size zeroT ∧ Below w.heap.size w wr) (fun s5 _ => 32 - (intOf s5).toNat)
    case atStart => exact ⟨0, rfl, by omega, by rw [G0.out]; exact hT, hR, hBT⟩
    case round =>
      clear hT hR hBT
      obtain ⟨i, rfl, hi, hT, hR, hB⟩ := hrel
      have z1 := hT.lt
      have z2 := hR.lt
      by_cases hlt : i < 32
      · obtain ⟨b5, o5, e5, hc⟩ := HL.out.get (20 + i) (by have := HZ.out; omega)
        cases e5
        rw [HN.out] at hc
        have hc := cell_below hB hc
        have zc := lt_of_cell hc
        have S := Lib.hid (GS.out i hlt)
        obtain ⟨u, hu⟩ : ∃ u, (tcell k (gS g i))[4 + i]? = some u := ⟨_, List.getElem?_eq_getElem (by have := GL.out i hi; omega)⟩
        have cs := hT.c (4 + i) _ hu
        have cf := hT.f (4 + i) _ hu
        obtain ⟨x, hx⟩ : ∃ x, nth g i = x := ⟨_, rfl⟩
        rw [hx] at hc S
        have i3 : (i : Int) < 32 := by omega
        have i4 : (0 : Int) ≤ (i : Int) := by omega
        have i5 : (20 : Int) + (i : Int) < 52 := by omega
        clear hx hu
        go_wp2_with fail
        go_roundw
        case rel =>
          refine ⟨i + 1, by go_num, by omega, ?_, hR.other (by show b4 ≠ w.heap.size; omega) _, hB.setCell (show w.heap.size ≤ b4 by omega) _⟩
          rw [← S.out]
          exact hT.set (4 + i) _
        case measure => simp [intOf]; omega
      · obtain rfl : i = 32 := by omega
        rw [GA.out] at hT
        go_wp2_with (first
          | (refine wpList_load_box rfl _ _ rfl hT rfl Try.underlying38 rfl ST.out ?_)
          | (refine wpList_store_box (cs := V) rfl _ _ _ rfl hR rfl rfl ST.out LT.out OT.out ?_; intro W3 hW3))
        exact bodyPost_ret (results_box2 Try.results33 hW3.box rfl rfl Try.underlying38 rfl ST.out) rfl ⟨rfl, hW3.below _ _ (Nat.le_refl _) hB⟩

end Go.Proofs.Ytkpdlbcmnfphmaa
