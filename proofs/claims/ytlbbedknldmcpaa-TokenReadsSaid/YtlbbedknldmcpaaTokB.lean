/-
  Package token, walked: Bytes.
-/
import Derived.Test.YtlbbedknldmcpaaTokA
import Derived.Test.YtlbbedknldmcpaaBuildN
namespace Go.Proofs.Ytlbbedknldmcpaa
open Go.RowKit

section
variable {P : Program} {ops : Array Oper} {o : Oper} {a : Act} {w : World} {K : Act → World → Prop} {Q : Exit → Act → World → Prop} {E : Prop}
theorem step_bsliceH (d : Nat) (hd : o.dst = some d) (hgd : o.guard = none) (t : TypeId) (n : Nat) (xs : Array (Nat × Operand)) (ho : o.op = .buildSlice t n xs) {v : Value} {us : Array (Nat × Value)} {w' : World} (hx' : (xs.toList.map fun p => (p.1, a.eval p.2)) = us.toList) (hr : (Instr.buildSlice t n us).run P w = .ok v w')
    (h : K (a.put (some d) v) w') : if Region.wanted o (yielded ops a.tmps) = true then Oper.wp P o a w K Q else E := by
  rw [if_pos (by simp [Region.wanted, hgd])]
  exact wp_bsliceN t n xs ho hx' hr (by rw [hd]; exact h)
end
theorem F_both {F J J2 : World → Prop} {w : World} (h1 : J w) (h2 : J2 w) (h : ∀ W, J W → J2 W → F W) : F w := h _ h1 h2
def zero20 : List Value := (List.replicate 20 (0 : Int)).map (Value.int .u8)
theorem size20 : (Try.prog.info? 47).map (·.size) = some 20 := by kernel_rfl
theorem size_msg {M : List Int} (h : M.length = 20) : (Try.prog.info? 47).map (·.size) = some (M.map (Value.int .u8)).length := by rw [List.length_map, h]; exact size20
theorem len_msg {M : List Int} (h : M.length = 20) : zero20.length = (M.map (Value.int .u8)).length := by rw [List.length_map, h]; rfl
theorem bz5 (n : Int) (W : World) : (Instr.build 44 #[(0, .int .u8 5), (1, .int .u64 n)]).run Try.prog W = .ok (.agg (fcell 5 n zeroD).toArray) W := by kernel_rfl

set_option maxRecDepth 100000 in
set_option maxHeartbeats 1600000 in
theorem word_is {n : Int} (h : 0 ≤ n ∧ n ≤ 4294967295) (w : World) : Calls Try.prog 17 #[.int .u32 n] w fun e w' => e = .returned (.agg (fcell 4 n zeroD).toArray) ∧ Below w.heap.size w w' := by
  have hw : IntKind.u64.wrap n = n := by rw [IntKind.wrap_u64]; omega
  go_enter Try.func17, Try.ntmps17
  go_wp2_with (refine wpList_store_box (cs := fcell 4 n zeroD) rfl _ _ _ rfl (Box.newc (l := Fd.zero.v) rfl rfl) rfl rfl (sizeC _ _ _ rfl) rfl (oneC _ _ _) ?_; intro w1 hW1)
  refine bodyPost_ret (results_box (b := w.heap.size) (cs := fcell 4 n zeroD) Try.results17 hW1.box rfl Try.underlying44 rfl (sizeC _ _ _ rfl)) rfl ⟨rfl, hW1.below _ _ (Nat.le_refl _) (by go_grown)⟩

set_option maxRecDepth 100000 in
set_option maxHeartbeats 3200000 in
theorem bytes_is (k : Nums) {g : List Int} (w : World) : Calls Try.prog 13 #[.agg (tcell k g).toArray] w fun e w' => e = .returned (.agg (k.msg.map (Value.int .u8)).toArray) ∧ Below w.heap.size w w' := by
  obtain ⟨ti, hin, hz0, hz1, hz2⟩ := info_parts info_fld
  have A1 := fun W => word_is k.ht W
  have A2 := fun W => word_is k.hu W
  have A3 := fun W => word_is k.he W
  have A4 := fun W => bz5 k.x W
  have HF : Hid (fcell 4 k.t zeroD ++ (fcell 4 k.u zeroD ++ (fcell 4 k.e zeroD ++ fcell 5 k.x zeroD)) = flatR LF k.row) := Lib.hid rfl
  have l1 : (fcell 4 k.t zeroD).length = 34 := rfl
  have l2 : (fcell 4 k.u zeroD).length = 34 := rfl
  have l3 : (fcell 4 k.e zeroD).length = 34 := rfl
  have l4 : (fcell 5 k.x zeroD).length = 34 := rfl
  obtain ⟨V1, e1⟩ : ∃ V, fcell 4 k.t zeroD = V := ⟨_, rfl⟩
  obtain ⟨V2, e2⟩ : ∃ V, fcell 4 k.u zeroD = V := ⟨_, rfl⟩
  obtain ⟨V3, e3⟩ : ∃ V, fcell 4 k.e zeroD = V := ⟨_, rfl⟩
  obtain ⟨V4, e4⟩ : ∃ V, fcell 5 k.x zeroD = V := ⟨_, rfl⟩
  rw [e1] at A1 l1 HF
  rw [e2] at A2 l2 HF
  rw [e3] at A3 l3 HF
  rw [e4] at A4 l4 HF
  have E4 := Lib.hid e4
  have HBS := Lib.hid (fun W => run_bsliceN (P := Try.prog) (n := 4) W 40 44 ti _ 34 Try.underlying40 hin hz0 hz1 rfl [V1, V2, V3, V4] (by simp [l1, l2, l3, l4]) (by decide) (by simp) #[(0, .agg V1.toArray), (1, .agg V2.toArray), (2, .agg V3.toArray), (3, .agg V4.toArray)] rfl rfl (by decide))
  have WR := fun (W : World) (v : Value) (h : IsR LF W v k.row) => write_is W h
  rw [rowV_ok k.row_e, k.row_e, k.row_b] at WR
  have hm := k.msg_len
  obtain ⟨M, hM⟩ : ∃ M, k.msg = M := ⟨_, rfl⟩
  rw [hM] at WR hm ⊢
  have HM := Lib.hid hm
  have IM := Lib.hid (size_msg hm)
  have LM := Lib.hid (len_msg hm)
  obtain ⟨V, hV⟩ : ∃ V, tcell k g = V := ⟨_, rfl⟩
  have v0 : V[0]? = some (.int .u32 k.t) := by rw [← hV]; rfl
  have v1 : V[1]? = some (.int .u32 k.u) := by rw [← hV]; rfl
  have v2 : V[2]? = some (.int .u32 k.e) := by rw [← hV]; rfl
  have v3 : V[3]? = some (.int .u64 k.x) := by rw [← hV]; rfl
  rw [hV]
  clear hV hM hm e1 e2 e3 e4 l1 l2 l3 l4
  have hx : Box ((w.alloc (.cells V.toArray 27)).alloc (.cells zero20.toArray 47)) w.heap.size V := Box.alloc (Box.newc rfl rfl) _
  have hr : Box ((w.alloc (.cells V.toArray 27)).alloc (.cells zero20.toArray 47)) (w.heap.size + 1) zero20 := Box.newc rfl (by simp)
  have hB : Below w.heap.size w ((w.alloc (.cells V.toArray 27)).alloc (.cells zero20.toArray 47)) := by go_grown
  go_enter Try.func13, Try.ntmps13
  go_upto_region 2 with fail
  refine wp_region_held_drew (S := fun w' => Box w' w.heap.size V) (by kernel_rfl) (hx.drew) (fun _ => ?_)
  refine F_drew (F := fun W => wpAnyH _ _ _ _ _ _ _ _ W) ?_
  intro W0 hb0
  have hx0 := hx.below hb0; have hr0 := hr.below hb0; have hB0 := below_thru hB hb0
  clear hx hr hB hb0
  refine takeH 0 7 (v := ?vt0_1) rfl (by rfl) (by kernel_rfl) (by kernel_rfl) (by kernel_rfl) (fun _ _ _ h => h) (Or.inl ⟨by rfl, ?_⟩) (hx0) ?_
  rotate_left
  · intro wq hSq
    go_simp
    exact rfl
  try simp only [Act.put, List.setIfInBounds_toArray, List.set_cons_zero, List.set_cons_succ]
  refine takeH 1 8 (v := ?vt1_2) rfl (by rfl) (by kernel_rfl) (by kernel_rfl) (by kernel_rfl) (fun _ _ _ h => h) (Or.inl ⟨by rfl, ?_⟩) (hx0) ?_
  rotate_left
  · intro wq hSq
    go_simp
    exact rfl
  try simp only [Act.put, List.setIfInBounds_toArray, List.set_cons_zero, List.set_cons_succ]
  refine takeH 2 9 (v := ?vt2_3) rfl (by rfl) (by kernel_rfl) (by kernel_rfl) (by kernel_rfl) (fun _ _ _ h => h) (Or.inl ⟨by rfl, ?_⟩) (hx0) ?_
  rotate_left
  · intro wq hSq
    have cq := hSq.c 0 _ v0
    have zq := lt_of_cell cq
    go_simp
    exact rfl
  try simp only [Act.put, List.setIfInBounds_toArray, List.set_cons_zero, List.set_cons_succ]
  refine takeH 4 11 (v := ?vt4_4) rfl (by rfl) (by kernel_rfl) (by kernel_rfl) (by kernel_rfl) (fun _ _ _ h => h) (Or.inl ⟨by rfl, ?_⟩) (hx0) ?_
  rotate_left
  · intro wq hSq
    go_simp
    exact rfl
  try simp only [Act.put, List.setIfInBounds_toArray, List.set_cons_zero, List.set_cons_succ]
  refine takeH 5 12 (v := ?vt5_5) rfl (by rfl) (by kernel_rfl) (by kernel_rfl) (by kernel_rfl) (fun _ _ _ h => h) (Or.inl ⟨by rfl, ?_⟩) (hx0) ?_
  rotate_left
  · intro wq hSq
    go_simp
    exact rfl
  try simp only [Act.put, List.setIfInBounds_toArray, List.set_cons_zero, List.set_cons_succ]
  refine takeH 6 13 (v := ?vt6_6) rfl (by rfl) (by kernel_rfl) (by kernel_rfl) (by kernel_rfl) (fun _ _ _ h => h) (Or.inl ⟨by rfl, ?_⟩) (hx0) ?_
  rotate_left
  · intro wq hSq
    have cq := hSq.c 1 _ v1
    have zq := lt_of_cell cq
    go_simp
    exact rfl
  try simp only [Act.put, List.setIfInBounds_toArray, List.set_cons_zero, List.set_cons_succ]
  refine takeH 8 15 (v := ?vt8_7) rfl (by rfl) (by kernel_rfl) (by kernel_rfl) (by kernel_rfl) (fun _ _ _ h => h) (Or.inl ⟨by rfl, ?_⟩) (hx0) ?_
  rotate_left
  · intro wq hSq
    go_simp
    exact rfl
  try simp only [Act.put, List.setIfInBounds_toArray, List.set_cons_zero, List.set_cons_succ]
  refine takeH 9 16 (v := ?vt9_8) rfl (by rfl) (by kernel_rfl) (by kernel_rfl) (by kernel_rfl) (fun _ _ _ h => h) (Or.inl ⟨by rfl, ?_⟩) (hx0) ?_
  rotate_left
  · intro wq hSq
    go_simp
    exact rfl
  try simp only [Act.put, List.setIfInBounds_toArray, List.set_cons_zero, List.set_cons_succ]
  refine takeH 10 17 (v := ?vt10_9) rfl (by rfl) (by kernel_rfl) (by kernel_rfl) (by kernel_rfl) (fun _ _ _ h => h) (Or.inl ⟨by rfl, ?_⟩) (hx0) ?_
  rotate_left
  · intro wq hSq
    have cq := hSq.c 2 _ v2
    have zq := lt_of_cell cq
    go_simp
    exact rfl
  try simp only [Act.put, List.setIfInBounds_toArray, List.set_cons_zero, List.set_cons_succ]
  refine takeH 12 19 (v := ?vt12_10) rfl (by rfl) (by kernel_rfl) (by kernel_rfl) (by kernel_rfl) (fun _ _ _ h => h) (Or.inl ⟨by rfl, ?_⟩) (hx0) ?_
  rotate_left
  · intro wq hSq
    go_simp
    exact rfl
  try simp only [Act.put, List.setIfInBounds_toArray, List.set_cons_zero, List.set_cons_succ]
  refine takeH 13 20 (v := ?vt13_11) rfl (by rfl) (by kernel_rfl) (by kernel_rfl) (by kernel_rfl) (fun _ _ _ h => h) (Or.inl ⟨by rfl, ?_⟩) (hx0) ?_
  rotate_left
  · intro wq hSq
    have cq := hSq.c 3 _ v3
    have zq := lt_of_cell cq
    go_simp
    exact rfl
  try simp only [Act.put, List.setIfInBounds_toArray, List.set_cons_zero, List.set_cons_succ]
  refine takeH 14 21 (v := .agg V4.toArray) rfl (by rfl) (by kernel_rfl) (by kernel_rfl) (by kernel_rfl) (fun _ _ _ h => h) (Or.inl ⟨by rfl, ?_⟩) (hx0) ?_
  · intro wq hSq
    go_simp
    exact E4.out
  try simp only [Act.put, List.setIfInBounds_toArray, List.set_cons_zero, List.set_cons_succ]
  refine wpAnyH_ready (rs := [3]) (by kernel_rfl) (by simp) (AllReadyH.cons rfl (fun K hK => ?_) AllReadyH.nil)
  go_simp
  refine (A1 _).mono ?_
  rintro e W12 ⟨rfl, hb12⟩
  have hx12 := Box.below hx0 hb12; have hr12 := Box.below hr0 hb12; have hB12 := below_thru hB0 hb12
  have sz12 := hr12.lt
  refine hK.out _ _ hx12 (fun _ => ?_); clear hK K
  refine wpAnyH_ready (rs := [7]) (by kernel_rfl) (by simp) (AllReadyH.cons rfl (fun K hK => ?_) AllReadyH.nil)
  go_simp
  refine (A2 _).mono ?_
  rintro e W13 ⟨rfl, hb13⟩
  have hx13 := Box.below hx12 hb13; have hr13 := Box.below hr12 hb13; have hB13 := below_thru hB12 hb13
  have sz13 := hr13.lt
  refine hK.out _ _ hx13 (fun _ => ?_); clear hK K
  refine wpAnyH_ready (rs := [11]) (by kernel_rfl) (by simp) (AllReadyH.cons rfl (fun K hK => ?_) AllReadyH.nil)
  go_simp
  refine (A3 _).mono ?_
  rintro e W14 ⟨rfl, hb14⟩
  have hx14 := Box.below hx13 hb14; have hr14 := Box.below hr13 hb14; have hB14 := below_thru hB13 hb14
  have sz14 := hr14.lt
  refine hK.out _ _ hx14 (fun _ => ?_); clear hK K
  refine wpAnyH_ready (rs := [15]) (by kernel_rfl) (by simp) (AllReadyH.cons rfl (fun K hK => ?_) AllReadyH.nil)
  refine step_bsliceH 22 rfl rfl 40 4 _ rfl (us := #[(0, .agg V1.toArray), (1, .agg V2.toArray), (2, .agg V3.toArray), (3, .agg V4.toArray)]) (by rfl) (HBS.out _) ?_
  refine hK.out _ _ (Box.alloc hx14 _) (fun _ => ?_); clear hK K
  refine F_both (F := fun W => wpAnyH _ _ _ _ _ _ _ _ W) (J := fun W => IsR LF W (.slice (some ⟨W14.heap.size, 0, none⟩) 4 4) k.row) (J2 := fun W => Below W14.heap.size W14 W) (IsR.built (L := LF) (w := W14) (t := 44) k.row rfl (by rw [← HF.out]; simp) rfl rfl (by show 4 ≤ 1000; decide)) ((Below.refl _ _).alloc (Nat.le_refl _) _) ?_
  intro W15 hrow hb15
  have hx15 := Box.below hx14 hb15; have hr15 := Box.below hr14 hb15; have hB15 := below_thru hB14 hb15
  have sz15 := hr15.lt
  refine wpAnyH_ready (rs := [16]) (by kernel_rfl) (by simp) (AllReadyH.cons rfl (fun K hK => ?_) AllReadyH.nil)
  go_simp
  refine (WR _ _ hrow).mono ?_
  rintro e W16 ⟨vm, rfl, hm, hb16⟩
  have hx16 := Box.below hx15 hb16; have hr16 := Box.below hr15 hb16; have hB16 := below_thru hB15 hb16
  have sz16 := hr16.lt
  obtain ⟨am, cm, rfl, im, _⟩ := id hm
  obtain ⟨bm, om, rfl, hrm⟩ := IsL.rangeOf hm (by have := HM.out; omega)
  have hcm := im.room
  rw [HM.out] at hcm ⊢
  have hA : ∀ W, (Instr.arrayAt 47 (.slice (some ⟨bm, om, none⟩) 20 cm)).run Try.prog W = .ok (.pointer (some ⟨bm, om, none⟩)) W := fun W => run_arrayAt W 47 _ 20 _ 20 _ Try.underlying47 (Nat.le_refl _)
  clear im hm
  refine hK.out _ _ hx16 (fun _ => ?_); clear hK K
  refine takeH 17 6 (v := ?vt17_17) rfl (by rfl) (by kernel_rfl) (by kernel_rfl) (by kernel_rfl) (fun _ _ _ h => h) (Or.inl ⟨by rfl, ?_⟩) (hx16) ?_
  rotate_left
  · intro wq hSq
    go_simp
    exact rfl
  try simp only [Act.put, List.setIfInBounds_toArray, List.set_cons_zero, List.set_cons_succ]
  refine takeH 18 24 (v := ?vt18_18) rfl (by rfl) (by kernel_rfl) (by kernel_rfl) (by kernel_rfl) (fun _ _ _ h => h) (Or.inl ⟨by rfl, ?_⟩) (hx16) ?_
  rotate_left
  · intro wq hSq
    go_simp
    exact rfl
  try simp only [Act.put, List.setIfInBounds_toArray, List.set_cons_zero, List.set_cons_succ]
  refine takeH 19 25 (v := ?vt19_19) rfl (by rfl) (by kernel_rfl) (by kernel_rfl) (by kernel_rfl) (fun _ _ _ h => h) (Or.inl ⟨by rfl, ?_⟩) (hx16) ?_
  rotate_left
  · intro wq hSq
    go_simp
    exact rfl
  try simp only [Act.put, List.setIfInBounds_toArray, List.set_cons_zero, List.set_cons_succ]
  refine takeH 20 4 (v := ?vt20_20) rfl (by rfl) (by kernel_rfl) (by kernel_rfl) (by kernel_rfl) (fun _ _ _ h => h) (Or.inl ⟨by rfl, ?_⟩) (hx16) ?_
  rotate_left
  · intro wq hSq
    go_simp
    exact rfl
  try simp only [Act.put, List.setIfInBounds_toArray, List.set_cons_zero, List.set_cons_succ]
  refine takeH 21 5 (v := ?vt21_21) rfl (by rfl) (by kernel_rfl) (by kernel_rfl) (by kernel_rfl) (fun _ _ _ h => h) (Or.inl ⟨by rfl, ?_⟩) (hx16) ?_
  rotate_left
  · intro wq hSq
    go_simp
    exact rfl
  try simp only [Act.put, List.setIfInBounds_toArray, List.set_cons_zero, List.set_cons_succ]
  refine wpAnyH_done (by kernel_rfl) ?_ _
  go_wp2_with (first | (refine wpList_load_range rfl _ _ rfl hrm rfl Try.underlying47 rfl IM.out ?_) | (refine wpList_store_box (cs := M.map (Value.int .u8)) rfl _ _ _ rfl hr16 rfl rfl IM.out LM.out (oneCell_ints _) ?_; intro w9 hW9))
  exact bodyPost_ret (results_box Try.results13 hW9.box rfl Try.underlying47 rfl IM.out) rfl ⟨rfl, hW9.below _ _ (by omega) hB16⟩


end Go.Proofs.Ytlbbedknldmcpaa
