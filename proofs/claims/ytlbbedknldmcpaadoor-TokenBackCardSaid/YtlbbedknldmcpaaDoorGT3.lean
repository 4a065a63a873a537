/-
  Package token, walked: the tag for a token, Mint, Verify, Valid.
  The statements' helpers of layer 8: the token of the examples, and the chapter's examples.
-/
import Derived.Test.YtlbbedknldmcpaaDoorGT1
import Derived.Test.YtlbbedknldmcpaaDoorGB1
import Derived.Test.YtlbbedknldmcpaaDoorGM1

namespace Go.Proofs.YtlbbedknldmcpaaDoor
open Go.RowKit

theorem Byts.l {xs : List Int} (h : Byts xs) : bytesL xs := bytesL.of_all fun x hx => by have := h x hx; omega
theorem bytesL.b {xs : List Int} (h : bytesL xs) : Byts xs := fun x hx => by
  obtain ⟨i, hi, rfl⟩ := List.mem_iff_getElem.1 hx
  have := h i hi
  unfold nth at this
  rw [List.getD_eq_getElem?_getD, List.getElem?_eq_getElem hi, Option.getD_some] at this
  omega
theorem tagL_byts (K b : List Int) : Byts (tagL K b) := bytesL.b (shaOf_bytes _)
def zeroTk : List Value := tcell Nums.zero zeroD
theorem zd32 : zeroD.length = 32 := by decide
/-- What Verify and Valid answer. -/
def verN (K : List Int) (k : Nums) (g : List Int) : Int := if tagL K k.msg = g then 0 else 22
def valN (K : List Int) (k : Nums) (g : List Int) (t : Int) : Int := if tagL K k.msg = g then (if k.x < t then 24 else 0) else 22

section
variable {P : Program} {ops : Array Oper} {o : Oper} {a : Act} {w : World} {Q : Exit → Act → World → Prop} {rest : List Oper}
theorem wpList_build4 (hgd : o.guard = none) (t : TypeId) (xs : Array (Nat × Operand)) (ho : o.op = .build t xs) {v : Value} {us : Array (Nat × Value)} (hx : (xs.toList.map fun p => (p.1, a.eval p.2)) = us.toList) (hr : (Instr.build t us).run P w = .ok v w)
    (h : wpList P ops Q rest (a.put o.dst v) w) : wpList P ops Q (o :: rest) a w := by
  have hx' : (xs.map fun (i, x) => (i, a.eval x)) = us := by
    apply Array.ext'
    rw [Array.toList_map, ← hx]
  subst hx'
  refine wpList_plain hgd fun _ hK => ?_
  unfold Oper.wp execOp
  simp only [ho, Sem.run_bind, hr, Result.andThen_ok, Sem.run_pure]
  exact hK _ _ h
end
theorem build_tok0' (t u e x : Int) (W : World) : (Instr.build 27 #[(0, .int .u32 t), (1, .int .u32 u), (2, .int .u32 e), (3, .int .u64 x)]).run Tryd.prog W = .ok (.agg (.int .u32 t :: .int .u32 u :: .int .u32 e :: .int .u64 x :: zeroD.map (Value.int .u8)).toArray) W := by kernel_rfl

set_option maxRecDepth 100000 in
set_option maxHeartbeats 3200000 in
theorem tagfor_is (k : Nums) {g K D : List Int} (hg : g.length = 32) (hK : K.length = 32) (hKb : Byts K) (hD : Hid (tagL K k.msg = D)) (w : World) (hL : Hid (LaidS w)) : Calls Tryd.prog 23 #[.agg (K.map (Value.int .u8)).toArray, .agg (tcell k g).toArray] w fun e w' => e = .returned (.agg (D.map (Value.int .u8)).toArray) ∧ Below w.heap.size w w' := by
  have B := fun W => bytes_is k (g := g) W
  have hm := k.msg_len
  have HMB := Lib.hid k.msg_byts.l
  have hDl : D.length = 32 := by rw [← hD.out]; exact tagL_len _ _
  obtain ⟨M, hM⟩ : ∃ M, k.msg = M := ⟨_, rfl⟩
  rw [hM] at B hm HMB hD
  have HM := Lib.hid hm
  have IM := Lib.hid (size_msg hm)
  have LM := Lib.hid (len_msg hm)
  have HK := Lib.hid hK
  have HKB := Lib.hid hKb.l
  have ID := Lib.hid (size_dig hDl)
  have LD := Lib.hid (len_dig hDl)
  have SV := Lib.hid (size_tok k hg)
  obtain ⟨V, hV⟩ : ∃ V, tcell k g = V := ⟨_, rfl⟩
  rw [hV] at B SV ⊢
  clear hV hM hm hDl hK hKb hg
  have hx : Box (((w.alloc (.cells (K.map (Value.int .u8)).toArray 23)).alloc (.cells V.toArray 27)).alloc (.cells zero32.toArray 23)) w.heap.size (K.map (Value.int .u8)) := Box.alloc (Box.alloc (Box.newc rfl rfl) _) _
  have hv : Box (((w.alloc (.cells (K.map (Value.int .u8)).toArray 23)).alloc (.cells V.toArray 27)).alloc (.cells zero32.toArray 23)) (w.heap.size + 1) V := Box.alloc (Box.newc rfl (by simp)) _
  have hr : Box (((w.alloc (.cells (K.map (Value.int .u8)).toArray 23)).alloc (.cells V.toArray 27)).alloc (.cells zero32.toArray 23)) (w.heap.size + 2) zero32 := Box.newc rfl (by simp)
  have hB : Below w.heap.size w (((w.alloc (.cells (K.map (Value.int .u8)).toArray 23)).alloc (.cells V.toArray 27)).alloc (.cells zero32.toArray 23)) := by go_grown
  go_enter Tryd.func23, Tryd.ntmps23
  go_wp2_with (refine wpList_load_box rfl _ _ rfl hv rfl Tryd.underlying27 rfl SV.out ?_)
  refine (B _).mono ?_
  rintro e w1 ⟨rfl, hb1⟩
  have hx1 := hx.below hb1
  have hr1 := hr.below hb1
  have hB1 := below_thru hB hb1
  have hs1 := hB1.size
  have hz1 := hr1.lt
  clear hx hv hr hB hb1
  go_upto_region 2 with (refine wpList_store_box (cs := M.map (Value.int .u8)) rfl _ _ _ rfl (Box.newc (l := zero20) rfl rfl) rfl rfl IM.out LM.out (oneCell_ints _) ?_; intro w2 hW2)
  have hB2 : Below w.heap.size w w2 := hW2.below _ _ hs1 (hB1.alloc hs1 _)
  have hx2 : Box w2 w.heap.size (K.map (Value.int .u8)) := hW2.past _ _ (by omega) (hx1.alloc _)
  have hr2 : Box w2 (w.heap.size + 2) zero32 := hW2.past _ _ (by omega) (hr1.alloc _)
  have hm2 := hW2.box
  clear hx1 hr1 hB1 hW2
  obtain ⟨bm, hbm⟩ : ∃ b, w1.heap.size = b := ⟨_, rfl⟩
  rw [hbm] at hm2 ⊢
  clear hbm
  refine wp_region_held_drew (S := fun _ => True) (by kernel_rfl) trivial (fun _ => ?_)
  refine F_drew (F := fun W => wpAnyH _ _ _ _ _ _ _ _ W) ?_
  intro W0 hb0
  have hx0 := hx2.below hb0; have hm0 := hm2.below hb0; have hr0 := hr2.below hb0; have hB0 := below_thru hB2 hb0
  clear hx2 hm2 hr2 hB2 hb0
  refine takeH 0 11 (v := ?vt0_1) rfl (by rfl) (by kernel_rfl) (by kernel_rfl) (by kernel_rfl) (fun _ _ _ h => h) (Or.inl ⟨by rfl, ?_⟩) (trivial) ?_
  rotate_left
  · intro wq hSq
    go_simp
    exact rfl
  try simp only [Act.put, List.setIfInBounds_toArray, List.set_cons_zero, List.set_cons_succ]
  refine takeH 1 12 (v := ?vt1_2) rfl (by rfl) (by kernel_rfl) (by kernel_rfl) (by kernel_rfl) (fun _ _ _ h => h) (Or.inl ⟨by rfl, ?_⟩) (trivial) ?_
  rotate_left
  · intro wq hSq
    go_simp
    exact rfl
  try simp only [Act.put, List.setIfInBounds_toArray, List.set_cons_zero, List.set_cons_succ]
  refine wpAnyH_ready (rs := [2, 6]) (by kernel_rfl) (by simp) (AllReadyH.cons rfl (fun K hK => ?_) (AllReadyH.cons rfl (fun K hK => ?_) AllReadyH.nil))
  · skip
    go_simp
    refine (tag_ok _ (Lib.hid (IsL.boxed 32 HK.out hx0 (by omega))) (Lib.hid (IsL.boxed 20 HM.out hm0 (by omega))) (by have := HK.out; omega) (by have := HM.out; omega) HKB HMB hD (Lib.hid (hL.out.below hB0))).mono ?_
    rintro e W3 ⟨rfl, hb3⟩
    have hx3 := Box.below hx0 hb3
    have hm3 := Box.below hm0 hb3
    have hr3 := Box.below hr0 hb3
    have hB3 := below_thru hB0 hb3
    have sz3 := hr3.lt
    refine hK.out _ _ trivial (fun _ => ?_); clear hK
    refine takeH 3 10 (v := ?vt3_4) rfl (by rfl) (by kernel_rfl) (by kernel_rfl) (by kernel_rfl) (fun _ _ _ h => h) (Or.inl ⟨by rfl, ?_⟩) (trivial) ?_
    rotate_left
    · intro wq hSq
      go_simp
      exact rfl
    try simp only [Act.put, List.setIfInBounds_toArray, List.set_cons_zero, List.set_cons_succ]
    refine takeH 4 14 (v := ?vt4_5) rfl (by rfl) (by kernel_rfl) (by kernel_rfl) (by kernel_rfl) (fun _ _ _ h => h) (Or.inl ⟨by rfl, ?_⟩) (trivial) ?_
    rotate_left
    · intro wq hSq
      go_simp
      exact rfl
    try simp only [Act.put, List.setIfInBounds_toArray, List.set_cons_zero, List.set_cons_succ]
    refine takeH 5 15 (v := ?vt5_6) rfl (by rfl) (by kernel_rfl) (by kernel_rfl) (by kernel_rfl) (fun _ _ _ h => h) (Or.inl ⟨by rfl, ?_⟩) (trivial) ?_
    rotate_left
    · intro wq hSq
      go_simp
      exact rfl
    try simp only [Act.put, List.setIfInBounds_toArray, List.set_cons_zero, List.set_cons_succ]
    refine wpAnyH_ready (rs := [6]) (by kernel_rfl) (by simp) (AllReadyH.cons rfl (fun K hK => ?_) AllReadyH.nil)
    go_simp
    refine hK.out _ _ trivial (fun _ => ?_); clear hK
    refine F_alloc (F := fun W => wpAnyH _ _ _ _ _ _ _ _ W) zero32 rfl ?_
    intro W7 ht7 hb7
    have hx7 := Box.below hx3 hb7
    have hm7 := Box.below hm3 hb7
    have hr7 := Box.below hr3 hb7
    have hB7 := below_thru hB3 hb7
    have sz7 := hr7.lt
    obtain ⟨bt, hbt⟩ : ∃ b, W3.heap.size = b := ⟨_, rfl⟩
    have zt : w.heap.size + 2 < bt := by have := Box.lt hr3; omega
    rw [hbt] at ht7 ⊢
    clear hbt
    refine wpAnyH_ready (rs := [7]) (by kernel_rfl) (by simp) (AllReadyH.cons rfl (fun K hK => ?_) AllReadyH.nil)
    refine step_store_box0 rfl rfl _ _ _ rfl ht7 rfl rfl ID.out LD.out (oneCell_ints _) (fun W8 hW => ?_)
    have hR := hW.past _ _ (by omega) hr7; have hBT := hW.below _ _ (by omega) hB7; have hT := hW.box
    refine hK.out _ _ trivial (fun _ => ?_); clear hK
    refine takeH 8 7 (v := ?vt8_9) rfl (by rfl) (by kernel_rfl) (by kernel_rfl) (by kernel_rfl) (fun _ _ _ h => h) (Or.inl ⟨by rfl, ?_⟩) (trivial) ?_
    rotate_left
    · intro wq hSq
      go_simp
      exact rfl
    try simp only [Act.put, List.setIfInBounds_toArray, List.set_cons_zero, List.set_cons_succ]
    refine wpAnyH_done (by kernel_rfl) ?_ _
    go_wp2_with (first | (refine wpList_load_box rfl _ _ rfl hT rfl Tryd.underlying23 rfl ID.out ?_) | (refine wpList_store_box (cs := D.map (Value.int .u8)) rfl _ _ _ rfl hR rfl rfl ID.out LD.out (oneCell_ints _) ?_; intro w9 hW9))
    exact bodyPost_ret (results_box Tryd.results23 hW9.box rfl Tryd.underlying23 rfl ID.out) rfl ⟨rfl, hW9.below _ _ (by omega) hBT⟩
  · skip
    go_simp
    refine hK.out _ _ trivial (fun _ => ?_); clear hK
    refine F_alloc (F := fun W => wpAnyH _ _ _ _ _ _ _ _ W) zero32 rfl ?_
    intro W10 ht10 hb10
    have hx10 := Box.below hx0 hb10
    have hm10 := Box.below hm0 hb10
    have hr10 := Box.below hr0 hb10
    have hB10 := below_thru hB0 hb10
    have sz10 := hr10.lt
    obtain ⟨bt, hbt⟩ : ∃ b, W0.heap.size = b := ⟨_, rfl⟩
    have zt : w.heap.size + 2 < bt := by have := Box.lt hr0; omega
    rw [hbt] at ht10 ⊢
    clear hbt
    refine wpAnyH_ready (rs := [2]) (by kernel_rfl) (by simp) (AllReadyH.cons rfl (fun K hK => ?_) AllReadyH.nil)
    go_simp
    refine (tag_ok _ (Lib.hid (IsL.boxed 32 HK.out hx10 (by omega))) (Lib.hid (IsL.boxed 20 HM.out hm10 (by omega))) (by have := HK.out; omega) (by have := HM.out; omega) HKB HMB hD (Lib.hid (hL.out.below hB10))).mono ?_
    rintro e W11 ⟨rfl, hb11⟩
    have hx11 := Box.below hx10 hb11
    have hm11 := Box.below hm10 hb11
    have hr11 := Box.below hr10 hb11
    have ht11 := Box.below ht10 hb11
    have hB11 := below_thru hB10 hb11
    have sz11 := hr11.lt
    refine hK.out _ _ trivial (fun _ => ?_); clear hK
    refine takeH 3 10 (v := ?vt3_12) rfl (by rfl) (by kernel_rfl) (by kernel_rfl) (by kernel_rfl) (fun _ _ _ h => h) (Or.inl ⟨by rfl, ?_⟩) (trivial) ?_
    rotate_left
    · intro wq hSq
      go_simp
      exact rfl
    try simp only [Act.put, List.setIfInBounds_toArray, List.set_cons_zero, List.set_cons_succ]
    refine takeH 4 14 (v := ?vt4_13) rfl (by rfl) (by kernel_rfl) (by kernel_rfl) (by kernel_rfl) (fun _ _ _ h => h) (Or.inl ⟨by rfl, ?_⟩) (trivial) ?_
    rotate_left
    · intro wq hSq
      go_simp
      exact rfl
    try simp only [Act.put, List.setIfInBounds_toArray, List.set_cons_zero, List.set_cons_succ]
    refine takeH 5 15 (v := ?vt5_14) rfl (by rfl) (by kernel_rfl) (by kernel_rfl) (by kernel_rfl) (fun _ _ _ h => h) (Or.inl ⟨by rfl, ?_⟩) (trivial) ?_
    rotate_left
    · intro wq hSq
      go_simp
      exact rfl
    try simp only [Act.put, List.setIfInBounds_toArray, List.set_cons_zero, List.set_cons_succ]
    refine wpAnyH_ready (rs := [7]) (by kernel_rfl) (by simp) (AllReadyH.cons rfl (fun K hK => ?_) AllReadyH.nil)
    refine step_store_box0 rfl rfl _ _ _ rfl ht11 rfl rfl ID.out LD.out (oneCell_ints _) (fun W15 hW => ?_)
    have hR := hW.past _ _ (by omega) hr11; have hBT := hW.below _ _ (by omega) hB11; have hT := hW.box
    refine hK.out _ _ trivial (fun _ => ?_); clear hK
    refine takeH 8 7 (v := ?vt8_16) rfl (by rfl) (by kernel_rfl) (by kernel_rfl) (by kernel_rfl) (fun _ _ _ h => h) (Or.inl ⟨by rfl, ?_⟩) (trivial) ?_
    rotate_left
    · intro wq hSq
      go_simp
      exact rfl
    try simp only [Act.put, List.setIfInBounds_toArray, List.set_cons_zero, List.set_cons_succ]
    refine wpAnyH_done (by kernel_rfl) ?_ _
    go_wp2_with (first | (refine wpList_load_box rfl _ _ rfl hT rfl Tryd.underlying23 rfl ID.out ?_) | (refine wpList_store_box (cs := D.map (Value.int .u8)) rfl _ _ _ rfl hR rfl rfl ID.out LD.out (oneCell_ints _) ?_; intro w9 hW9))
    exact bodyPost_ret (results_box Tryd.results23 hW9.box rfl Tryd.underlying23 rfl ID.out) rfl ⟨rfl, hW9.below _ _ (by omega) hBT⟩


set_option maxRecDepth 100000 in
set_option maxHeartbeats 3200000 in
theorem mint_is (k : Nums) {K D : List Int} (hK : K.length = 32) (hKb : Byts K) (hD : Hid (tagL K k.msg = D)) (w : World) (hL : Hid (LaidS w)) : Calls Tryd.prog 10 #[.agg (K.map (Value.int .u8)).toArray, .int .u32 k.t, .int .u32 k.u, .int .u32 k.e, .int .u64 k.x] w fun e w' => e = .returned (.agg (tcell k D).toArray) ∧ Below w.heap.size w w' := by
  have hDl : D.length = 32 := by rw [← hD.out]; exact tagL_len _ _
  have A := fun (W : World) h => tagfor_is k (g := zeroD) zd32 hK hKb hD W h
  have S0 := Lib.hid (size_tok k zd32)
  have SV := Lib.hid (size_tok k hDl)
  have SK := Lib.hid (size_dig hK)
  have SD := Lib.hid (size_dig hDl)
  have L0 := Lib.hid (len_tok Nums.zero k zd32 zd32)
  have LV := Lib.hid (len_tok Nums.zero k zd32 hDl)
  have O0 := Lib.hid (tcell_one k zeroD)
  have OV := Lib.hid (tcell_one k D)
  have P1 := Lib.hid (show 4 + (D.map (Value.int .u8)).length ≤ (tcell k zeroD).length by rw [List.length_map, hDl, tcell_len k zd32]; omega)
  have P2 := Lib.hid (show tcell k D = (tcell k zeroD).take 4 ++ D.map (Value.int .u8) ++ (tcell k zeroD).drop (4 + (D.map (Value.int .u8)).length) by
    rw [List.drop_eq_nil_of_le (by rw [tcell_len k zd32, List.length_map, hDl]; omega), List.append_nil]
    rfl)
  have hx : Box ((w.alloc (.cells (K.map (Value.int .u8)).toArray 23)).alloc (.cells zeroTk.toArray 27)) w.heap.size (K.map (Value.int .u8)) := Box.alloc (Box.newc rfl rfl) _
  have hr : Box ((w.alloc (.cells (K.map (Value.int .u8)).toArray 23)).alloc (.cells zeroTk.toArray 27)) (w.heap.size + 1) zeroTk := Box.newc rfl (by simp)
  have hB : Below w.heap.size w ((w.alloc (.cells (K.map (Value.int .u8)).toArray 23)).alloc (.cells zeroTk.toArray 27)) := by go_grown
  have BT := fun W => build_tok0' k.t k.u k.e k.x W
  have HV : tcell k zeroD = .int .u32 k.t :: .int .u32 k.u :: .int .u32 k.e :: .int .u64 k.x :: zeroD.map (Value.int .u8) := rfl
  rw [← HV] at BT
  obtain ⟨V0, hV0⟩ : ∃ V, tcell k zeroD = V := ⟨_, rfl⟩
  obtain ⟨V, hV⟩ : ∃ V, tcell k D = V := ⟨_, rfl⟩
  rw [hV0] at BT S0 L0 O0 P1 P2 A
  rw [hV] at SV LV OV P2 ⊢
  clear hDl hK hKb hD HV hV hV0
  go_enter Tryd.func10, Tryd.ntmps10
  go_upto_region 2 with (first | (refine wpList_build4 rfl 27 _ rfl (us := #[(0, .int .u32 k.t), (1, .int .u32 k.u), (2, .int .u32 k.e), (3, .int .u64 k.x)]) (by rfl) (BT _) ?_) | (refine wpList_store_box (cs := V0) rfl _ _ _ rfl (Box.newc (l := zeroTk) rfl (by simp)) rfl rfl S0.out L0.out O0.out ?_; intro w2 hW2))
  have hB2 : Below w.heap.size w w2 := hW2.below _ _ (by first | omega | (simp; done) | (simp; omega)) (by go_grown)
  have hx2 : Box w2 w.heap.size (K.map (Value.int .u8)) := hW2.past _ _ (by first | omega | (simp; done) | (simp; omega)) (hx.alloc _)
  have hr2 : Box w2 (w.heap.size + 1) zeroTk := hW2.past _ _ (by first | omega | (simp; done) | (simp; omega)) (hr.alloc _)
  have ht2 := hW2.box
  clear hW2 hx hr hB
  go_wp2_with (first | (refine wpList_load_box rfl _ _ rfl hx2 rfl Tryd.underlying23 rfl SK.out ?_) | (refine wpList_load_box rfl _ _ rfl ht2 rfl Tryd.underlying27 rfl S0.out ?_))
  refine (A _ (Lib.hid (hL.out.below hB2))).mono ?_
  rintro e w3 ⟨rfl, hb3⟩
  have hr3 := hr2.below hb3
  have ht3 := ht2.below hb3
  have hB3 := below_thru hB2 hb3
  have hz3 := ht3.lt
  clear hx2 hr2 ht2 hB2 hb3
  go_upto_region 3 with (refine wpList_store_part (cs := D.map (Value.int .u8)) (ws := V) rfl _ _ _ rfl ht3 rfl rfl SD.out P1.out P2.out (oneCell_ints _) ?_; intro w4 hW4)
  have hB4 : Below w.heap.size w w4 := hW4.below _ _ (by first | omega | (simp; done) | (simp; omega)) hB3
  have hr4 : Box w4 (w.heap.size + 1) zeroTk := hW4.past _ _ (by first | omega | (simp; done) | (simp; omega)) hr3
  have ht4 := hW4.box
  clear hW4 hr3 ht3 hB3
  go_wp2_with (first | (refine wpList_load_box rfl _ _ rfl ht4 rfl Tryd.underlying27 rfl SV.out ?_) | (refine wpList_store_box (cs := V) rfl _ _ _ rfl hr4 rfl rfl SV.out LV.out OV.out ?_; intro w9 hW9))
  exact bodyPost_ret (results_box Tryd.results10 hW9.box rfl Tryd.underlying27 rfl SV.out) rfl ⟨rfl, hW9.below _ _ (by omega) hB4⟩

set_option maxRecDepth 100000 in
set_option maxHeartbeats 3200000 in
theorem verify_is (k : Nums) {g K : List Int} {q : Int} (hg : g.length = 32) (hK : K.length = 32) (hKb : Byts K) (hq : Hid (verN K k g = q)) (w : World) (hL : Hid (LaidS w)) : Calls Tryd.prog 18 #[.agg (K.map (Value.int .u8)).toArray, .agg (tcell k g).toArray] w fun e w' => e = .returned (.int .i64 q) ∧ Below w.heap.size w w' := by
  have hDl := tagL_len K k.msg
  obtain ⟨D, hD⟩ : ∃ D, tagL K k.msg = D := ⟨_, rfl⟩
  have A := fun W h => tagfor_is k hg hK hKb (Lib.hid hD) W h
  have hqq : (if D = g then 0 else 22) = q := by rw [← hD]; exact hq.out
  rw [hD] at hDl
  have S := fun W => mac_same W hDl hg
  have SV := Lib.hid (size_tok k hg)
  have SK := Lib.hid (size_dig hK)
  have SG := Lib.hid (size_dig hg)
  have HT := Lib.hid (tcell_drop k g)
  obtain ⟨V, hV⟩ : ∃ V, tcell k g = V := ⟨_, rfl⟩
  rw [hV] at A SV HT ⊢
  have hs : sameB D g = decide (D = g) := rfl
  obtain ⟨c, hc⟩ : ∃ c, sameB D g = c := ⟨_, rfl⟩
  rw [hc] at S hs
  have hx : Box ((w.alloc (.cells (K.map (Value.int .u8)).toArray 23)).alloc (.cells V.toArray 27)) w.heap.size (K.map (Value.int .u8)) := Box.alloc (Box.newc rfl rfl) _
  have hv : Box ((w.alloc (.cells (K.map (Value.int .u8)).toArray 23)).alloc (.cells V.toArray 27)) (w.heap.size + 1) V := Box.newc rfl (by simp)
  have hB : Below w.heap.size w ((w.alloc (.cells (K.map (Value.int .u8)).toArray 23)).alloc (.cells V.toArray 27)) := by go_grown
  clear hV hD hg hK hKb hDl hc hq
  have h0 := And.intro hx hv
  clear hx hv
  cases c
  · rw [if_neg (of_decide_eq_false hs.symm)] at hqq
    subst hqq
    clear hs
    go_enter Tryd.func18, Tryd.ntmps18
    go_upto_region 1 with fail
    refine wp_region_held_drew (S := fun W => Box W w.heap.size (K.map (Value.int .u8)) ∧ Box W (w.heap.size + 1) V) (by kernel_rfl) ⟨h0.1.drew, h0.2.drew⟩ (fun _ => ?_)
    refine F_drew (F := fun W => wpAnyH _ _ _ _ _ _ _ _ W) ?_
    intro W0 hb0
    have hx0 := And.intro (h0.1.below hb0) (h0.2.below hb0); have hB0 := below_thru hB hb0
    clear h0 hB hb0
    refine takeH 3 8 (v := ?vv3_1) rfl (by rfl) (by kernel_rfl) (by kernel_rfl) (by kernel_rfl) (fun _ _ _ h => h) (Or.inl ⟨by rfl, ?_⟩) (hx0) ?_
    rotate_left
    · intro wq hSq
      go_simp
      exact rfl
    try simp only [Act.put, List.setIfInBounds_toArray, List.set_cons_zero, List.set_cons_succ]
    refine takeH 0 5 (v := .agg (K.map (Value.int .u8)).toArray) rfl (by rfl) (by kernel_rfl) (by kernel_rfl) (by kernel_rfl) (fun _ _ _ h => h) (yieldsIf_load_mid (by rfl) _ _ rfl _ _ rfl (K.map (Value.int .u8)) _ (fun wq hq => hq.1.range) Tryd.underlying23 rfl SK.out) (hx0) ?_
    try simp only [Act.put, List.setIfInBounds_toArray, List.set_cons_zero, List.set_cons_succ]
    refine takeH 1 6 (v := .agg V.toArray) rfl (by rfl) (by kernel_rfl) (by kernel_rfl) (by kernel_rfl) (fun _ _ _ h => h) (yieldsIf_load_mid (by rfl) _ _ rfl _ _ rfl V _ (fun wq hq => hq.2.range) Tryd.underlying27 rfl SV.out) (hx0) ?_
    try simp only [Act.put, List.setIfInBounds_toArray, List.set_cons_zero, List.set_cons_succ]
    refine takeH 4 9 (v := .agg (g.map (Value.int .u8)).toArray) rfl (by rfl) (by kernel_rfl) (by kernel_rfl) (by kernel_rfl) (fun _ _ _ h => h) (yieldsIf_load_mid (by rfl) _ _ rfl _ _ rfl (g.map (Value.int .u8)) _ (fun wq hq => Box.rangeFrom hq.2 4 _ HT.out) Tryd.underlying23 rfl SG.out) (hx0) ?_
    try simp only [Act.put, List.setIfInBounds_toArray, List.set_cons_zero, List.set_cons_succ]
    refine wpAnyH_ready (rs := [2]) (by kernel_rfl) (by simp) (AllReadyH.cons rfl (fun K hK => ?_) AllReadyH.nil)
    go_simp
    refine (A _ (Lib.hid (hL.out.below hB0))).mono ?_
    rintro e W2 ⟨rfl, hb2⟩
    have hx2 := And.intro (Box.below hx0.1 hb2) (Box.below hx0.2 hb2); have hB2 := below_thru hB0 hb2
    refine hK.out _ _ hx2 (fun _ => ?_); clear hK
    refine wpAnyH_ready (rs := [5]) (by kernel_rfl) (by simp) (AllReadyH.cons rfl (fun K hK => ?_) AllReadyH.nil)
    go_simp
    refine (S _).mono ?_
    rintro e W3 ⟨rfl, hb3⟩
    have hx3 := And.intro (Box.below hx2.1 hb3) (Box.below hx2.2 hb3); have hB3 := below_thru hB2 hb3
    refine hK.out _ _ hx3 (fun _ => ?_); clear hK
    refine takeH 6 11 (v := ?vv6_4) rfl (by rfl) (by kernel_rfl) (by kernel_rfl) (by kernel_rfl) (fun _ _ _ h => h) (Or.inl ⟨by rfl, ?_⟩) (hx3) ?_
    rotate_left
    · intro wq hSq
      go_simp
      exact rfl
    try simp only [Act.put, List.setIfInBounds_toArray, List.set_cons_zero, List.set_cons_succ]
    refine wpAnyH_done (by kernel_rfl) ?_ _
    go_wp2_with fail
    go_returns
    exact ⟨rfl, hB3⟩

  · rw [if_pos (of_decide_eq_true hs.symm)] at hqq
    subst hqq
    clear hs
    go_enter Tryd.func18, Tryd.ntmps18
    go_upto_region 1 with fail
    refine wp_region_held_drew (S := fun W => Box W w.heap.size (K.map (Value.int .u8)) ∧ Box W (w.heap.size + 1) V) (by kernel_rfl) ⟨h0.1.drew, h0.2.drew⟩ (fun _ => ?_)
    refine F_drew (F := fun W => wpAnyH _ _ _ _ _ _ _ _ W) ?_
    intro W0 hb0
    have hx0 := And.intro (h0.1.below hb0) (h0.2.below hb0); have hB0 := below_thru hB hb0
    clear h0 hB hb0
    refine takeH 3 8 (v := ?vy3_1) rfl (by rfl) (by kernel_rfl) (by kernel_rfl) (by kernel_rfl) (fun _ _ _ h => h) (Or.inl ⟨by rfl, ?_⟩) (hx0) ?_
    rotate_left
    · intro wq hSq
      go_simp
      exact rfl
    try simp only [Act.put, List.setIfInBounds_toArray, List.set_cons_zero, List.set_cons_succ]
    refine takeH 0 5 (v := .agg (K.map (Value.int .u8)).toArray) rfl (by rfl) (by kernel_rfl) (by kernel_rfl) (by kernel_rfl) (fun _ _ _ h => h) (yieldsIf_load_mid (by rfl) _ _ rfl _ _ rfl (K.map (Value.int .u8)) _ (fun wq hq => hq.1.range) Tryd.underlying23 rfl SK.out) (hx0) ?_
    try simp only [Act.put, List.setIfInBounds_toArray, List.set_cons_zero, List.set_cons_succ]
    refine takeH 1 6 (v := .agg V.toArray) rfl (by rfl) (by kernel_rfl) (by kernel_rfl) (by kernel_rfl) (fun _ _ _ h => h) (yieldsIf_load_mid (by rfl) _ _ rfl _ _ rfl V _ (fun wq hq => hq.2.range) Tryd.underlying27 rfl SV.out) (hx0) ?_
    try simp only [Act.put, List.setIfInBounds_toArray, List.set_cons_zero, List.set_cons_succ]
    refine takeH 4 9 (v := .agg (g.map (Value.int .u8)).toArray) rfl (by rfl) (by kernel_rfl) (by kernel_rfl) (by kernel_rfl) (fun _ _ _ h => h) (yieldsIf_load_mid (by rfl) _ _ rfl _ _ rfl (g.map (Value.int .u8)) _ (fun wq hq => Box.rangeFrom hq.2 4 _ HT.out) Tryd.underlying23 rfl SG.out) (hx0) ?_
    try simp only [Act.put, List.setIfInBounds_toArray, List.set_cons_zero, List.set_cons_succ]
    refine wpAnyH_ready (rs := [2]) (by kernel_rfl) (by simp) (AllReadyH.cons rfl (fun K hK => ?_) AllReadyH.nil)
    go_simp
    refine (A _ (Lib.hid (hL.out.below hB0))).mono ?_
    rintro e W2 ⟨rfl, hb2⟩
    have hx2 := And.intro (Box.below hx0.1 hb2) (Box.below hx0.2 hb2); have hB2 := below_thru hB0 hb2
    refine hK.out _ _ hx2 (fun _ => ?_); clear hK
    refine wpAnyH_ready (rs := [5]) (by kernel_rfl) (by simp) (AllReadyH.cons rfl (fun K hK => ?_) AllReadyH.nil)
    go_simp
    refine (S _).mono ?_
    rintro e W3 ⟨rfl, hb3⟩
    have hx3 := And.intro (Box.below hx2.1 hb3) (Box.below hx2.2 hb3); have hB3 := below_thru hB2 hb3
    refine hK.out _ _ hx3 (fun _ => ?_); clear hK
    refine takeH 6 11 (v := ?vy6_4) rfl (by rfl) (by kernel_rfl) (by kernel_rfl) (by kernel_rfl) (fun _ _ _ h => h) (Or.inl ⟨by rfl, ?_⟩) (hx3) ?_
    rotate_left
    · intro wq hSq
      go_simp
      exact rfl
    try simp only [Act.put, List.setIfInBounds_toArray, List.set_cons_zero, List.set_cons_succ]
    refine wpAnyH_done (by kernel_rfl) ?_ _
    go_wp2_with fail
    go_returns
    exact ⟨rfl, hB3⟩


set_option maxRecDepth 100000 in
set_option maxHeartbeats 3200000 in
theorem valid_is (k : Nums) {g K : List Int} {t q : Int} (hg : g.length = 32) (hK : K.length = 32) (hKb : Byts K) (ht : 0 ≤ t) (hq : Hid (valN K k g t = q)) (w : World) (hL : Hid (LaidS w)) : Calls Tryd.prog 14 #[.agg (K.map (Value.int .u8)).toArray, .agg (tcell k g).toArray, .int .u64 t] w fun e w' => e = .returned (.int .i64 q) ∧ Below w.heap.size w w' := by
  have _ := ht
  have h := hq.out
  unfold valN at h
  have SV := Lib.hid (size_tok k hg)
  have SK := Lib.hid (size_dig hK)
  by_cases hd : tagL K k.msg = g
  · rw [if_pos hd] at h
    have A := fun (W : World) h => verify_is k (q := 0) hg hK hKb (Lib.hid (if_pos hd)) W h
    obtain ⟨V, hV⟩ : ∃ V, tcell k g = V := ⟨_, rfl⟩
    have v3 : V[3]? = some (.int .u64 k.x) := by rw [← hV]; rfl
    rw [hV] at A SV ⊢
    clear hV hq hd
    have hx : Box ((w.alloc (.cells (K.map (Value.int .u8)).toArray 23)).alloc (.cells V.toArray 27)) w.heap.size (K.map (Value.int .u8)) := Box.alloc (Box.newc rfl rfl) _
    have hv : Box ((w.alloc (.cells (K.map (Value.int .u8)).toArray 23)).alloc (.cells V.toArray 27)) (w.heap.size + 1) V := Box.newc rfl (by simp)
    have hB : Below w.heap.size w ((w.alloc (.cells (K.map (Value.int .u8)).toArray 23)).alloc (.cells V.toArray 27)) := by go_grown
    by_cases hlt : k.x < t
    · rw [if_pos hlt] at h
      subst h
      have d1 : decide (k.x < t) = true := decide_eq_true hlt
      clear hlt
      clear hg hK hKb
      go_enter Tryd.func14, Tryd.ntmps14
      go_wp2_with (first | (refine wpList_load_box rfl _ _ rfl hx rfl Tryd.underlying23 rfl SK.out ?_) | (refine wpList_load_box rfl _ _ rfl hv rfl Tryd.underlying27 rfl SV.out ?_))
      refine (A _ (Lib.hid (hL.out.below hB))).mono ?_
      rintro e w1 ⟨rfl, hb1⟩
      have c1 := (hv.below hb1).c 3 _ v3
      have z1 := (hv.below hb1).lt
      have hB1 := below_thru hB hb1
      clear hx hv hB hb1
      go_wp2_with fail
      go_returns
      exact ⟨rfl, hB1⟩
    · rw [if_neg hlt] at h
      subst h
      have d1 : decide (k.x < t) = false := decide_eq_false hlt
      clear hlt
      clear hg hK hKb
      go_enter Tryd.func14, Tryd.ntmps14
      go_wp2_with (first | (refine wpList_load_box rfl _ _ rfl hx rfl Tryd.underlying23 rfl SK.out ?_) | (refine wpList_load_box rfl _ _ rfl hv rfl Tryd.underlying27 rfl SV.out ?_))
      refine (A _ (Lib.hid (hL.out.below hB))).mono ?_
      rintro e w1 ⟨rfl, hb1⟩
      have c1 := (hv.below hb1).c 3 _ v3
      have z1 := (hv.below hb1).lt
      have hB1 := below_thru hB hb1
      clear hx hv hB hb1
      go_wp2_with fail
      go_returns
      exact ⟨rfl, hB1⟩
  · rw [if_neg hd] at h
    subst h
    have A := fun (W : World) h => verify_is k (q := 22) hg hK hKb (Lib.hid (if_neg hd)) W h
    obtain ⟨V, hV⟩ : ∃ V, tcell k g = V := ⟨_, rfl⟩
    have v3 : V[3]? = some (.int .u64 k.x) := by rw [← hV]; rfl
    rw [hV] at A SV ⊢
    clear hV hq hd
    have hx : Box ((w.alloc (.cells (K.map (Value.int .u8)).toArray 23)).alloc (.cells V.toArray 27)) w.heap.size (K.map (Value.int .u8)) := Box.alloc (Box.newc rfl rfl) _
    have hv : Box ((w.alloc (.cells (K.map (Value.int .u8)).toArray 23)).alloc (.cells V.toArray 27)) (w.heap.size + 1) V := Box.newc rfl (by simp)
    have hB : Below w.heap.size w ((w.alloc (.cells (K.map (Value.int .u8)).toArray 23)).alloc (.cells V.toArray 27)) := by go_grown
    clear hg hK hKb
    go_enter Tryd.func14, Tryd.ntmps14
    go_wp2_with (first | (refine wpList_load_box rfl _ _ rfl hx rfl Tryd.underlying23 rfl SK.out ?_) | (refine wpList_load_box rfl _ _ rfl hv rfl Tryd.underlying27 rfl SV.out ?_))
    refine (A _ (Lib.hid (hL.out.below hB))).mono ?_
    rintro e w1 ⟨rfl, hb1⟩
    have c1 := (hv.below hb1).c 3 _ v3
    have z1 := (hv.below hb1).lt
    have hB1 := below_thru hB hb1
    clear hx hv hB hb1
    go_wp2_with fail
    go_returns
    exact ⟨rfl, hB1⟩

end Go.Proofs.YtlbbedknldmcpaaDoor

namespace Go.Proofs.YtlbbedknldmcpaaDoor
open Go.RowKit

def keyG : List Int := 7 :: List.replicate 30 0 ++ [1]
def kG : Nums := ⟨1, 2, 3, 258, by decide, by decide, by decide, by decide⟩
theorem keyG_l : keyG.length = 32 := by decide
theorem keyG_b : Byts keyG := by show ∀ x ∈ keyG, _; decide
theorem kG_msg : kG.msg = [0, 0, 0, 1, 0, 0, 0, 2, 0, 0, 0, 3, 0, 0, 0, 0, 0, 0, 1, 2] := by decide +kernel
theorem build_key (W : World) : (Instr.build 23 #[(0, .int .u8 7), (31, .int .u8 1)]).run Tryd.prog W = .ok (.agg (keyG.map (Value.int .u8)).toArray) W := by kernel_rfl
theorem build_msg (W : World) : (Instr.build 36 #[(3, .int .u8 1), (7, .int .u8 2), (11, .int .u8 3), (18, .int .u8 1), (19, .int .u8 2)]).run Tryd.prog W = .ok (.agg (([0, 0, 0, 1, 0, 0, 0, 2, 0, 0, 0, 3, 0, 0, 0, 0, 0, 0, 1, 2] : List Int).map (Value.int .u8)).toArray) W := by kernel_rfl
/-- Two whole values in boxes. -/
theorem results_pair {P : Program} {w : World} {fn : Func} {p q : Tmp} {ty tz : TypeId} (h : fn.results = #[.cell p ty, .cell q tz]) {tmps : Array Value} {b b' : Nat} {cs cs' : List Value} (hb : Box w b cs) (hb' : Box w b' cs')
    (hp : tmps.getD p undef = .pointer (some ⟨b, 0, none⟩)) (hq : tmps.getD q undef = .pointer (some ⟨b', 0, none⟩)) {d d' : TypeDesc} (hu : P.underlying ty = some d) (hd : d.isRow = true) (hu' : P.underlying tz = some d') (hd' : d'.isRow = true) (hi : (P.info? ty).map (·.size) = some cs.length) (hi' : (P.info? tz).map (·.size) = some cs'.length) :
    (results fn tmps).run P w = .ok (.tuple #[.agg cs.toArray, .agg cs'.toArray]) w := by
  have hp' : tmps[p]?.getD undef = .pointer (some ⟨b, 0, none⟩) := by simpa using hp
  have hq' : tmps[q]?.getD undef = .pointer (some ⟨b', 0, none⟩) := by simpa using hq
  simp [results, h, hp', hq', asAddr, run_var_box hb ty hu hd hi, run_var_box hb' tz hu' hd' hi']
section
variable {P : Program} {ops : Array Oper} {o : Oper} {a : Act} {w : World} {Q : Exit → Act → World → Prop} {rest : List Oper}
theorem wpList_buildw (hw : Region.wanted o (yielded ops a.tmps) = true) (t : TypeId) (xs : Array (Nat × Operand)) (ho : o.op = .build t xs) {v : Value} {us : Array (Nat × Value)} (hx : (xs.toList.map fun p => (p.1, a.eval p.2)) = us.toList) (hr : (Instr.build t us).run P w = .ok v w)
    (h : wpList P ops Q rest (a.put o.dst v) w) : wpList P ops Q (o :: rest) a w := by
  have hx' : (xs.map fun (i, x) => (i, a.eval x)) = us := by
    apply Array.ext'
    rw [Array.toList_map, ← hx]
  subst hx'
  refine BigFrame.wpList_want hw fun _ hK => ?_
  unfold Oper.wp execOp
  simp only [ho, Sem.run_bind, hr, Result.andThen_ok, Sem.run_pure]
  exact hK _ _ h
end

set_option maxRecDepth 100000 in
set_option maxHeartbeats 3200000 in
theorem given8_is {D : List Int} (hD : Hid (tagL keyG kG.msg = D)) (w : World) (hL : Hid (LaidS w)) : Calls Tryd.prog 9 #[] w fun e w' => e = .returned (.tuple #[.agg (keyG.map (Value.int .u8)).toArray, .agg (tcell kG D).toArray]) ∧ Below w.heap.size w w' := by
  have hDl : D.length = 32 := by rw [← hD.out]; exact tagL_len _ _
  have A := fun (W : World) h => mint_is kG keyG_l keyG_b hD W h
  rw [show kG.t = 1 from rfl, show kG.u = 2 from rfl, show kG.e = 3 from rfl, show kG.x = 258 from rfl] at A
  have SK := Lib.hid (size_dig keyG_l)
  have LK := Lib.hid (len_dig keyG_l)
  have SV := Lib.hid (size_tok kG hDl)
  have LV := Lib.hid (len_tok Nums.zero kG zd32 hDl)
  have OV := Lib.hid (tcell_one kG D)
  have BK := build_key
  obtain ⟨C, hC⟩ : ∃ C, keyG.map (Value.int .u8) = C := ⟨_, rfl⟩
  have OK := Lib.hid (show C.toArray.all (·.oneCell') = true by rw [← hC]; exact oneCell_ints _)
  obtain ⟨V, hV⟩ : ∃ V, tcell kG D = V := ⟨_, rfl⟩
  rw [hC] at A SK LK BK ⊢
  rw [hV] at A SV LV OV ⊢
  clear hC hV hDl hD
  have ha : Box ((w.alloc (.cells zero32.toArray 23)).alloc (.cells zeroTk.toArray 27)) w.heap.size zero32 := Box.alloc (Box.newc rfl rfl) _
  have hb : Box ((w.alloc (.cells zero32.toArray 23)).alloc (.cells zeroTk.toArray 27)) (w.heap.size + 1) zeroTk := Box.newc rfl (by simp)
  have hB : Below w.heap.size w ((w.alloc (.cells zero32.toArray 23)).alloc (.cells zeroTk.toArray 27)) := by go_grown
  go_enter Tryd.func9, Tryd.ntmps9
  go_upto_region 2 with (first | (refine wpList_build4 rfl 23 _ rfl (us := #[(0, .int .u8 7), (31, .int .u8 1)]) (by rfl) (BK _) ?_) | (refine wpList_store_box (cs := C) rfl _ _ _ rfl (Box.newc (l := zero32) rfl (by simp)) rfl rfl SK.out LK.out OK.out ?_; intro w2 hW2))
  have hB2 : Below w.heap.size w w2 := hW2.below _ _ (by first | omega | (simp; done) | (simp; omega)) (by go_grown)
  have ha2 : Box w2 w.heap.size zero32 := hW2.past _ _ (by first | omega | (simp; done) | (simp; omega)) (ha.alloc _)
  have hb2 : Box w2 (w.heap.size + 1) zeroTk := hW2.past _ _ (by first | omega | (simp; done) | (simp; omega)) (hb.alloc _)
  have hk2 := hW2.box
  clear hW2 ha hb hB
  have hk2 : Box w2 (w.heap.size + 1 + 1) C := hk2
  refine wp_region_held_drew (S := fun W => Box W (w.heap.size + 1 + 1) C) (by kernel_rfl) (hk2.drew) (fun _ => ?_)
  refine F_drew (F := fun W => wpAnyH _ _ _ _ _ _ _ _ W) ?_
  intro W0 hb0
  have hk0 := hk2.below hb0; have ha0 := ha2.below hb0; have hc0 := hb2.below hb0; have hB0 := below_thru hB2 hb0
  clear hk2 ha2 hb2 hB2 hb0
  refine takeH 0 4 (v := .agg C.toArray) rfl (by rfl) (by kernel_rfl) (by kernel_rfl) (by kernel_rfl) (fun _ _ _ h => h) (yieldsIf_load_mid (by rfl) _ _ rfl _ _ rfl C _ (fun wq hq => hq.range) Tryd.underlying23 rfl SK.out) (hk0) ?_
  try simp only [Act.put, List.setIfInBounds_toArray, List.set_cons_zero, List.set_cons_succ]
  refine takeH 1 5 (v := .agg C.toArray) rfl (by rfl) (by kernel_rfl) (by kernel_rfl) (by kernel_rfl) (fun _ _ _ h => h) (yieldsIf_load_mid (by rfl) _ _ rfl _ _ rfl C _ (fun wq hq => hq.range) Tryd.underlying23 rfl SK.out) (hk0) ?_
  try simp only [Act.put, List.setIfInBounds_toArray, List.set_cons_zero, List.set_cons_succ]
  refine wpAnyH_ready (rs := [2]) (by kernel_rfl) (by simp) (AllReadyH.cons rfl (fun K hK => ?_) AllReadyH.nil)
  go_simp
  refine (A _ (Lib.hid (hL.out.below hB0))).mono ?_
  rintro e W1 ⟨rfl, hb1⟩
  have hk1 := Box.below hk0 hb1; have ha1 := Box.below ha0 hb1; have hc1 := Box.below hc0 hb1; have hB1 := below_thru hB0 hb1
  refine hK.out _ _ hk1 (fun _ => ?_); clear hK
  refine wpAnyH_ready (rs := [3]) (by kernel_rfl) (by simp) (AllReadyH.cons rfl (fun K hK => ?_) AllReadyH.nil)
  refine step_store_box0 rfl rfl _ _ _ rfl ha1 rfl rfl SK.out LK.out OK.out (fun W2 hW => ?_)
  have hk2 := hW.past _ _ (by omega) hk1; have hc2 := hW.past _ _ (by omega) hc1; have hB2 := hW.below _ _ (by omega) hB1; have ha2 := hW.box
  clear hW
  refine hK.out _ _ hk2 (fun _ => ?_); clear hK
  refine wpAnyH_ready (rs := [4]) (by kernel_rfl) (by simp) (AllReadyH.cons rfl (fun K hK => ?_) AllReadyH.nil)
  refine step_store_box0 rfl rfl _ _ _ rfl hc2 rfl rfl SV.out LV.out OV.out (fun W3 hW => ?_)
  have hk3 := hW.past _ _ (by omega) hk2; have ha3 := hW.past _ _ (by omega) ha2; have hB3 := hW.below _ _ (by omega) hB2; have hc3 := hW.box
  clear hW
  refine hK.out _ _ hk3 (fun _ => ?_); clear hK
  refine wpAnyH_done (by kernel_rfl) ?_ _
  go_wp2_with fail
  exact bodyPost_ret (results_pair Tryd.results9 ha3 hc3 rfl rfl Tryd.underlying23 rfl Tryd.underlying27 rfl SK.out SV.out) rfl ⟨rfl, hB3⟩


theorem xor_ne8 {x : Int} (h0 : 0 ≤ x) (h1 : x < 256) : bits .xor .u8 x 1 ≠ x := by
  rw [u8_xor x 1 h0 h1 (by omega) (by omega)]
  intro h
  have h4 : x.toNat ^^^ (1 : Int).toNat = x.toNat := by omega
  have h5 : x.toNat ^^^ (x.toNat ^^^ (1 : Int).toNat) = x.toNat ^^^ x.toNat := by rw [h4]
  rw [← Nat.xor_assoc, Nat.xor_self, Nat.zero_xor] at h5
  have h6 : (1 : Int).toNat = 1 := rfl
  omega
theorem set_ne8 {xs : List Int} {k : Nat} {u : Int} (hk : k < xs.length) (hu : u ≠ nth xs k) : xs.set k u ≠ xs := fun h => hu (by
  have : nth xs k = nth (xs.set k u) k := by rw [h]
  rw [this]
  unfold nth
  rw [List.getD_eq_getElem?_getD, List.getElem?_set, if_pos rfl, if_pos hk]
  rfl)
theorem tcell_set8 (k : Nums) (y : List Int) (i : Nat) (x : Int) : (tcell k y).set (4 + i) (.int .u8 x) = tcell k (y.set i x) := by
  rw [Nat.add_comm]
  show _ = .int .u32 k.t :: .int .u32 k.u :: .int .u32 k.e :: .int .u64 k.x :: (y.set i x).map (Value.int .u8)
  rw [List.map_set]
  rfl
theorem verN_t {K : List Int} {k : Nums} {g : List Int} (h : tagL K k.msg = g) : verN K k g = 0 := if_pos h
theorem verN_f {K : List Int} {k : Nums} {g : List Int} (h : tagL K k.msg ≠ g) : verN K k g = 22 := if_neg h
theorem valN_t {K : List Int} {k : Nums} {g : List Int} {t : Int} (h : tagL K k.msg = g) (ht : t ≤ k.x) : valN K k g t = 0 := by unfold valN; rw [if_pos h, if_neg (by omega)]
theorem valN_l {K : List Int} {k : Nums} {g : List Int} {t : Int} (h : tagL K k.msg = g) (ht : k.x < t) : valN K k g t = 24 := by unfold valN; rw [if_pos h, if_pos ht]
theorem valN_f {K : List Int} {k : Nums} {g : List Int} {t : Int} (h : tagL K k.msg ≠ g) : valN K k g t = 22 := if_neg h

set_option maxRecDepth 100000 in
set_option maxHeartbeats 6400000 in
theorem alive8_is (w : World) (hL : Hid (LaidS w)) : Calls Tryd.prog 15 #[] w fun e w' => e = .returned (.bool true) ∧ Below w.heap.size w w' := by
  obtain ⟨D, hD⟩ : ∃ D, tagL keyG kG.msg = D := ⟨_, rfl⟩
  have hDl : D.length = 32 := by rw [← hD]; exact tagL_len _ _
  have hDb : Byts D := by rw [← hD]; exact tagL_byts _ _
  obtain ⟨y, hy⟩ : ∃ y, nth D 31 = y := ⟨_, rfl⟩
  have hyb : 0 ≤ y ∧ y ≤ 255 := by rw [← hy]; exact nth_all hDb 31 (by omega)
  obtain ⟨D2, hD2⟩ : ∃ D2, D.set 31 (bits .xor .u8 y 1) = D2 := ⟨_, rfl⟩
  have hne : tagL keyG kG.msg ≠ D2 := by rw [hD, ← hD2]; exact (set_ne8 (by omega) (by rw [hy]; exact xor_ne8 hyb.1 (by omega))).symm
  have hDl2 : D2.length = 32 := by rw [← hD2, List.length_set]; exact hDl
  have G := fun (W : World) h => given8_is (Lib.hid hD) W h
  have BM := fun (W : World) => bytes_is kG (g := D) W
  rw [kG_msg] at BM
  have V0 := fun (W : World) h => verify_is kG (g := D) (q := 0) hDl keyG_l keyG_b (Lib.hid (verN_t hD)) W h
  have V1 := fun (W : World) h => valid_is kG (g := D) (t := 258) (q := 0) hDl keyG_l keyG_b (by decide) (Lib.hid (valN_t hD (by decide))) W h
  have V2 := fun (W : World) h => valid_is kG (g := D) (t := 259) (q := 24) hDl keyG_l keyG_b (by decide) (Lib.hid (valN_l hD (by decide))) W h
  have V3 := fun (W : World) h => verify_is kG (g := D2) (q := 22) hDl2 keyG_l keyG_b (Lib.hid (verN_f hne)) W h
  have V4 := fun (W : World) h => valid_is kG (g := D2) (t := 259) (q := 22) hDl2 keyG_l keyG_b (by decide) (Lib.hid (valN_f hne)) W h
  have SK := Lib.hid (size_dig keyG_l)
  have LK := Lib.hid (len_dig keyG_l)
  have SV := Lib.hid (size_tok kG hDl)
  have LV := Lib.hid (len_tok Nums.zero kG zd32 hDl)
  have OV := Lib.hid (tcell_one kG D)
  have SW := Lib.hid (size_tok kG hDl2)
  have HS := Lib.hid (show (tcell kG D).set (4 + 31) (.int .u8 (bits .xor .u8 y 1)) = tcell kG D2 by rw [tcell_set8, hD2])
  have v35 : (tcell kG D)[35]? = some (.int .u8 y) := by
    show (D.map (Value.int .u8))[31]? = _
    rw [nth_at' 31 (by omega), hy]
  have BB := build_msg
  have EM : ∀ W : World, (Op.equalIn 10000 36 (.agg (([0, 0, 0, 1, 0, 0, 0, 2, 0, 0, 0, 3, 0, 0, 0, 0, 0, 0, 1, 2] : List Int).map (Value.int .u8)).toArray) (.agg (([0, 0, 0, 1, 0, 0, 0, 2, 0, 0, 0, 3, 0, 0, 0, 0, 0, 0, 1, 2] : List Int).map (Value.int .u8)).toArray)).run Tryd.prog W = .ok true W := fun W =>
    eq_same Tryd.underlying36 Tryd.underlying5 size_u8' [0, 0, 0, 1, 0, 0, 0, 2, 0, 0, 0, 3, 0, 0, 0, 0, 0, 0, 1, 2] rfl W
  obtain ⟨C20, hC20⟩ : ∃ C, ([0, 0, 0, 1, 0, 0, 0, 2, 0, 0, 0, 3, 0, 0, 0, 0, 0, 0, 1, 2] : List Int).map (Value.int .u8) = C := ⟨_, rfl⟩
  rw [hC20] at BM BB EM
  obtain ⟨C, hC⟩ : ∃ C, keyG.map (Value.int .u8) = C := ⟨_, rfl⟩
  have OK := Lib.hid (show C.toArray.all (·.oneCell') = true by rw [← hC]; exact oneCell_ints _)
  obtain ⟨V, hV⟩ : ∃ V, tcell kG D = V := ⟨_, rfl⟩
  obtain ⟨U, hU⟩ : ∃ V, tcell kG D2 = V := ⟨_, rfl⟩
  rw [hC] at G V0 V1 V2 V3 V4 SK LK
  rw [hV] at G BM V0 V1 V2 SV LV OV HS v35
  rw [hU] at V3 V4 SW HS
  clear hC hC20 hV hU hD hne hDl hDl2 hDb hyb hy hD2
  go_enter Tryd.func15, Tryd.ntmps15
  have hB0 := Below.refl w.heap.size w
  have hs0 := hB0.size
  go_wp2_with fail
  refine (G _ (Lib.hid (hL.out.below hB0))).mono ?_
  rintro e w1 ⟨rfl, hb⟩
  clear G
  have hB1 : Below w.heap.size w w1 := below_thru hB0 hb
  have hs1 := hB1.size
  clear hB0 hs0
  clear hb
  have d_K_0 := hs1
  go_upto_region 2 with (first
    | (refine wpList_store_box (cs := C) rfl _ _ _ rfl (Box.alloc (Box.newc (l := zero32) rfl rfl) _) rfl rfl SK.out LK.out OK.out ?_; intro W1_0 hW1_0)
    | (refine wpList_store_box (cs := V) rfl _ _ _ rfl (hW1_0.past _ _ (by omega) (Box.newc (l := zeroTk) rfl (by simp))) rfl rfl SV.out LV.out OV.out ?_; intro W1_1 hW1_1))
  have hN : Below w1.heap.size w1 W1_1 := (hW1_1.below _ _ (by omega) (hW1_0.below _ _ (by omega) (((Below.refl _ w1).alloc (Nat.le_refl _) _).alloc (by simp) _)))
  have x_K2 : Box W1_1 (w1.heap.size) (C) := (hW1_1.past _ _ (by omega) hW1_0.box)
  have x_T2 : Box W1_1 (w1.heap.size + 1) (V) := hW1_1.box
  have hB2 : Below w.heap.size w W1_1 := below_thru hB1 hN
  have hs2 := hB2.size
  clear hB1 hs1
  clear hN hW1_0 hW1_1
  have d_F_K := (x_K2).lt
  have d_F_T := (x_T2).lt
  have d_F_0 := hs2
  go_upto_region 3 with (first
    | (refine wpList_load_boxw rfl _ _ rfl x_T2 rfl Tryd.underlying27 rfl SV.out ?_)
    | (refine wpList_store_box (cs := V) rfl _ _ _ rfl (Box.newc (l := zeroTk) rfl rfl) rfl rfl SV.out LV.out OV.out ?_; intro W2_0 hW2_0))
  have hN : Below W1_1.heap.size W1_1 W2_0 := (hW2_0.below _ _ (by omega) ((Below.refl _ W1_1).alloc (Nat.le_refl _) _))
  have x_F3 : Box W2_0 (W1_1.heap.size) (V) := hW2_0.box
  have hB3 : Below w.heap.size w W2_0 := below_thru hB2 hN
  have hs3 := hB3.size
  have x_K3 : Box W2_0 (w1.heap.size) (C) := Box.below x_K2 hN
  have x_T3 : Box W2_0 (w1.heap.size + 1) (V) := Box.below x_T2 hN
  clear hB2 hs2 x_K2 x_T2
  clear hN hW2_0
  have c35 := (x_F3).c 35 _ v35
  have f35 := (x_F3).f 35 _ v35
  have zF := (x_F3).lt
  have zT := (x_T3).lt
  have zK := (x_K3).lt
  go_upto_region 4 with fail
  have x_F4 : Box (W2_0.setCell ⟨W1_1.heap.size, 35, none⟩ (.int .u8 (bits .xor .u8 y 1))) (W1_1.heap.size) U := by rw [← HS.out]; exact (x_F3).set 35 _
  have x_K4 : Box (W2_0.setCell ⟨W1_1.heap.size, 35, none⟩ (.int .u8 (bits .xor .u8 y 1))) (w1.heap.size) C := (x_K3).other (by show W1_1.heap.size ≠ w1.heap.size; omega) _
  have x_T4 : Box (W2_0.setCell ⟨W1_1.heap.size, 35, none⟩ (.int .u8 (bits .xor .u8 y 1))) (w1.heap.size + 1) V := (x_T3).other (by show W1_1.heap.size ≠ w1.heap.size + 1; omega) _
  have hB4 : Below w.heap.size w (W2_0.setCell ⟨W1_1.heap.size, 35, none⟩ (.int .u8 (bits .xor .u8 y 1))) := (hB3).setCell (show w.heap.size ≤ W1_1.heap.size by omega) _
  have hs4 := hB4.size
  clear x_F3 x_K3 x_T3 hB3 c35 f35
  go_wp2_with (refine wpList_load_boxw rfl _ _ rfl x_T4 rfl Tryd.underlying27 rfl SV.out ?_)
  refine (BM _).mono ?_
  rintro e w5 ⟨rfl, hb⟩
  clear BM
  have hB5 : Below w.heap.size w w5 := below_thru hB4 hb
  have hs5 := hB5.size
  have x_K5 : Box w5 (w1.heap.size) (C) := Box.below x_K4 hb
  have x_T5 : Box w5 (w1.heap.size + 1) (V) := Box.below x_T4 hb
  have x_F5 : Box w5 (W1_1.heap.size) (U) := Box.below x_F4 hb
  clear hB4 hs4 x_K4 x_T4 x_F4
  clear hb
  go_wp2_with (first
    | (refine wpList_load_boxw rfl _ _ rfl x_K5 rfl Tryd.underlying23 rfl SK.out ?_)
    | (refine wpList_load_boxw rfl _ _ rfl x_T5 rfl Tryd.underlying27 rfl SV.out ?_)
    | (refine wpList_buildw rfl 36 _ rfl (us := #[(3, .int .u8 1), (7, .int .u8 2), (11, .int .u8 3), (18, .int .u8 1), (19, .int .u8 2)]) (by rfl) (BB _) ?_))
  refine (V0 _ (Lib.hid (hL.out.below hB5))).mono ?_
  rintro e w6 ⟨rfl, hb⟩
  clear V0
  have hB6 : Below w.heap.size w w6 := below_thru hB5 hb
  have hs6 := hB6.size
  have x_K6 : Box w6 (w1.heap.size) (C) := Box.below x_K5 hb
  have x_T6 : Box w6 (w1.heap.size + 1) (V) := Box.below x_T5 hb
  have x_F6 : Box w6 (W1_1.heap.size) (U) := Box.below x_F5 hb
  clear hB5 hs5 x_K5 x_T5 x_F5
  clear hb
  go_wp2_with (first
    | (refine wpList_load_boxw rfl _ _ rfl x_K6 rfl Tryd.underlying23 rfl SK.out ?_)
    | (refine wpList_load_boxw rfl _ _ rfl x_T6 rfl Tryd.underlying27 rfl SV.out ?_))
  refine (V1 _ (Lib.hid (hL.out.below hB6))).mono ?_
  rintro e w7 ⟨rfl, hb⟩
  clear V1
  have hB7 : Below w.heap.size w w7 := below_thru hB6 hb
  have hs7 := hB7.size
  have x_K7 : Box w7 (w1.heap.size) (C) := Box.below x_K6 hb
  have x_T7 : Box w7 (w1.heap.size + 1) (V) := Box.below x_T6 hb
  have x_F7 : Box w7 (W1_1.heap.size) (U) := Box.below x_F6 hb
  clear hB6 hs6 x_K6 x_T6 x_F6
  clear hb
  go_wp2_with (first
    | (refine wpList_load_boxw rfl _ _ rfl x_K7 rfl Tryd.underlying23 rfl SK.out ?_)
    | (refine wpList_load_boxw rfl _ _ rfl x_T7 rfl Tryd.underlying27 rfl SV.out ?_))
  refine (V2 _ (Lib.hid (hL.out.below hB7))).mono ?_
  rintro e w8 ⟨rfl, hb⟩
  clear V2
  have hB8 : Below w.heap.size w w8 := below_thru hB7 hb
  have hs8 := hB8.size
  have x_K8 : Box w8 (w1.heap.size) (C) := Box.below x_K7 hb
  have x_T8 : Box w8 (w1.heap.size + 1) (V) := Box.below x_T7 hb
  have x_F8 : Box w8 (W1_1.heap.size) (U) := Box.below x_F7 hb
  clear hB7 hs7 x_K7 x_T7 x_F7
  clear hb
  clear x_T8
  go_wp2_with (first
    | (refine wpList_load_boxw rfl _ _ rfl x_K8 rfl Tryd.underlying23 rfl SK.out ?_)
    | (refine wpList_load_boxw rfl _ _ rfl x_F8 rfl Tryd.underlying27 rfl SW.out ?_))
  refine (V3 _ (Lib.hid (hL.out.below hB8))).mono ?_
  rintro e w9 ⟨rfl, hb⟩
  clear V3
  have hB9 : Below w.heap.size w w9 := below_thru hB8 hb
  have hs9 := hB9.size
  have x_K9 : Box w9 (w1.heap.size) (C) := Box.below x_K8 hb
  have x_F9 : Box w9 (W1_1.heap.size) (U) := Box.below x_F8 hb
  clear hB8 hs8 x_K8 x_F8
  clear hb
  go_wp2_with (first
    | (refine wpList_load_boxw rfl _ _ rfl x_K9 rfl Tryd.underlying23 rfl SK.out ?_)
    | (refine wpList_load_boxw rfl _ _ rfl x_F9 rfl Tryd.underlying27 rfl SW.out ?_))
  refine (V4 _ (Lib.hid (hL.out.below hB9))).mono ?_
  rintro e w10 ⟨rfl, hb⟩
  clear V4
  have hB10 : Below w.heap.size w w10 := below_thru hB9 hb
  have hs10 := hB10.size
  have x_K10 : Box w10 (w1.heap.size) (C) := Box.below x_K9 hb
  have x_F10 : Box w10 (W1_1.heap.size) (U) := Box.below x_F9 hb
  clear hB9 hs9 x_K9 x_F9
  clear hb
  go_wp2_with fail
  go_returns
  exact ⟨rfl, hB10⟩

end Go.Proofs.YtlbbedknldmcpaaDoor
