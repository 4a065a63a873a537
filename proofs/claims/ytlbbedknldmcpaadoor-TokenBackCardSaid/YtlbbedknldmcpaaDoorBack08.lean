/-
  TokenBack, walked.
-/
import Derived.Test.YtlbbedknldmcpaaDoorGT3
import Derived.Test.YtlbbedknldmcpaaDoorGRT
import Derived.Test.YtlbbedknldmcpaaDoorGT2
import Derived.Test.YtlbbedknldmcpaaDoorGT2
import Derived.Test.YtlbbedknldmcpaaDoorGS2
namespace Go.Proofs.YtlbbedknldmcpaaDoor
open Go.RowKit

theorem F_own8 {F : World → Prop} {w : World} {base : Nat} (hb : base ≤ w.heap.size) (h : ∀ W, W.ownsRow base 5 1 (.slice (some ⟨w.heap.size, 0, none⟩) 0 0) ([] : List Int).length (([] : List Int).map (Value.int .u8)) → Below w.heap.size w W → F W) : F (w.alloc (.cells #[] 5)) :=
  h _ (ownR_base (owns_built (w := w) (base := w.heap.size) (e := 5) [] (Nat.le_refl _) (by simp)) hb) ((Below.refl _ _).alloc (Nat.le_refl _) _)
theorem step_append_intsw {P : Program} {w : World} {ops : Array Oper} {o : Oper} {a : Act} {K : Act → World → Prop} {Q : Exit → Act → World → Prop} {E : Prop} (d : Nat) (hd : o.dst = some d) (hw : Region.wanted o (yielded ops a.tmps) = true) (s x : Operand) (t : TypeId)
    (ho : o.op = .call { callee := .builtin .append, args := #[s, x], argTypes := #[t, t] })
    (base : Nat) (e : TypeId) (i : TypeInfo) (z : Value) (bytes : Nat) (k : IntKind) (ht : P.underlying t = some (.slice e)) (hi : P.info? e = some i) (hz : i.zero = some z)
    (hsize : i.size = 1) (hby : i.bytes = bytes) (hzs : z.cells.size = 1)
    (v : Value) (n : Nat) (l : List Value) (hs : a.eval s = v) (hown : w.ownsRow base e 1 v n l)
    (v2 : Value) (xs : List Int) (hx : a.eval x = v2) (hin : IsL w k v2 xs)
    (h63 : n + xs.length ≤ maxLen) (hbytes : (n + xs.length) * bytes ≤ 140737488355328) (hbase : base ≤ w.heap.size)
    (h : ∀ v' w', w'.ownsRow base e 1 v' (n + xs.length) (l ++ xs.map (Value.int k)) → Below base w w' → K (a.put (some d) v') w') : if Region.wanted o (yielded ops a.tmps) = true then Oper.wp P o a w K Q else E := by
  rw [if_pos hw]
  obtain ⟨at0, cap, rfl, h2, h0⟩ := hin
  exact wp_append_ints s x t ho base e i z bytes k ht hi hz hsize hby hzs v n l hs hown at0 cap xs hx h2 h0 h63 hbytes hbase fun v' w' h1 h2 => by rw [hd]; exact h v' w' h1 ((Below.refl _ w).grown h2 hbase (own_block hown))

set_option maxRecDepth 100000 in
set_option maxHeartbeats 1600000 in
theorem back8_many (k : Nums) {g : List Int} {a0 : Option Addr} {c0 : Nat} {bs : List Int} (w : World) (hl : 200 < bs.length) (hL : Hid (LaidS w)) : Calls Tryd.prog 7 #[.agg (tcell k g).toArray, .slice a0 bs.length c0] w fun e w' => e = .returned (.bool true) ∧ Below w.heap.size w w' := by
  have d1 : decide ((200 : Int) < (bs.length : Int)) = true := decide_eq_true (by omega)
  obtain ⟨V, hV⟩ : ∃ V, tcell k g = V := ⟨_, rfl⟩
  rw [hV]
  have hB : Below w.heap.size w (w.alloc (.cells V.toArray 27)) := by go_grown
  clear hl hV
  go_enter Tryd.func7, Tryd.ntmps7
  go_wp2_with fail
  refine (alive8_is _ (Lib.hid (hL.out.below hB))).mono ?_
  rintro e w1 ⟨rfl, hb⟩
  have hB1 := below_thru hB hb
  go_wp2_with fail
  go_returns
  exact ⟨rfl, hB1⟩

set_option maxRecDepth 100000 in
set_option maxHeartbeats 6400000 in
theorem back8_ok (k l : Nums) {g h : List Int} {a0 : Option Addr} {c0 : Nat} {bs : List Int} (hg : g.length = 32) (hh : h.length = 32) (w : World) (hl : ¬ 200 < bs.length) (h1 : IsL w .u8 (.slice a0 bs.length c0) bs) (hbs : l.msg ++ h = bs) (hL : Hid (LaidS w)) : Calls Tryd.prog 7 #[.agg (tcell k g).toArray, .slice a0 bs.length c0] w fun e w' => e = .returned (.bool true) ∧ Below w.heap.size w w' := by
  have d1 : decide ((200 : Int) < (bs.length : Int)) = false := decide_eq_false (by omega)
  obtain ⟨ti, hin, hz0, hz1, hz2⟩ := info_parts info_u8'
  have A1 := fun W => twrite_is k hg W
  have A2 := fun (W : World) (v : Value) (h : IsL W .u8 v (k.msg ++ g)) => tread_ok k hg W h
  have A3 := fun W => bytes_is k (g := g) W
  have A4 := fun (W : World) (v : Value) (q : IsL W .u8 v (l.msg ++ h)) => tread_ok l hh W q
  have A5 := fun W => twrite_is l hh W
  rw [hbs] at A4 A5
  have d2 : (bs.length : Int) = 52 := by rw [← hbs, List.length_append, l.msg_len, hh]; rfl
  have SY := Lib.hid (size_tok l hh)
  have LY : Hid (zeroTk.length = (tcell l h).length) := Lib.hid (len_tok Nums.zero l zd32 hh)
  have OY := Lib.hid (tcell_one l h)
  have hml := k.msg_len
  have HM := Lib.hid hml
  have HG := Lib.hid hg
  have SM := Lib.hid (size_msg hml)
  have LM := Lib.hid (len_msg hml)
  have OM := Lib.hid (oneCell_ints (k := .u8) k.msg)
  have LMM := Lib.hid (fun (W : World) (b : Nat) (h : Box W b (k.msg.map (Value.int .u8))) => IsL.boxed 20 hml h (by omega))
  have HT := Lib.hid (tcell_drop k g)
  have SV := Lib.hid (size_tok k hg)
  have LV := Lib.hid (len_tok Nums.zero k zd32 hg)
  have OV := Lib.hid (tcell_one k g)
  have EV := fun (W : World) => eq_tok_self k hg W
  have HZ : Hid ((([] : List Int).map (Value.int .u8) ++ k.msg.map (Value.int .u8)) ++ g.map (Value.int .u8) = (k.msg ++ g).map (Value.int .u8)) := Lib.hid (by rw [List.map_append]; rfl)
  have HZL : Hid (([] : List Int).length + k.msg.length + g.length = (k.msg ++ g).length) := Lib.hid (by rw [List.length_append, List.length_nil, Nat.zero_add])
  obtain ⟨m, hm⟩ : ∃ m, k.msg = m := ⟨_, rfl⟩
  rw [hm] at A1 A2 A3 HM SM LM OM LMM HZ HZL
  obtain ⟨Z, hZ⟩ : ∃ Z, m ++ g = Z := ⟨_, rfl⟩
  rw [hZ] at A1 A2 HZ HZL
  obtain ⟨M, hM⟩ : ∃ M, m.map (Value.int .u8) = M := ⟨_, rfl⟩
  obtain ⟨V, hV⟩ : ∃ V, tcell k g = V := ⟨_, rfl⟩
  rw [hM] at A3 SM LM OM LMM
  rw [hV] at A1 A2 A3 HT SV LV OV EV ⊢
  obtain ⟨Y, hY⟩ : ∃ V, tcell l h = V := ⟨_, rfl⟩
  rw [hY] at A4 A5 SY LY OY
  clear hY hbs hh
  clear hm hZ hM hV hml hg hl
  have J := Lib.hid h1
  clear h1
  have hx : Box (w.alloc (.cells V.toArray 27)) w.heap.size V := Box.newc rfl rfl
  have hB : Below w.heap.size w (w.alloc (.cells V.toArray 27)) := by go_grown
  go_enter Tryd.func7, Tryd.ntmps7
  go_upto_region 3 with fail
  have hB0 := hB
  have hs0 := hB0.size
  have x_T0 : Box (w.alloc (.cells V.toArray 27)) (w.heap.size) (V) := hx
  have J_B0 : Hid (IsL (w.alloc (.cells V.toArray 27)) .u8 (.slice a0 bs.length c0) bs) := Lib.hid (J.out.below hB)
  clear hx J hB
  go_wp2_with (refine wpList_load_boxw rfl _ _ rfl x_T0 rfl Tryd.underlying27 rfl SV.out ?_)
  refine (A1 _).mono ?_
  rintro e w1 ⟨vc, rfl, oc, hb⟩
  clear A1
  have hB1 : Below w.heap.size w w1 := below_thru hB0 hb
  have hs1 := hB1.size
  have x_T1 : Box w1 (w.heap.size) (V) := Box.below x_T0 hb
  have J_B1 : Hid (IsL w1 .u8 (.slice a0 bs.length c0) bs) := Lib.hid (IsL.below J_B0.out hb)
  clear hB0 hs0 x_T0 J_B0
  clear hb
  have J_C1 : Hid (IsL w1 .u8 (vc) Z) := Lib.hid (IsL.own oc rfl)
  clear oc
  go_wp2_with fail
  refine (A2 _ _ J_C1.out).mono ?_
  rintro e w2 ⟨rfl, hb⟩
  clear A2
  have hB2 : Below w.heap.size w w2 := below_thru hB1 hb
  have hs2 := hB2.size
  have x_T2 : Box w2 (w.heap.size) (V) := Box.below x_T1 hb
  have J_B2 : Hid (IsL w2 .u8 (.slice a0 bs.length c0) bs) := Lib.hid (IsL.below J_B1.out hb)
  have J_C2 : Hid (IsL w2 .u8 (vc) Z) := Lib.hid (IsL.below J_C1.out hb)
  clear hB1 hs1 x_T1 J_B1 J_C1
  clear hb
  have d_R_T := (x_T2).lt
  have d_R_0 := hs2
  go_upto_region 5 with (refine wpList_store_box (cs := V) rfl _ _ _ rfl (Box.newc (l := zeroTk) rfl rfl) rfl rfl SV.out LV.out OV.out ?_; intro W2_0 hW2_0)
  have hN : Below w2.heap.size w2 W2_0 := (hW2_0.below _ _ (by omega) ((Below.refl _ w2).alloc (Nat.le_refl _) _))
  have x_R3 : Box W2_0 (w2.heap.size) (V) := hW2_0.box
  have hB3 : Below w.heap.size w W2_0 := below_thru hB2 hN
  have hs3 := hB3.size
  have x_T3 : Box W2_0 (w.heap.size) (V) := Box.below x_T2 hN
  have J_B3 : Hid (IsL W2_0 .u8 (.slice a0 bs.length c0) bs) := Lib.hid (IsL.below J_B2.out hN)
  have J_C3 : Hid (IsL W2_0 .u8 (vc) Z) := Lib.hid (IsL.below J_C2.out hN)
  clear hB2 hs2 x_T2 J_B2 J_C2
  clear hN hW2_0
  go_wp2_with (refine wpList_load_boxw rfl _ _ rfl x_T3 rfl Tryd.underlying27 rfl SV.out ?_)
  refine (A3 _).mono ?_
  rintro e w4 ⟨rfl, hb⟩
  clear A3
  have hB4 : Below w.heap.size w w4 := below_thru hB3 hb
  have hs4 := hB4.size
  have x_T4 : Box w4 (w.heap.size) (V) := Box.below x_T3 hb
  have x_R4 : Box w4 (w2.heap.size) (V) := Box.below x_R3 hb
  have J_B4 : Hid (IsL w4 .u8 (.slice a0 bs.length c0) bs) := Lib.hid (IsL.below J_B3.out hb)
  have J_C4 : Hid (IsL w4 .u8 (vc) Z) := Lib.hid (IsL.below J_C3.out hb)
  clear hB3 hs3 x_T3 x_R3 J_B3 J_C3
  clear hb
  have d_M_T := (x_T4).lt
  have d_M_R := (x_R4).lt
  have d_M_0 := hs4
  go_upto_region 6 with (refine wpList_store_box (cs := M) rfl _ _ _ rfl (Box.newc (l := zero20) rfl rfl) rfl rfl SM.out LM.out OM.out ?_; intro W4_0 hW4_0)
  have hN : Below w4.heap.size w4 W4_0 := (hW4_0.below _ _ (by omega) ((Below.refl _ w4).alloc (Nat.le_refl _) _))
  have x_M5 : Box W4_0 (w4.heap.size) (M) := hW4_0.box
  have hB5 : Below w.heap.size w W4_0 := below_thru hB4 hN
  have hs5 := hB5.size
  have x_T5 : Box W4_0 (w.heap.size) (V) := Box.below x_T4 hN
  have x_R5 : Box W4_0 (w2.heap.size) (V) := Box.below x_R4 hN
  have J_B5 : Hid (IsL W4_0 .u8 (.slice a0 bs.length c0) bs) := Lib.hid (IsL.below J_B4.out hN)
  have J_C5 : Hid (IsL W4_0 .u8 (vc) Z) := Lib.hid (IsL.below J_C4.out hN)
  clear hB4 hs4 x_T4 x_R4 J_B4 J_C4
  clear hN hW4_0
  refine wp_region_held_drew (S := fun W => Box W (w.heap.size) (V) ∧ Box W (w2.heap.size) (V) ∧ Box W (w4.heap.size) (M)) (by kernel_rfl) (And.intro (x_T5).drew (And.intro (x_R5).drew (x_M5).drew)) (fun _ => ?_)
  refine F_drew (F := fun W => wpAnyH _ _ _ _ _ _ _ _ W) ?_
  intro Wm0 hbm0
  have hxm0 := (And.intro (Box.below x_T5 hbm0) (And.intro (Box.below x_R5 hbm0) (Box.below x_M5 hbm0)))
  have hBm0 := below_thru hB5 hbm0
  have Jm0_B := Lib.hid (J_B5.out.below hbm0)
  have Jm0_C := Lib.hid (J_C5.out.below hbm0)
  clear x_T5 x_R5 x_M5 hB5 hs5 hbm0 J_B5 J_C5
  refine takeH 0 24 (v := ?vm0_1) rfl (by rfl) (by kernel_rfl) (by kernel_rfl) (by kernel_rfl) (fun _ _ _ h => h) (Or.inl ⟨by rfl, ?_⟩) (hxm0) ?_
  rotate_left
  · intro wq hSq
    go_simp
    exact rfl
  try simp only [Act.put, List.setIfInBounds_toArray, List.set_cons_zero, List.set_cons_succ]
  refine takeH 1 25 (v := ?vm1_2) rfl (by rfl) (by kernel_rfl) (by kernel_rfl) (by kernel_rfl) (fun _ _ _ h => h) (Or.inl ⟨by rfl, ?_⟩) (hxm0) ?_
  rotate_left
  · intro wq hSq
    go_simp
    exact rfl
  try simp only [Act.put, List.setIfInBounds_toArray, List.set_cons_zero, List.set_cons_succ]
  refine takeH 2 26 (v := ?vm2_3) rfl (by rfl) (by kernel_rfl) (by kernel_rfl) (by kernel_rfl) (fun _ _ _ h => h) (Or.inl ⟨by rfl, ?_⟩) (hxm0) ?_
  rotate_left
  · intro wq hSq
    go_simp
    exact rfl
  try simp only [Act.put, List.setIfInBounds_toArray, List.set_cons_zero, List.set_cons_succ]
  refine takeH 3 27 (v := .agg (V).toArray) rfl (by rfl) (by kernel_rfl) (by kernel_rfl) (by kernel_rfl) (fun _ _ _ h => h) (yieldsIf_load_mid (by rfl) _ _ rfl _ _ rfl (V) _ (fun wq hq => Box.range (hq.2.1)) Tryd.underlying27 rfl SV.out) (hxm0) ?_
  try simp only [Act.put, List.setIfInBounds_toArray, List.set_cons_zero, List.set_cons_succ]
  refine takeH 4 28 (v := .agg (V).toArray) rfl (by rfl) (by kernel_rfl) (by kernel_rfl) (by kernel_rfl) (fun _ _ _ h => h) (yieldsIf_load_mid (by rfl) _ _ rfl _ _ rfl (V) _ (fun wq hq => Box.range (hq.1)) Tryd.underlying27 rfl SV.out) (hxm0) ?_
  try simp only [Act.put, List.setIfInBounds_toArray, List.set_cons_zero, List.set_cons_succ]
  refine takeH 5 29 (v := ?vm5_4) rfl (by rfl) (by kernel_rfl) (by kernel_rfl) (by kernel_rfl) (fun _ _ _ h => h) (Or.inl ⟨by rfl, ?_⟩) (hxm0) ?_
  rotate_left
  · intro wq hSq
    go_simp
    exact rfl
  try simp only [Act.put, List.setIfInBounds_toArray, List.set_cons_zero, List.set_cons_succ]
  refine takeH 6 30 (v := ?vm6_5) rfl (by rfl) (by kernel_rfl) (by kernel_rfl) (by kernel_rfl) (fun _ _ _ h => h) (Or.inl ⟨by rfl, ?_⟩) (hxm0) ?_
  rotate_left
  · intro wq hSq
    go_simp
    exact rfl
  try simp only [Act.put, List.setIfInBounds_toArray, List.set_cons_zero, List.set_cons_succ]
  refine takeH 7 31 (v := ?vm7_6) rfl (by rfl) (by kernel_rfl) (by kernel_rfl) (by kernel_rfl) (fun _ _ _ h => h) (Or.inl ⟨by rfl, ?_⟩) (hxm0) ?_
  rotate_left
  · intro wq hSq
    go_simp
    exact rfl
  try simp only [Act.put, List.setIfInBounds_toArray, List.set_cons_zero, List.set_cons_succ]
  refine takeH 8 32 (v := ?vm8_7) rfl (by rfl) (by kernel_rfl) (by kernel_rfl) (by kernel_rfl) (fun _ _ _ h => h) (Or.inl ⟨by rfl, ?_⟩) (hxm0) ?_
  rotate_left
  · intro wq hSq
    go_simp
    exact rfl
  try simp only [Act.put, List.setIfInBounds_toArray, List.set_cons_zero, List.set_cons_succ]
  refine takeH 10 34 (v := ?vm10_8) rfl (by rfl) (by kernel_rfl) (by kernel_rfl) (by kernel_rfl) (fun _ _ _ h => h) (Or.inl ⟨by rfl, ?_⟩) (hxm0) ?_
  rotate_left
  · intro wq hSq
    go_simp
    exact rfl
  try simp only [Act.put, List.setIfInBounds_toArray, List.set_cons_zero, List.set_cons_succ]
  refine takeH 12 36 (v := ?vm12_9) rfl (by rfl) (by kernel_rfl) (by kernel_rfl) (by kernel_rfl) (fun _ _ _ h => h) (Or.inl ⟨by rfl, ?_⟩) (hxm0) ?_
  rotate_left
  · intro wq hSq
    go_simp
    exact rfl
  try simp only [Act.put, List.setIfInBounds_toArray, List.set_cons_zero, List.set_cons_succ]
  refine takeH 13 37 (v := ?vm13_10) rfl (by rfl) (by kernel_rfl) (by kernel_rfl) (by kernel_rfl) (fun _ _ _ h => h) (Or.inl ⟨by rfl, ?_⟩) (hxm0) ?_
  rotate_left
  · intro wq hSq
    go_simp
    exact rfl
  try simp only [Act.put, List.setIfInBounds_toArray, List.set_cons_zero, List.set_cons_succ]
  refine wpAnyH_ready (rs := [9]) (by kernel_rfl) (by simp) (AllReadyH.cons rfl (fun K hK => ?_) AllReadyH.nil)
  go_simp
  refine hK.out _ _ (And.intro (Box.alloc (hxm0.1) _) (And.intro (Box.alloc (hxm0.2.1) _) (Box.alloc (hxm0.2.2) _))) (fun _ => ?_); clear hK
  refine F_own8 (F := fun W => wpAnyH _ _ _ _ _ _ _ _ W) (base := Wm0.heap.size) (Nat.le_refl _) ?_
  intro Wm11 oe hLm11
  have hxm11 := (And.intro (Box.below (hxm0.1) hLm11) (And.intro (Box.below (hxm0.2.1) hLm11) (Box.below (hxm0.2.2) hLm11)))
  refine wpAnyH_ready (rs := [11]) (by kernel_rfl) (by simp) (AllReadyH.cons rfl (fun K hK => ?_) AllReadyH.nil)
  refine step_append_intsw 35 rfl (by rfl) _ _ 31 rfl Wm0.heap.size 5 ti (.int .u8 0) 1 .u8 Tryd.underlying31 hin hz0 hz1 hz2 rfl _ _ _ rfl oe _ m rfl (LMM.out _ _ (hxm11.2.2)) (by have := HM.out; have := HG.out; unfold maxLen; simp; omega) (by have := HM.out; have := HG.out; simp; omega) (Below.size hLm11) ?_
  intro va Wm12 oa hbm12
  have hLm12 := Below.trans hLm11 hbm12
  have hxm12 := (And.intro (Box.below (hxm0.1) hLm12) (And.intro (Box.below (hxm0.2.1) hLm12) (Box.below (hxm0.2.2) hLm12)))
  refine hK.out _ _ hxm12 (fun _ => ?_); clear hK
  refine wpAnyH_ready (rs := [14]) (by kernel_rfl) (by simp) (AllReadyH.cons rfl (fun K hK => ?_) AllReadyH.nil)
  refine step_append_intsw 38 rfl (by rfl) _ _ 31 rfl Wm0.heap.size 5 ti (.int .u8 0) 1 .u8 Tryd.underlying31 hin hz0 hz1 hz2 rfl _ _ _ rfl oa _ g rfl (IsL.range 32 32 HG.out (Box.rangeFrom (hxm12.1) 4 (g.map (Value.int .u8)) HT.out) (by omega) (by omega)) (by have := HM.out; have := HG.out; unfold maxLen; simp; omega) (by have := HM.out; have := HG.out; simp; omega) (Below.size hLm12) ?_
  intro vb Wm13 ob hbm13
  have hLm13 := Below.trans hLm12 hbm13
  have hxm13 := (And.intro (Box.below (hxm0.1) hLm13) (And.intro (Box.below (hxm0.2.1) hLm13) (Box.below (hxm0.2.2) hLm13)))
  refine hK.out _ _ hxm13 (fun _ => ?_); clear hK
  refine wpAnyH_ready (rs := [15]) (by kernel_rfl) (by simp) (AllReadyH.cons rfl (fun K hK => ?_) AllReadyH.nil)
  have oz := ob
  rw [HZ.out, HZL.out] at oz
  have lz := IsL.own oz rfl
  go_simp
  refine (sameb_tt _ (Jm0_C.out.below hLm13) lz).mono ?_
  rintro e Wm14 ⟨rfl, hbm14⟩
  have hLm14 := below_thru hLm13 hbm14
  have hxm14 := (And.intro (Box.below (hxm0.1) hLm14) (And.intro (Box.below (hxm0.2.1) hLm14) (Box.below (hxm0.2.2) hLm14)))
  have hBm14 := below_thru hBm0 hLm14
  have Jm14_B := Lib.hid (Jm0_B.out.below hLm14)
  have Jm14_C := Lib.hid (Jm0_C.out.below hLm14)
  refine hK.out _ _ hxm14 (fun _ => ?_); clear hK
  refine takeH 16 40 (v := ?vm16_15) rfl (by rfl) (by kernel_rfl) (by kernel_rfl) (by kernel_rfl) (fun _ _ _ h => h) (Or.inl ⟨by rfl, ?_⟩) (hxm14) ?_
  rotate_left
  · intro wq hSq
    go_simp
    exact rfl
  try simp only [Act.put, List.setIfInBounds_toArray, List.set_cons_zero, List.set_cons_succ]
  refine takeH 17 41 (v := ?vm17_16) rfl (by rfl) (by kernel_rfl) (by kernel_rfl) (by kernel_rfl) (fun _ _ _ h => h) (Or.inl ⟨by rfl, ?_⟩) (hxm14) ?_
  rotate_left
  · intro wq hSq
    go_simp
    exact rfl
  try simp only [Act.put, List.setIfInBounds_toArray, List.set_cons_zero, List.set_cons_succ]
  refine wpAnyH_done (by kernel_rfl) ?_ _
  have x_T6 : Box Wm14 (w.heap.size) (V) := hxm14.1
  have x_R6 : Box Wm14 (w2.heap.size) (V) := hxm14.2.1
  have x_M6 : Box Wm14 (w4.heap.size) (M) := hxm14.2.2
  have hB6 := hBm14
  have hs6 := hB6.size
  have J_B6 := Jm14_B
  have J_C6 := Jm14_C
  clear hxm14 Jm14_B Jm14_C
  clear J_C6
  clear x_R6
  clear x_M6
  clear x_T6
  go_upto_region 8 with fail
  go_wp2_with fail
  refine (A4 _ _ J_B6.out).mono ?_
  rintro e w7 ⟨rfl, hb⟩
  clear A4
  have hB7 : Below w.heap.size w w7 := below_thru hB6 hb
  have hs7 := hB7.size
  have J_B7 : Hid (IsL w7 .u8 (.slice a0 bs.length c0) bs) := Lib.hid (IsL.below J_B6.out hb)
  clear hB6 hs6 J_B6
  clear hb
  have d_Y_0 := hs7
  go_upto_region 9 with (refine wpList_store_box (cs := Y) rfl _ _ _ rfl (Box.newc (l := zeroTk) rfl rfl) rfl rfl SY.out LY.out OY.out ?_; intro W7_0 hW7_0)
  have hN : Below w7.heap.size w7 W7_0 := (hW7_0.below _ _ (by omega) ((Below.refl _ w7).alloc (Nat.le_refl _) _))
  have x_Y8 : Box W7_0 (w7.heap.size) (Y) := hW7_0.box
  have hB8 : Below w.heap.size w W7_0 := below_thru hB7 hN
  have hs8 := hB8.size
  have J_B8 : Hid (IsL W7_0 .u8 (.slice a0 bs.length c0) bs) := Lib.hid (IsL.below J_B7.out hN)
  clear hB7 hs7 J_B7
  clear hN hW7_0
  go_wp2_with (refine wpList_load_boxw rfl _ _ rfl x_Y8 rfl Tryd.underlying27 rfl SY.out ?_)
  refine (A5 _).mono ?_
  rintro e w9 ⟨vd, rfl, od, hb⟩
  clear A5
  have hB9 : Below w.heap.size w w9 := below_thru hB8 hb
  have hs9 := hB9.size
  have x_Y9 : Box w9 (w7.heap.size) (Y) := Box.below x_Y8 hb
  have J_B9 : Hid (IsL w9 .u8 (.slice a0 bs.length c0) bs) := Lib.hid (IsL.below J_B8.out hb)
  clear hB8 hs8 x_Y8 J_B8
  clear hb
  have ld := Lib.hid (IsL.own od rfl)
  clear od
  clear x_Y9
  go_wp2_with fail
  refine (sameb_tt _ ld.out J_B9.out).mono ?_
  rintro e w10 ⟨rfl, hb⟩
  clear ld
  have hB10 : Below w.heap.size w w10 := below_thru hB9 hb
  have hs10 := hB10.size
  have J_B10 : Hid (IsL w10 .u8 (.slice a0 bs.length c0) bs) := Lib.hid (IsL.below J_B9.out hb)
  clear hB9 hs9 J_B9
  clear hb
  go_wp2_with fail
  refine (alive8_is _ (Lib.hid (hL.out.below hB10))).mono ?_
  rintro e w11 ⟨rfl, hb⟩
  have hB11 : Below w.heap.size w w11 := below_thru hB10 hb
  have hs11 := hB11.size
  have J_B11 : Hid (IsL w11 .u8 (.slice a0 bs.length c0) bs) := Lib.hid (IsL.below J_B10.out hb)
  clear hB10 hs10 J_B10
  clear hb
  go_wp2_with fail
  go_returns
  exact ⟨rfl, hB11⟩


set_option maxRecDepth 100000 in
set_option maxHeartbeats 6400000 in
theorem back8_bad (k : Nums) {g : List Int} {a0 : Option Addr} {c0 : Nat} {bs : List Int} (hg : g.length = 32) (w : World) (hl : ¬ 200 < bs.length) (h1 : IsL w .u8 (.slice a0 bs.length c0) bs) (hbs : bs.length ≠ 52) (hL : Hid (LaidS w)) : Calls Tryd.prog 7 #[.agg (tcell k g).toArray, .slice a0 bs.length c0] w fun e w' => e = .returned (.bool true) ∧ Below w.heap.size w w' := by
  have d1 : decide ((200 : Int) < (bs.length : Int)) = false := decide_eq_false (by omega)
  obtain ⟨ti, hin, hz0, hz1, hz2⟩ := info_parts info_u8'
  have A1 := fun W => twrite_is k hg W
  have A2 := fun (W : World) (v : Value) (h : IsL W .u8 v (k.msg ++ g)) => tread_ok k hg W h
  have A3 := fun W => bytes_is k (g := g) W
  have A4 := fun (W : World) (v : Value) (q : IsL W .u8 v bs) => tread_bad W q hbs
  have d2 : ((bs.length : Int) != 52) = true := by simp; omega
  have SY := Lib.hid (size_tok Nums.zero zd32)
  have LY : Hid (zeroTk.length = (tcell Nums.zero zeroD).length) := Lib.hid (len_tok Nums.zero Nums.zero zd32 zd32)
  have OY := Lib.hid (tcell_one Nums.zero zeroD)
  have hml := k.msg_len
  have HM := Lib.hid hml
  have HG := Lib.hid hg
  have SM := Lib.hid (size_msg hml)
  have LM := Lib.hid (len_msg hml)
  have OM := Lib.hid (oneCell_ints (k := .u8) k.msg)
  have LMM := Lib.hid (fun (W : World) (b : Nat) (h : Box W b (k.msg.map (Value.int .u8))) => IsL.boxed 20 hml h (by omega))
  have HT := Lib.hid (tcell_drop k g)
  have SV := Lib.hid (size_tok k hg)
  have LV := Lib.hid (len_tok Nums.zero k zd32 hg)
  have OV := Lib.hid (tcell_one k g)
  have EV := fun (W : World) => eq_tok_self k hg W
  have HZ : Hid ((([] : List Int).map (Value.int .u8) ++ k.msg.map (Value.int .u8)) ++ g.map (Value.int .u8) = (k.msg ++ g).map (Value.int .u8)) := Lib.hid (by rw [List.map_append]; rfl)
  have HZL : Hid (([] : List Int).length + k.msg.length + g.length = (k.msg ++ g).length) := Lib.hid (by rw [List.length_append, List.length_nil, Nat.zero_add])
  obtain ⟨m, hm⟩ : ∃ m, k.msg = m := ⟨_, rfl⟩
  rw [hm] at A1 A2 A3 HM SM LM OM LMM HZ HZL
  obtain ⟨Z, hZ⟩ : ∃ Z, m ++ g = Z := ⟨_, rfl⟩
  rw [hZ] at A1 A2 HZ HZL
  obtain ⟨M, hM⟩ : ∃ M, m.map (Value.int .u8) = M := ⟨_, rfl⟩
  obtain ⟨V, hV⟩ : ∃ V, tcell k g = V := ⟨_, rfl⟩
  rw [hM] at A3 SM LM OM LMM
  rw [hV] at A1 A2 A3 HT SV LV OV EV ⊢
  obtain ⟨Y, hY⟩ : ∃ V, zeroT = V := ⟨_, rfl⟩
  rw [hY] at A4
  rw [show tcell Nums.zero zeroD = Y from hY] at SY LY OY
  clear hY hbs
  clear hm hZ hM hV hml hg hl
  have J := Lib.hid h1
  clear h1
  have hx : Box (w.alloc (.cells V.toArray 27)) w.heap.size V := Box.newc rfl rfl
  have hB : Below w.heap.size w (w.alloc (.cells V.toArray 27)) := by go_grown
  go_enter Tryd.func7, Tryd.ntmps7
  go_upto_region 3 with fail
  have hB0 := hB
  have hs0 := hB0.size
  have x_T0 : Box (w.alloc (.cells V.toArray 27)) (w.heap.size) (V) := hx
  have J_B0 : Hid (IsL (w.alloc (.cells V.toArray 27)) .u8 (.slice a0 bs.length c0) bs) := Lib.hid (J.out.below hB)
  clear hx J hB
  go_wp2_with (refine wpList_load_boxw rfl _ _ rfl x_T0 rfl Tryd.underlying27 rfl SV.out ?_)
  refine (A1 _).mono ?_
  rintro e w1 ⟨vc, rfl, oc, hb⟩
  clear A1
  have hB1 : Below w.heap.size w w1 := below_thru hB0 hb
  have hs1 := hB1.size
  have x_T1 : Box w1 (w.heap.size) (V) := Box.below x_T0 hb
  have J_B1 : Hid (IsL w1 .u8 (.slice a0 bs.length c0) bs) := Lib.hid (IsL.below J_B0.out hb)
  clear hB0 hs0 x_T0 J_B0
  clear hb
  have J_C1 : Hid (IsL w1 .u8 (vc) Z) := Lib.hid (IsL.own oc rfl)
  clear oc
  go_wp2_with fail
  refine (A2 _ _ J_C1.out).mono ?_
  rintro e w2 ⟨rfl, hb⟩
  clear A2
  have hB2 : Below w.heap.size w w2 := below_thru hB1 hb
  have hs2 := hB2.size
  have x_T2 : Box w2 (w.heap.size) (V) := Box.below x_T1 hb
  have J_B2 : Hid (IsL w2 .u8 (.slice a0 bs.length c0) bs) := Lib.hid (IsL.below J_B1.out hb)
  have J_C2 : Hid (IsL w2 .u8 (vc) Z) := Lib.hid (IsL.below J_C1.out hb)
  clear hB1 hs1 x_T1 J_B1 J_C1
  clear hb
  have d_R_T := (x_T2).lt
  have d_R_0 := hs2
  go_upto_region 5 with (refine wpList_store_box (cs := V) rfl _ _ _ rfl (Box.newc (l := zeroTk) rfl rfl) rfl rfl SV.out LV.out OV.out ?_; intro W2_0 hW2_0)
  have hN : Below w2.heap.size w2 W2_0 := (hW2_0.below _ _ (by omega) ((Below.refl _ w2).alloc (Nat.le_refl _) _))
  have x_R3 : Box W2_0 (w2.heap.size) (V) := hW2_0.box
  have hB3 : Below w.heap.size w W2_0 := below_thru hB2 hN
  have hs3 := hB3.size
  have x_T3 : Box W2_0 (w.heap.size) (V) := Box.below x_T2 hN
  have J_B3 : Hid (IsL W2_0 .u8 (.slice a0 bs.length c0) bs) := Lib.hid (IsL.below J_B2.out hN)
  have J_C3 : Hid (IsL W2_0 .u8 (vc) Z) := Lib.hid (IsL.below J_C2.out hN)
  clear hB2 hs2 x_T2 J_B2 J_C2
  clear hN hW2_0
  go_wp2_with (refine wpList_load_boxw rfl _ _ rfl x_T3 rfl Tryd.underlying27 rfl SV.out ?_)
  refine (A3 _).mono ?_
  rintro e w4 ⟨rfl, hb⟩
  clear A3
  have hB4 : Below w.heap.size w w4 := below_thru hB3 hb
  have hs4 := hB4.size
  have x_T4 : Box w4 (w.heap.size) (V) := Box.below x_T3 hb
  have x_R4 : Box w4 (w2.heap.size) (V) := Box.below x_R3 hb
  have J_B4 : Hid (IsL w4 .u8 (.slice a0 bs.length c0) bs) := Lib.hid (IsL.below J_B3.out hb)
  have J_C4 : Hid (IsL w4 .u8 (vc) Z) := Lib.hid (IsL.below J_C3.out hb)
  clear hB3 hs3 x_T3 x_R3 J_B3 J_C3
  clear hb
  have d_M_T := (x_T4).lt
  have d_M_R := (x_R4).lt
  have d_M_0 := hs4
  go_upto_region 6 with (refine wpList_store_box (cs := M) rfl _ _ _ rfl (Box.newc (l := zero20) rfl rfl) rfl rfl SM.out LM.out OM.out ?_; intro W4_0 hW4_0)
  have hN : Below w4.heap.size w4 W4_0 := (hW4_0.below _ _ (by omega) ((Below.refl _ w4).alloc (Nat.le_refl _) _))
  have x_M5 : Box W4_0 (w4.heap.size) (M) := hW4_0.box
  have hB5 : Below w.heap.size w W4_0 := below_thru hB4 hN
  have hs5 := hB5.size
  have x_T5 : Box W4_0 (w.heap.size) (V) := Box.below x_T4 hN
  have x_R5 : Box W4_0 (w2.heap.size) (V) := Box.below x_R4 hN
  have J_B5 : Hid (IsL W4_0 .u8 (.slice a0 bs.length c0) bs) := Lib.hid (IsL.below J_B4.out hN)
  have J_C5 : Hid (IsL W4_0 .u8 (vc) Z) := Lib.hid (IsL.below J_C4.out hN)
  clear hB4 hs4 x_T4 x_R4 J_B4 J_C4
  clear hN hW4_0
  refine wp_region_held_drew (S := fun W => Box W (w.heap.size) (V) ∧ Box W (w2.heap.size) (V) ∧ Box W (w4.heap.size) (M)) (by kernel_rfl) (And.intro (x_T5).drew (And.intro (x_R5).drew (x_M5).drew)) (fun _ => ?_)
  refine F_drew (F := fun W => wpAnyH _ _ _ _ _ _ _ _ W) ?_
  intro Wm0 hbm0
  have hxm0 := (And.intro (Box.below x_T5 hbm0) (And.intro (Box.below x_R5 hbm0) (Box.below x_M5 hbm0)))
  have hBm0 := below_thru hB5 hbm0
  have Jm0_B := Lib.hid (J_B5.out.below hbm0)
  have Jm0_C := Lib.hid (J_C5.out.below hbm0)
  clear x_T5 x_R5 x_M5 hB5 hs5 hbm0 J_B5 J_C5
  refine takeH 0 24 (v := ?vm0_1) rfl (by rfl) (by kernel_rfl) (by kernel_rfl) (by kernel_rfl) (fun _ _ _ h => h) (Or.inl ⟨by rfl, ?_⟩) (hxm0) ?_
  rotate_left
  · intro wq hSq
    go_simp
    exact rfl
  try simp only [Act.put, List.setIfInBounds_toArray, List.set_cons_zero, List.set_cons_succ]
  refine takeH 1 25 (v := ?vm1_2) rfl (by rfl) (by kernel_rfl) (by kernel_rfl) (by kernel_rfl) (fun _ _ _ h => h) (Or.inl ⟨by rfl, ?_⟩) (hxm0) ?_
  rotate_left
  · intro wq hSq
    go_simp
    exact rfl
  try simp only [Act.put, List.setIfInBounds_toArray, List.set_cons_zero, List.set_cons_succ]
  refine takeH 2 26 (v := ?vm2_3) rfl (by rfl) (by kernel_rfl) (by kernel_rfl) (by kernel_rfl) (fun _ _ _ h => h) (Or.inl ⟨by rfl, ?_⟩) (hxm0) ?_
  rotate_left
  · intro wq hSq
    go_simp
    exact rfl
  try simp only [Act.put, List.setIfInBounds_toArray, List.set_cons_zero, List.set_cons_succ]
  refine takeH 3 27 (v := .agg (V).toArray) rfl (by rfl) (by kernel_rfl) (by kernel_rfl) (by kernel_rfl) (fun _ _ _ h => h) (yieldsIf_load_mid (by rfl) _ _ rfl _ _ rfl (V) _ (fun wq hq => Box.range (hq.2.1)) Tryd.underlying27 rfl SV.out) (hxm0) ?_
  try simp only [Act.put, List.setIfInBounds_toArray, List.set_cons_zero, List.set_cons_succ]
  refine takeH 4 28 (v := .agg (V).toArray) rfl (by rfl) (by kernel_rfl) (by kernel_rfl) (by kernel_rfl) (fun _ _ _ h => h) (yieldsIf_load_mid (by rfl) _ _ rfl _ _ rfl (V) _ (fun wq hq => Box.range (hq.1)) Tryd.underlying27 rfl SV.out) (hxm0) ?_
  try simp only [Act.put, List.setIfInBounds_toArray, List.set_cons_zero, List.set_cons_succ]
  refine takeH 5 29 (v := ?vm5_4) rfl (by rfl) (by kernel_rfl) (by kernel_rfl) (by kernel_rfl) (fun _ _ _ h => h) (Or.inl ⟨by rfl, ?_⟩) (hxm0) ?_
  rotate_left
  · intro wq hSq
    go_simp
    exact rfl
  try simp only [Act.put, List.setIfInBounds_toArray, List.set_cons_zero, List.set_cons_succ]
  refine takeH 6 30 (v := ?vm6_5) rfl (by rfl) (by kernel_rfl) (by kernel_rfl) (by kernel_rfl) (fun _ _ _ h => h) (Or.inl ⟨by rfl, ?_⟩) (hxm0) ?_
  rotate_left
  · intro wq hSq
    go_simp
    exact rfl
  try simp only [Act.put, List.setIfInBounds_toArray, List.set_cons_zero, List.set_cons_succ]
  refine takeH 7 31 (v := ?vm7_6) rfl (by rfl) (by kernel_rfl) (by kernel_rfl) (by kernel_rfl) (fun _ _ _ h => h) (Or.inl ⟨by rfl, ?_⟩) (hxm0) ?_
  rotate_left
  · intro wq hSq
    go_simp
    exact rfl
  try simp only [Act.put, List.setIfInBounds_toArray, List.set_cons_zero, List.set_cons_succ]
  refine takeH 8 32 (v := ?vm8_7) rfl (by rfl) (by kernel_rfl) (by kernel_rfl) (by kernel_rfl) (fun _ _ _ h => h) (Or.inl ⟨by rfl, ?_⟩) (hxm0) ?_
  rotate_left
  · intro wq hSq
    go_simp
    exact rfl
  try simp only [Act.put, List.setIfInBounds_toArray, List.set_cons_zero, List.set_cons_succ]
  refine takeH 10 34 (v := ?vm10_8) rfl (by rfl) (by kernel_rfl) (by kernel_rfl) (by kernel_rfl) (fun _ _ _ h => h) (Or.inl ⟨by rfl, ?_⟩) (hxm0) ?_
  rotate_left
  · intro wq hSq
    go_simp
    exact rfl
  try simp only [Act.put, List.setIfInBounds_toArray, List.set_cons_zero, List.set_cons_succ]
  refine takeH 12 36 (v := ?vm12_9) rfl (by rfl) (by kernel_rfl) (by kernel_rfl) (by kernel_rfl) (fun _ _ _ h => h) (Or.inl ⟨by rfl, ?_⟩) (hxm0) ?_
  rotate_left
  · intro wq hSq
    go_simp
    exact rfl
  try simp only [Act.put, List.setIfInBounds_toArray, List.set_cons_zero, List.set_cons_succ]
  refine takeH 13 37 (v := ?vm13_10) rfl (by rfl) (by kernel_rfl) (by kernel_rfl) (by kernel_rfl) (fun _ _ _ h => h) (Or.inl ⟨by rfl, ?_⟩) (hxm0) ?_
  rotate_left
  · intro wq hSq
    go_simp
    exact rfl
  try simp only [Act.put, List.setIfInBounds_toArray, List.set_cons_zero, List.set_cons_succ]
  refine wpAnyH_ready (rs := [9]) (by kernel_rfl) (by simp) (AllReadyH.cons rfl (fun K hK => ?_) AllReadyH.nil)
  go_simp
  refine hK.out _ _ (And.intro (Box.alloc (hxm0.1) _) (And.intro (Box.alloc (hxm0.2.1) _) (Box.alloc (hxm0.2.2) _))) (fun _ => ?_); clear hK
  refine F_own8 (F := fun W => wpAnyH _ _ _ _ _ _ _ _ W) (base := Wm0.heap.size) (Nat.le_refl _) ?_
  intro Wm11 oe hLm11
  have hxm11 := (And.intro (Box.below (hxm0.1) hLm11) (And.intro (Box.below (hxm0.2.1) hLm11) (Box.below (hxm0.2.2) hLm11)))
  refine wpAnyH_ready (rs := [11]) (by kernel_rfl) (by simp) (AllReadyH.cons rfl (fun K hK => ?_) AllReadyH.nil)
  refine step_append_intsw 35 rfl (by rfl) _ _ 31 rfl Wm0.heap.size 5 ti (.int .u8 0) 1 .u8 Tryd.underlying31 hin hz0 hz1 hz2 rfl _ _ _ rfl oe _ m rfl (LMM.out _ _ (hxm11.2.2)) (by have := HM.out; have := HG.out; unfold maxLen; simp; omega) (by have := HM.out; have := HG.out; simp; omega) (Below.size hLm11) ?_
  intro va Wm12 oa hbm12
  have hLm12 := Below.trans hLm11 hbm12
  have hxm12 := (And.intro (Box.below (hxm0.1) hLm12) (And.intro (Box.below (hxm0.2.1) hLm12) (Box.below (hxm0.2.2) hLm12)))
  refine hK.out _ _ hxm12 (fun _ => ?_); clear hK
  refine wpAnyH_ready (rs := [14]) (by kernel_rfl) (by simp) (AllReadyH.cons rfl (fun K hK => ?_) AllReadyH.nil)
  refine step_append_intsw 38 rfl (by rfl) _ _ 31 rfl Wm0.heap.size 5 ti (.int .u8 0) 1 .u8 Tryd.underlying31 hin hz0 hz1 hz2 rfl _ _ _ rfl oa _ g rfl (IsL.range 32 32 HG.out (Box.rangeFrom (hxm12.1) 4 (g.map (Value.int .u8)) HT.out) (by omega) (by omega)) (by have := HM.out; have := HG.out; unfold maxLen; simp; omega) (by have := HM.out; have := HG.out; simp; omega) (Below.size hLm12) ?_
  intro vb Wm13 ob hbm13
  have hLm13 := Below.trans hLm12 hbm13
  have hxm13 := (And.intro (Box.below (hxm0.1) hLm13) (And.intro (Box.below (hxm0.2.1) hLm13) (Box.below (hxm0.2.2) hLm13)))
  refine hK.out _ _ hxm13 (fun _ => ?_); clear hK
  refine wpAnyH_ready (rs := [15]) (by kernel_rfl) (by simp) (AllReadyH.cons rfl (fun K hK => ?_) AllReadyH.nil)
  have oz := ob
  rw [HZ.out, HZL.out] at oz
  have lz := IsL.own oz rfl
  go_simp
  refine (sameb_tt _ (Jm0_C.out.below hLm13) lz).mono ?_
  rintro e Wm14 ⟨rfl, hbm14⟩
  have hLm14 := below_thru hLm13 hbm14
  have hxm14 := (And.intro (Box.below (hxm0.1) hLm14) (And.intro (Box.below (hxm0.2.1) hLm14) (Box.below (hxm0.2.2) hLm14)))
  have hBm14 := below_thru hBm0 hLm14
  have Jm14_B := Lib.hid (Jm0_B.out.below hLm14)
  have Jm14_C := Lib.hid (Jm0_C.out.below hLm14)
  refine hK.out _ _ hxm14 (fun _ => ?_); clear hK
  refine takeH 16 40 (v := ?vm16_15) rfl (by rfl) (by kernel_rfl) (by kernel_rfl) (by kernel_rfl) (fun _ _ _ h => h) (Or.inl ⟨by rfl, ?_⟩) (hxm14) ?_
  rotate_left
  · intro wq hSq
    go_simp
    exact rfl
  try simp only [Act.put, List.setIfInBounds_toArray, List.set_cons_zero, List.set_cons_succ]
  refine takeH 17 41 (v := ?vm17_16) rfl (by rfl) (by kernel_rfl) (by kernel_rfl) (by kernel_rfl) (fun _ _ _ h => h) (Or.inl ⟨by rfl, ?_⟩) (hxm14) ?_
  rotate_left
  · intro wq hSq
    go_simp
    exact rfl
  try simp only [Act.put, List.setIfInBounds_toArray, List.set_cons_zero, List.set_cons_succ]
  refine wpAnyH_done (by kernel_rfl) ?_ _
  have x_T6 : Box Wm14 (w.heap.size) (V) := hxm14.1
  have x_R6 : Box Wm14 (w2.heap.size) (V) := hxm14.2.1
  have x_M6 : Box Wm14 (w4.heap.size) (M) := hxm14.2.2
  have hB6 := hBm14
  have hs6 := hB6.size
  have J_B6 := Jm14_B
  have J_C6 := Jm14_C
  clear hxm14 Jm14_B Jm14_C
  clear J_C6
  clear x_R6
  clear x_M6
  clear x_T6
  go_upto_region 8 with fail
  go_wp2_with fail
  refine (A4 _ _ J_B6.out).mono ?_
  rintro e w7 ⟨rfl, hb⟩
  clear A4
  have hB7 : Below w.heap.size w w7 := below_thru hB6 hb
  have hs7 := hB7.size
  have J_B7 : Hid (IsL w7 .u8 (.slice a0 bs.length c0) bs) := Lib.hid (IsL.below J_B6.out hb)
  clear hB6 hs6 J_B6
  clear hb
  have d_Y_0 := hs7
  go_upto_region 9 with (refine wpList_store_box (cs := Y) rfl _ _ _ rfl (Box.newc (l := zeroTk) rfl rfl) rfl rfl SY.out LY.out OY.out ?_; intro W7_0 hW7_0)
  have hN : Below w7.heap.size w7 W7_0 := (hW7_0.below _ _ (by omega) ((Below.refl _ w7).alloc (Nat.le_refl _) _))
  have x_Y8 : Box W7_0 (w7.heap.size) (Y) := hW7_0.box
  have hB8 : Below w.heap.size w W7_0 := below_thru hB7 hN
  have hs8 := hB8.size
  have J_B8 : Hid (IsL W7_0 .u8 (.slice a0 bs.length c0) bs) := Lib.hid (IsL.below J_B7.out hN)
  clear hB7 hs7 J_B7
  clear hN hW7_0
  clear x_Y8
  go_wp2_with fail
  refine (alive8_is _ (Lib.hid (hL.out.below hB8))).mono ?_
  rintro e w9 ⟨rfl, hb⟩
  have hB9 : Below w.heap.size w w9 := below_thru hB8 hb
  have hs9 := hB9.size
  have J_B9 : Hid (IsL w9 .u8 (.slice a0 bs.length c0) bs) := Lib.hid (IsL.below J_B8.out hb)
  clear hB8 hs8 J_B8
  clear hb
  go_wp2_with fail
  go_returns
  exact ⟨rfl, hB9⟩


theorem back8_is (k : Nums) {g : List Int} (hg : g.length = 32) (_hgb : Byts g) {v : Value} {bs : List Int} (w : World) (h1 : IsL w .u8 v bs) (hb : Byts bs) (hL : Hid (LaidS w)) : Calls Tryd.prog 7 #[.agg (tcell k g).toArray, v] w fun e w' => e = .returned (.bool true) ∧ Below w.heap.size w w' := by
  obtain ⟨a0, c0, rfl, _, _⟩ := id h1
  by_cases hl : 200 < bs.length
  · exact back8_many k w hl hL
  · by_cases h52 : bs.length = 52
    · obtain ⟨l, h, q, hh, _⟩ := tok_of_bytes h52 hb
      exact back8_ok k l hg hh w hl h1 q.symm hL
    · exact back8_bad k hg w hl h1 h52 hL

end Go.Proofs.YtlbbedknldmcpaaDoor
