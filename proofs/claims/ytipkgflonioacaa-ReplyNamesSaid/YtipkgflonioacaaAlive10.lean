/-
  given and alive of layer 10's statements, walked.
-/
import Derived.Test.YtipkgflonioacaaRRpC
namespace Go.Proofs.Ytipkgflonioacaa
open Go.RowKit

def gvn : Rep := ⟨3, 2, 5, 0, 258, 3, by decide, by decide, by decide, by decide, by decide, by decide⟩
def gvn2 : Rep := ⟨2, 2, 5, 0, 258, 3, by decide, by decide, by decide, by decide, by decide, by decide⟩
theorem gvn_ok : gvn.Ok := Or.inr (Or.inl ⟨rfl, by unfold Rep.Ans Rep.Low; decide, by decide⟩)
theorem gvn2_no : ¬ gvn2.Ok := by
  rintro (h | h | h)
  · exact absurd h.2.2 (by decide)
  · exact absurd h.1 (by decide)
  · exact absurd h.1 (by decide)
def one1 : Rep := Rep.lone 1 (by decide)
theorem one1_ok : one1.Ok := Rep.lone_ok _ (Or.inl rfl)
def wt10 : List Int := List.replicate 32 0
def gb10 : List Int := [3, 0, 0, 0, 0, 0, 0, 2, 0, 0, 0, 5, 0, 0, 0, 0, 0, 0, 1, 2, 0, 0, 0, 0, 0, 0, 0, 3, 0, 0, 0, 0]
theorem gvn_bs : gvn.bs = gb10 := by decide
theorem one1_bs : one1.bs = wt10.set 0 1 := by decide
set_option maxRecDepth 100000 in
theorem build_gv (W : World) : (Instr.build 26 #[(0, .int .u8 3), (1, .int .u32 2), (2, .agg #[.int .u32 5, .int .u32 0, .int .u32 258]), (3, .int .u64 3)]).run Try.prog W = .ok (.agg gvn.v.toArray) W := by kernel_rfl
set_option maxRecDepth 100000 in
theorem build_l3 (W : World) : (Instr.build 23 #[(0, .int .u32 5), (1, .int .u32 0), (2, .int .u32 258)]).run Try.prog W = .ok (.agg #[.int .u32 5, .int .u32 0, .int .u32 258]) W := by kernel_rfl
set_option maxRecDepth 100000 in
set_option maxHeartbeats 6400000 in
theorem given10_is (w : World) : Calls Try.prog 13 #[] w fun e w' => e = .returned (.agg gvn.v.toArray) ∧ Below w.heap.size w w' := by
  have BG := fun W => build_gv W; have BL := fun W => build_l3 W; have SZ := Lib.hid (size_rep Rep.zero); have SV := Lib.hid (size_rep gvn); have LV := Lib.hid (len_rep Rep.zero gvn); have OV := Lib.hid (one_rep gvn)
  obtain ⟨V, hV⟩ : ∃ V, gvn.v = V := ⟨_, rfl⟩
  rw [hV] at BG SV LV OV ⊢
  clear hV
  go_enter Try.func13, Try.ntmps13
  go_upto_region 1 with fail
  refine F_gen (F := fun W => Code.wp _ _ _ _ W) (J := fun W => Box W (w.heap.size) (Rep.zero.v) ∧ Below w.heap.size w W) (And.intro (Box.newc rfl rfl) (by go_grown)) ?_
  intro w0 ⟨e_r, hB0⟩
  have hs0 := hB0.size
  have x_r0 := e_r; clear e_r
  have lq := (x_r0).lt
  go_wp2_with (first | (refine wpList_build9 rfl 23 _ rfl (us := #[(0, .int .u32 5), (1, .int .u32 0), (2, .int .u32 258)]) (by rfl) (BL _) ?_) | (refine wpList_build9 rfl 26 _ rfl (us := #[(0, .int .u8 3), (1, .int .u32 2), (2, .agg #[.int .u32 5, .int .u32 0, .int .u32 258]), (3, .int .u64 3)]) (by rfl) (BG _) ?_) | (refine wpList_store_box (cs := V) rfl _ _ _ rfl x_r0 rfl rfl SV.out LV.out OV.out ?_; intro W9 hW9))
  exact bodyPost_ret (results_box Try.results13 hW9.box rfl Try.underlying26 rfl SV.out) rfl ⟨rfl, hW9.below _ _ (by omega) hB0⟩
set_option maxRecDepth 100000 in
set_option maxHeartbeats 6400000 in
theorem alive10_is (w : World) : Calls Try.prog 14 #[] w fun e w' => e = .returned (.bool true) ∧ Below w.heap.size w w' := by
  have CD := fun W => code_is 1 (by decide) (G := one1) (q := 0) (Or.inl ⟨rfl, Or.inl rfl, by decide, rfl⟩) W
  have WA := fun W => pwr_is one1 (xs := one1.bs) (q := 0) (Or.inl ⟨rfl, one1_ok, rfl⟩) W
  have WG := fun W => pwr_is gvn (xs := gvn.bs) (q := 0) (Or.inl ⟨rfl, gvn_ok, rfl⟩) W
  have GV := fun W => given10_is W
  have CK := fun W => chk_is gvn2 (q := 8) (Lib.hid (Or.inr ⟨rfl, gvn2_no⟩)) W
  have mk32 : ∀ W : World, (Instr.makeSlice 31 (.int .i64 32) (.int .i64 32)).run Try.prog W = .ok (.slice (some ⟨W.heap.size, 0, none⟩) 32 32) (W.alloc (.cells (wt10.map (Value.int .u8)).toArray 5)) := fun W => make_bytes 32 (by omega) W
  rw [one1_bs] at WA; rw [gvn_bs] at WG
  have E1 : Hid ((wt10.set 0 1).map (Value.int .u8) = (wt10.map (Value.int .u8)).set 0 (.int .u8 1)) := Lib.hid (by rw [List.map_set])
  have E2 : Hid (gvn2.v = gvn.v.set 0 (.int .u8 2)) := Lib.hid rfl
  have N0 : Hid ((wt10.map (Value.int .u8)).length = 32) := Lib.hid (by decide); have N1 : Hid (gvn.v.length = 6) := Lib.hid rfl; have N2 : Hid ((wt10.set 0 1).length = 32) := Lib.hid (by decide); have N3 : Hid (gb10.length = 32) := Lib.hid rfl; have E3 : Hid (gb10 = [3, 0, 0, 0, 0, 0, 0, 2, 0, 0, 0, 5, 0, 0, 0, 0, 0, 0, 1, 2, 0, 0, 0, 0, 0, 0, 0, 3, 0, 0, 0, 0]) := Lib.hid rfl
  have Sa := Lib.hid (size_rep one1); have La := Lib.hid (len_rep Rep.zero one1); have Oa := Lib.hid (one_rep one1)
  have Sg := Lib.hid (size_rep gvn); have Lg := Lib.hid (len_rep Rep.zero gvn); have Og := Lib.hid (one_rep gvn)
  have Sh := Lib.hid (size_rep gvn2)
  obtain ⟨VA, hVA⟩ : ∃ V, one1.v = V := ⟨_, rfl⟩
  obtain ⟨VG, hVG⟩ : ∃ V, gvn.v = V := ⟨_, rfl⟩
  obtain ⟨VH, hVH⟩ : ∃ V, gvn2.v = V := ⟨_, rfl⟩
  obtain ⟨XW, hXW⟩ : ∃ V, wt10.set 0 1 = V := ⟨_, rfl⟩
  obtain ⟨XG, hXG⟩ : ∃ V, gb10 = V := ⟨_, rfl⟩
  rw [hVA] at CD WA Sa La Oa; rw [hVG] at WG GV E2 N1 Sg Lg Og; rw [hVH] at CK E2 Sh; rw [hXW] at WA E1 N2; rw [hXG] at WG N3 E3
  clear hVA hVG hVH hXW hXG
  go_enter Try.func14, Try.ntmps14
  have hB0 := Below.refl w.heap.size w
  have hs0 := hB0.size
  go_wp2_with fail
  refine (CD _).mono ?_
  rintro e w1 ⟨rfl, hb⟩
  have hB1 : Below w.heap.size w w1 := below_thru hB0 hb
  have hs1 := hB1.size
  clear hB0 hs0
  clear hb
  have d_a_0 := hs1
  go_upto_region 2 with (refine wpList_store_box (cs := VA) rfl _ _ _ rfl (Box.newc (l := Rep.zero.v) rfl rfl) rfl rfl Sa.out La.out Oa.out ?_; intro W1_0 hW1_0)
  have hN : Below w1.heap.size w1 W1_0 := (hW1_0.below _ _ (by omega) ((Below.refl _ w1).alloc (Nat.le_refl _) _))
  have x_a2 : Box W1_0 (w1.heap.size) (VA) := hW1_0.box
  have hB2 : Below w.heap.size w W1_0 := below_thru hB1 hN
  have hs2 := hB2.size
  clear hB1 hs1
  clear hN hW1_0
  go_wp2_with (refine wpList_load_box9 rfl _ _ rfl x_a2 rfl Try.underlying26 rfl Sa.out ?_)
  refine (WA _).mono ?_
  rintro e w3 ⟨va, rfl, hoa, hb⟩
  have hB3 : Below w.heap.size w w3 := below_thru hB2 hb
  have hs3 := hB3.size
  have x_a3 : Box w3 (w1.heap.size) (VA) := Box.below x_a2 hb
  clear hB2 hs2 x_a2
  clear hb
  have J_a13 : Hid (IsL w3 .u8 (va) XW) := Lib.hid (IsL.own hoa rfl)
  clear hoa
  clear x_a3
  go_wp2_with fail
  refine (GV _).mono ?_
  rintro e w4 ⟨rfl, hb⟩
  have hB4 : Below w.heap.size w w4 := below_thru hB3 hb
  have hs4 := hB4.size
  have J_a14 : Hid (IsL w4 .u8 (va) XW) := Lib.hid (IsL.below J_a13.out hb)
  clear hB3 hs3 J_a13
  clear hb
  go_wp2_with fail
  refine (WG _).mono ?_
  rintro e w5 ⟨vb, rfl, hob, hb⟩
  have hB5 : Below w.heap.size w w5 := below_thru hB4 hb
  have hs5 := hB5.size
  have J_a15 : Hid (IsL w5 .u8 (va) XW) := Lib.hid (IsL.below J_a14.out hb)
  clear hB4 hs4 J_a14
  clear hb
  have J_b15 : Hid (IsL w5 .u8 (vb) XG) := Lib.hid (IsL.own hob rfl)
  clear hob
  go_upto_region 6 with (first | (refine wpList_store_cell (k := 0) (ws := XW.map (Value.int .u8)) (v := .int .u8 1) rfl _ _ _ rfl (Box.newc (l := wt10.map (Value.int .u8)) rfl rfl) rfl rfl rfl rfl size_u8n (by rw [N0.out]; decide) E1.out ?_; intro S5_0 hS5_0))
  have hN : Below w5.heap.size w5 S5_0 := (hS5_0.below _ _ (Nat.le_refl _) ((Below.refl _ _).alloc (Nat.le_refl _) _))
  have x_W6 : Box S5_0 (w5.heap.size) (XW.map (Value.int .u8)) := hS5_0.box
  have low_W := hs5
  have hB6 : Below w.heap.size w S5_0 := below_thru hB5 hN
  have hs6 := hB6.size
  have J_a16 : Hid (IsL S5_0 .u8 (va) XW) := Lib.hid (IsL.below J_a15.out hN)
  have J_b16 : Hid (IsL S5_0 .u8 (vb) XG) := Lib.hid (IsL.below J_b15.out hN)
  clear hB5 hs5 J_a15 J_b15
  clear hN hS5_0
  go_wp2_with fail
  refine (GV _).mono ?_
  rintro e w7 ⟨rfl, hb⟩
  have hB7 : Below w.heap.size w w7 := below_thru hB6 hb
  have hs7 := hB7.size
  have x_W7 : Box w7 (w5.heap.size) (XW.map (Value.int .u8)) := Box.below x_W6 hb
  have J_a17 : Hid (IsL w7 .u8 (va) XW) := Lib.hid (IsL.below J_a16.out hb)
  have J_b17 : Hid (IsL w7 .u8 (vb) XG) := Lib.hid (IsL.below J_b16.out hb)
  clear hB6 hs6 x_W6 J_a16 J_b16
  clear hb
  have low_d := hs7
  go_upto_region 8 with (first | (refine wpList_store_cell (k := 0) (ws := VH) (v := .int .u8 2) rfl _ _ _ rfl hW8.box rfl rfl rfl rfl size_u8n (by rw [N1.out]; decide) E2.out ?_; intro S8 hS8) | (refine wpList_store_box (cs := VG) rfl _ _ _ rfl (Box.newc (l := Rep.zero.v) rfl rfl) rfl rfl Sg.out Lg.out Og.out ?_; intro W8 hW8))
  have hN : Below w7.heap.size w7 S8 := hS8.below _ _ (Nat.le_refl _) (hW8.below _ _ (Nat.le_refl _) ((Below.refl _ _).alloc (Nat.le_refl _) _))
  have hbx := hS8.box
  have hB8 : Below w.heap.size w S8 := below_thru hB7 hN
  have hs8 := hB8.size
  have x_W8 : Box S8 (w5.heap.size) (XW.map (Value.int .u8)) := Box.below x_W7 hN
  have J_a18 : Hid (IsL S8 .u8 (va) XW) := Lib.hid (IsL.below J_a17.out hN)
  have J_b18 : Hid (IsL S8 .u8 (vb) XG) := Lib.hid (IsL.below J_b17.out hN)
  clear hB7 hs7 x_W7 J_a17 J_b17
  have x_d8 : Box S8 (w7.heap.size) (VH) := hbx
  clear hN hbx hS8 hW8
  go_wp2_with fail
  refine (sameb_tt _ J_a18.out (Box.isl 32 N2.out x_W8 (by omega))).mono ?_
  rintro e w9 ⟨rfl, hb⟩
  have hB9 : Below w.heap.size w w9 := below_thru hB8 hb
  have hs9 := hB9.size
  have x_W9 : Box w9 (w5.heap.size) (XW.map (Value.int .u8)) := Box.below x_W8 hb
  have x_d9 : Box w9 (w7.heap.size) (VH) := Box.below x_d8 hb
  have J_a19 : Hid (IsL w9 .u8 (va) XW) := Lib.hid (IsL.below J_a18.out hb)
  have J_b19 : Hid (IsL w9 .u8 (vb) XG) := Lib.hid (IsL.below J_b18.out hb)
  clear hB8 hs8 x_W8 x_d8 J_a18 J_b18
  clear hb
  clear J_a19
  clear x_W9
  have LB : IsL (w9.alloc (.cells #[.int .u8 3, .int .u8 0, .int .u8 0, .int .u8 0, .int .u8 0, .int .u8 0, .int .u8 0, .int .u8 2, .int .u8 0, .int .u8 0, .int .u8 0, .int .u8 5, .int .u8 0, .int .u8 0, .int .u8 0, .int .u8 0, .int .u8 0, .int .u8 0, .int .u8 1, .int .u8 2, .int .u8 0, .int .u8 0, .int .u8 0, .int .u8 0, .int .u8 0, .int .u8 0, .int .u8 0, .int .u8 3, .int .u8 0, .int .u8 0, .int .u8 0, .int .u8 0] 5)) .u8 (.slice (some ⟨w9.heap.size, 0, none⟩) 32 32) XG := by
    rw [E3.out]
    exact IsL.built _ rfl rfl rfl rfl (by simp)
  go_wp2_with fail
  refine (sameb_tt _ (J_b19.out.alloc _) LB).mono ?_
  rintro e w20 ⟨rfl, hb⟩
  have hb9 : Below w9.heap.size w9 w20 := below_thru ((Below.refl _ _).alloc (Nat.le_refl _) _) hb
  clear hb LB
  have hB10 : Below w.heap.size w w20 := below_thru hB9 hb9
  have hs10 := hB10.size
  have x_d10 : Box w20 (w7.heap.size) (VH) := Box.below x_d9 hb9
  have J_b110 : Hid (IsL w20 .u8 (vb) XG) := Lib.hid (IsL.below J_b19.out hb9)
  clear hB9 hs9 x_d9 J_b19
  clear hb9
  clear J_b110
  go_wp2_with (refine wpList_load_box9 rfl _ _ rfl x_d10 rfl Try.underlying26 rfl Sh.out ?_)
  refine (CK _).mono ?_
  rintro e w11 ⟨rfl, hb⟩
  have hB11 : Below w.heap.size w w11 := below_thru hB10 hb
  have hs11 := hB11.size
  have x_d11 : Box w11 (w7.heap.size) (VH) := Box.below x_d10 hb
  clear hB10 hs10 x_d10
  clear hb
  go_wp2_with fail
  go_returns
  exact ⟨rfl, hB11⟩

end Go.Proofs.Ytipkgflonioacaa
