/-
  TokenNames, walked.
-/
import Derived.Test.YtlbbedknldmcpaaDoorGT3
import Derived.Test.YtlbbedknldmcpaaDoorGT2
import Derived.Test.YtlbbedknldmcpaaDoorGT2
import Derived.Test.YtlbbedknldmcpaaDoorGF2
namespace Go.Proofs.YtlbbedknldmcpaaDoor
open Go.RowKit

def kE : Nums := ⟨4294967295, 4294967295, 4294967295, 18446744073709551615, by decide, by decide, by decide, by decide⟩
theorem kE_msg : kE.msg = List.replicate 20 255 := by decide +kernel
theorem kZ_msg : Nums.zero.msg = List.replicate 20 0 := by decide +kernel
theorem hold8 {p : Prop} (h : Hid p) : p := h.out
theorem zeroD_b : Byts zeroD := by show ∀ x ∈ zeroD, _; decide
theorem build_zk (W : World) : (Instr.build 23 #[]).run Tryd.prog W = .ok (.agg (zeroD.map (Value.int .u8)).toArray) W := by kernel_rfl
theorem build_zm (W : World) : (Instr.build 36 #[]).run Tryd.prog W = .ok (.agg ((List.replicate 20 (0 : Int)).map (Value.int .u8)).toArray) W := by kernel_rfl

set_option maxRecDepth 100000 in
set_option maxHeartbeats 12800000 in
theorem names8_is (w : World) (hL : Hid (LaidS w)) : Calls Tryd.prog 3 #[] w fun e w' => e = .returned (.bool true) ∧ Below w.heap.size w w' := by
  obtain ⟨ti, hin, hz0, hz1, hz2⟩ := info_parts info_u8'
  obtain ⟨D, hD⟩ : ∃ D, tagL keyG kG.msg = D := ⟨_, rfl⟩
  have hDl : D.length = 32 := by rw [← hD]; exact tagL_len _ _
  obtain ⟨E, hE⟩ : ∃ D, tagL keyG kE.msg = D := ⟨_, rfl⟩
  have hEl : E.length = 32 := by rw [← hE]; exact tagL_len _ _
  obtain ⟨F, hF⟩ : ∃ D, tagL zeroD Nums.zero.msg = D := ⟨_, rfl⟩
  have hFl : F.length = 32 := by rw [← hF]; exact tagL_len _ _
  have G := fun (W : World) h => given8_is (Lib.hid hD) W h
  have A1 := fun (W : World) h => mint_is kE keyG_l keyG_b (Lib.hid hE) W h
  rw [show kE.t = 4294967295 from rfl, show kE.u = 4294967295 from rfl, show kE.e = 4294967295 from rfl, show kE.x = 18446744073709551615 from rfl] at A1
  have A2 := fun (W : World) h => mint_is Nums.zero zd32 zeroD_b (Lib.hid hF) W h
  rw [show Nums.zero.t = 0 from rfl, show Nums.zero.u = 0 from rfl, show Nums.zero.e = 0 from rfl, show Nums.zero.x = 0 from rfl] at A2
  have A3 := fun W => twrite_is kG hDl W
  have A4 := fun (W : World) (v : Value) (bs : List Int) (h : IsL W .u8 v bs) (hl : bs.length ≠ 52) => tread_bad W h hl
  have A5 := fun (W : World) => bytes_is kE (g := E) W
  have A6 := fun (W : World) h => valid_is kE (t := 18446744073709551615) (q := 0) hEl keyG_l keyG_b (by decide) (Lib.hid (valN_t hE (by decide))) W h
  have A7 := fun (W : World) h => valid_is Nums.zero (t := 0) (q := 0) hFl zd32 zeroD_b (by decide) (Lib.hid (valN_t hF (by decide))) W h
  have A8 := fun (W : World) h => valid_is Nums.zero (t := 1) (q := 24) hFl zd32 zeroD_b (by decide) (Lib.hid (valN_l hF (by decide))) W h
  have A9 := fun (W : World) => bytes_is Nums.zero (g := F) W
  rw [kE_msg] at A5
  rw [kZ_msg] at A9
  have hZl : (kG.msg ++ D).length = 52 := by rw [List.length_append, kG.msg_len, hDl]
  have SK := Lib.hid (size_dig keyG_l)
  have LK := Lib.hid (len_dig keyG_l)
  have SV := Lib.hid (size_tok kG hDl)
  have LV := Lib.hid (len_tok Nums.zero kG zd32 hDl)
  have OV := Lib.hid (tcell_one kG D)
  have SE := Lib.hid (size_tok kE hEl)
  have LE := Lib.hid (len_tok Nums.zero kE zd32 hEl)
  have OE := Lib.hid (tcell_one kE E)
  have SF := Lib.hid (size_tok Nums.zero hFl)
  have LF' : Hid (zeroTk.length = (tcell Nums.zero F).length) := Lib.hid (len_tok Nums.zero Nums.zero zd32 hFl)
  have OF' := Lib.hid (tcell_one Nums.zero F)
  have SY := Lib.hid (size_tok Nums.zero zd32)
  have LY : Hid (zeroTk.length = (tcell Nums.zero zeroD).length) := Lib.hid rfl
  have OY := Lib.hid (tcell_one Nums.zero zeroD)
  have hml : (List.replicate 20 (255 : Int)).length = 20 := rfl
  have SM := Lib.hid (size_msg hml)
  have LM := Lib.hid (len_msg hml)
  have OM := Lib.hid (oneCell_ints (k := .u8) (List.replicate 20 255))
  have BK := build_zk
  have BM := build_zm
  have EM : ∀ W : World, (Op.equalIn 10000 36 (.agg ((List.replicate 20 (0 : Int)).map (Value.int .u8)).toArray) (.agg ((List.replicate 20 (0 : Int)).map (Value.int .u8)).toArray)).run Tryd.prog W = .ok true W := fun W => eq_same Tryd.underlying36 Tryd.underlying5 size_u8' (List.replicate 20 0) rfl W
  obtain ⟨Z, hZ⟩ : ∃ Z, kG.msg ++ D = Z := ⟨_, rfl⟩
  rw [hZ] at A3 hZl
  have HZ := Lib.hid hZl
  obtain ⟨C, hC⟩ : ∃ C, keyG.map (Value.int .u8) = C := ⟨_, rfl⟩
  have OK := Lib.hid (show C.toArray.all (·.oneCell') = true by rw [← hC]; exact oneCell_ints _)
  rw [hC] at G A1 A6 SK LK
  obtain ⟨C0, hC0⟩ : ∃ C, zeroD.map (Value.int .u8) = C := ⟨_, rfl⟩
  rw [hC0] at A2 A7 A8 BK
  obtain ⟨M0, hM0⟩ : ∃ C, (List.replicate 20 (0 : Int)).map (Value.int .u8) = C := ⟨_, rfl⟩
  rw [hM0] at A9 BM EM
  obtain ⟨M, hM⟩ : ∃ C, (List.replicate 20 (255 : Int)).map (Value.int .u8) = C := ⟨_, rfl⟩
  have m0 : M[0]? = some (.int .u8 255) := by rw [← hM]; rfl
  have m19 : M[19]? = some (.int .u8 255) := by rw [← hM]; rfl
  rw [hM] at A5 SM LM OM
  obtain ⟨V, hV⟩ : ∃ V, tcell kG D = V := ⟨_, rfl⟩
  have v0 : V[0]? = some (.int .u32 1) := by rw [← hV]; rfl
  have v1 : V[1]? = some (.int .u32 2) := by rw [← hV]; rfl
  have v2 : V[2]? = some (.int .u32 3) := by rw [← hV]; rfl
  have v3 : V[3]? = some (.int .u64 258) := by rw [← hV]; rfl
  rw [hV] at G A3 SV LV OV
  obtain ⟨U, hU⟩ : ∃ V, tcell kE E = V := ⟨_, rfl⟩
  rw [hU] at A1 A5 A6 SE LE OE
  obtain ⟨Q, hQ⟩ : ∃ V, tcell Nums.zero F = V := ⟨_, rfl⟩
  rw [hQ] at A2 A7 A8 A9 SF LF' OF'
  obtain ⟨Y, hY⟩ : ∃ V, zeroT = V := ⟨_, rfl⟩
  rw [hY] at A4
  rw [show tcell Nums.zero zeroD = Y from hY] at SY LY OY
  clear hD hDl hE hEl hF hFl hZ hZl hC hC0 hM0 hM hV hU hQ hY hml
  go_enter Tryd.func3, Tryd.ntmps3
  have hB0 := Below.refl w.heap.size w
  have hs0 := hB0.size
  go_wp2_with fail
  refine (G _ (Lib.hid (hL.out.below hB0))).mono ?_
  rintro e w1 ⟨rfl, hb⟩
  clear G
  have hB1 : Below w.heap.size w w1 := below_thru hB0 hb
  have hs1 := hB1.size
  clear hB0 hs0
  clear hb
  have d_K_0 := hs1
  go_upto_region 2 with (first
    | (refine wpList_store_box (cs := C) rfl _ _ _ rfl (Box.alloc (Box.newc (l := zero32) rfl rfl) _) rfl rfl SK.out LK.out OK.out ?_; intro W1_0 hW1_0)
    | (refine wpList_store_box (cs := V) rfl _ _ _ rfl (hW1_0.past _ _ (by omega) (Box.newc (l := zeroTk) rfl (by simp))) rfl rfl SV.out LV.out OV.out ?_; intro W1_1 hW1_1))
  have hN : Below w1.heap.size w1 W1_1 := (hW1_1.below _ _ (by omega) (hW1_0.below _ _ (by omega) (((Below.refl _ w1).alloc (Nat.le_refl _) _).alloc (by simp) _)))
  have x_K2 : Box W1_1 (w1.heap.size) (C) := (hW1_1.past _ _ (by omega) hW1_0.box)
  have x_T2 : Box W1_1 (w1.heap.size + 1) (V) := hW1_1.box
  have hB2 : Below w.heap.size w W1_1 := below_thru hB1 hN
  have hs2 := hB2.size
  clear hB1 hs1
  clear hN hW1_0 hW1_1
  go_wp2_with (refine wpList_load_boxw rfl _ _ rfl x_K2 rfl Tryd.underlying23 rfl SK.out ?_)
  refine (A1 _ (Lib.hid (hL.out.below hB2))).mono ?_
  rintro e w3 ⟨rfl, hb⟩
  clear A1
  have hB3 : Below w.heap.size w w3 := below_thru hB2 hb
  have hs3 := hB3.size
  have x_K3 : Box w3 (w1.heap.size) (C) := Box.below x_K2 hb
  have x_T3 : Box w3 (w1.heap.size + 1) (V) := Box.below x_T2 hb
  clear hB2 hs2 x_K2 x_T2
  clear hb
  have d_E_K := (x_K3).lt
  have d_E_T := (x_T3).lt
  have d_E_0 := hs3
  go_upto_region 3 with (refine wpList_store_box (cs := U) rfl _ _ _ rfl (Box.newc (l := zeroTk) rfl rfl) rfl rfl SE.out LE.out OE.out ?_; intro W3_0 hW3_0)
  have hN : Below w3.heap.size w3 W3_0 := (hW3_0.below _ _ (by omega) ((Below.refl _ w3).alloc (Nat.le_refl _) _))
  have x_E4 : Box W3_0 (w3.heap.size) (U) := hW3_0.box
  have hB4 : Below w.heap.size w W3_0 := below_thru hB3 hN
  have hs4 := hB4.size
  have x_K4 : Box W3_0 (w1.heap.size) (C) := Box.below x_K3 hN
  have x_T4 : Box W3_0 (w1.heap.size + 1) (V) := Box.below x_T3 hN
  clear hB3 hs3 x_K3 x_T3
  clear hN hW3_0
  go_wp2_with (refine wpList_buildw rfl 23 _ rfl (us := #[]) (by rfl) (BK _) ?_)
  refine (A2 _ (Lib.hid (hL.out.below hB4))).mono ?_
  rintro e w5 ⟨rfl, hb⟩
  clear A2
  have hB5 : Below w.heap.size w w5 := below_thru hB4 hb
  have hs5 := hB5.size
  have x_K5 : Box w5 (w1.heap.size) (C) := Box.below x_K4 hb
  have x_T5 : Box w5 (w1.heap.size + 1) (V) := Box.below x_T4 hb
  have x_E5 : Box w5 (w3.heap.size) (U) := Box.below x_E4 hb
  clear hB4 hs4 x_K4 x_T4 x_E4
  clear hb
  have d_Z_K := (x_K5).lt
  have d_Z_T := (x_T5).lt
  have d_Z_E := (x_E5).lt
  have d_Z_0 := hs5
  go_upto_region 4 with (refine wpList_store_box (cs := Q) rfl _ _ _ rfl (Box.newc (l := zeroTk) rfl rfl) rfl rfl SF.out LF'.out OF'.out ?_; intro W5_0 hW5_0)
  have hN : Below w5.heap.size w5 W5_0 := (hW5_0.below _ _ (by omega) ((Below.refl _ w5).alloc (Nat.le_refl _) _))
  have x_Z6 : Box W5_0 (w5.heap.size) (Q) := hW5_0.box
  have hB6 : Below w.heap.size w W5_0 := below_thru hB5 hN
  have hs6 := hB6.size
  have x_K6 : Box W5_0 (w1.heap.size) (C) := Box.below x_K5 hN
  have x_T6 : Box W5_0 (w1.heap.size + 1) (V) := Box.below x_T5 hN
  have x_E6 : Box W5_0 (w3.heap.size) (U) := Box.below x_E5 hN
  clear hB5 hs5 x_K5 x_T5 x_E5
  clear hN hW5_0
  go_wp2_with (refine wpList_load_boxw rfl _ _ rfl x_T6 rfl Tryd.underlying27 rfl SV.out ?_)
  refine (A3 _).mono ?_
  rintro e w7 ⟨vc, rfl, oc, hb⟩
  clear A3
  have hB7 : Below w.heap.size w w7 := below_thru hB6 hb
  have hs7 := hB7.size
  have x_K7 : Box w7 (w1.heap.size) (C) := Box.below x_K6 hb
  have x_T7 : Box w7 (w1.heap.size + 1) (V) := Box.below x_T6 hb
  have x_E7 : Box w7 (w3.heap.size) (U) := Box.below x_E6 hb
  have x_Z7 : Box w7 (w5.heap.size) (Q) := Box.below x_Z6 hb
  clear hB6 hs6 x_K6 x_T6 x_E6 x_Z6
  clear hb
  have qc := IsL.own oc rfl
  obtain ⟨ac, cc, ec, ic, _⟩ := id qc
  subst ec
  have ir1 := ic.room
  have ir2 := ic.most
  rw [HZ.out] at qc ir1 ⊢
  have q51 : (51 : Int) ≤ (cc : Int) := by omega
  have J_c7 : Hid (IsL w7 .u8 (.slice ac 52 cc) Z) := Lib.hid qc
  clear qc ic oc
  go_wp2_with fail
  refine (A4 _ _ _ (J_c7.out.taken (m := 51) (by have := HZ.out; omega)) (by rw [List.length_take, HZ.out]; decide)).mono ?_
  rintro e w8 ⟨rfl, hb⟩
  have hB8 : Below w.heap.size w w8 := below_thru hB7 hb
  have hs8 := hB8.size
  have x_K8 : Box w8 (w1.heap.size) (C) := Box.below x_K7 hb
  have x_T8 : Box w8 (w1.heap.size + 1) (V) := Box.below x_T7 hb
  have x_E8 : Box w8 (w3.heap.size) (U) := Box.below x_E7 hb
  have x_Z8 : Box w8 (w5.heap.size) (Q) := Box.below x_Z7 hb
  have J_c8 : Hid (IsL w8 .u8 (.slice ac 52 cc) Z) := Lib.hid (IsL.below J_c7.out hb)
  clear hB7 hs7 x_K7 x_T7 x_E7 x_Z7 J_c7
  clear hb
  have d_Y_K := (x_K8).lt
  have d_Y_T := (x_T8).lt
  have d_Y_E := (x_E8).lt
  have d_Y_Z := (x_Z8).lt
  have d_Y_0 := hs8
  go_upto_region 8 with (refine wpList_store_box (cs := Y) rfl _ _ _ rfl (Box.newc (l := zeroTk) rfl rfl) rfl rfl SY.out LY.out OY.out ?_; intro W8_0 hW8_0)
  have hN : Below w8.heap.size w8 W8_0 := (hW8_0.below _ _ (by omega) ((Below.refl _ w8).alloc (Nat.le_refl _) _))
  have x_Y9 : Box W8_0 (w8.heap.size) (Y) := hW8_0.box
  have hB9 : Below w.heap.size w W8_0 := below_thru hB8 hN
  have hs9 := hB9.size
  have x_K9 : Box W8_0 (w1.heap.size) (C) := Box.below x_K8 hN
  have x_T9 : Box W8_0 (w1.heap.size + 1) (V) := Box.below x_T8 hN
  have x_E9 : Box W8_0 (w3.heap.size) (U) := Box.below x_E8 hN
  have x_Z9 : Box W8_0 (w5.heap.size) (Q) := Box.below x_Z8 hN
  have J_c9 : Hid (IsL W8_0 .u8 (.slice ac 52 cc) Z) := Lib.hid (IsL.below J_c8.out hN)
  clear hB8 hs8 x_K8 x_T8 x_E8 x_Z8 J_c8
  clear hN hW8_0
  clear x_Y9
  go_wp2_with (first | (at_builtin; refine wpList_append_built rfl _ _ 31 rfl 5 ti (.int .u8 0) 1 .u8 Tryd.underlying31 hin hz0 hz1 hz2 rfl [] Z _ (.slice ac 52 cc) _ _ _ rfl rfl rfl rfl rfl rfl J_c9.out (by have := HZ.out; unfold maxLen; simp; omega) (by have := HZ.out; simp; omega) ?_; intro va U1 oa ha) | (at_builtin; refine hold8 ?_))
  refine Lib.hid ?_
  refine wpList_append_ints rfl _ _ 31 rfl W8_0.heap.size 5 ti (.int .u8 0) 1 .u8 Tryd.underlying31 hin hz0 hz1 hz2 rfl _ _ _ rfl (ownR_below oa ((Below.refl _ _).alloc (Nat.le_refl _) _)) _ 1 [0] rfl ((IsL.built [0] rfl rfl rfl rfl (by simp)).ints) (fun h => by cases h) (by have := HZ.out; unfold maxLen; simp; omega) (by have := HZ.out; simp; omega) (by have := ha.size; simp; omega) ?_
  intro vb U2 ob gb
  have hU : Below W8_0.heap.size W8_0 U2 := ((ha.alloc ha.size _).grown gb (by have := ha.size; simp; omega) (own_block oa))
  have ld := IsL.own (xs := ([] ++ Z) ++ [0]) (by rw [List.map_append]; exact ob) (by simp)
  clear oa ha ob gb
  clear J_c9
  have hB10 : Below w.heap.size w U2 := below_thru hB9 hU
  have hs10 := hB10.size
  have x_K10 : Box U2 (w1.heap.size) (C) := Box.below x_K9 hU
  have x_T10 : Box U2 (w1.heap.size + 1) (V) := Box.below x_T9 hU
  have x_E10 : Box U2 (w3.heap.size) (U) := Box.below x_E9 hU
  have x_Z10 : Box U2 (w5.heap.size) (Q) := Box.below x_Z9 hU
  clear hB9 hs9 x_K9 x_T9 x_E9 x_Z9
  clear hU
  go_wp2_with fail
  refine (A4 _ _ _ ld (by simp [HZ.out])).mono ?_
  rintro e w11 ⟨rfl, hb⟩
  clear ld
  have hB11 : Below w.heap.size w w11 := below_thru hB10 hb
  have hs11 := hB11.size
  have x_K11 : Box w11 (w1.heap.size) (C) := Box.below x_K10 hb
  have x_T11 : Box w11 (w1.heap.size + 1) (V) := Box.below x_T10 hb
  have x_E11 : Box w11 (w3.heap.size) (U) := Box.below x_E10 hb
  have x_Z11 : Box w11 (w5.heap.size) (Q) := Box.below x_Z10 hb
  clear hB10 hs10 x_K10 x_T10 x_E10 x_Z10
  clear hb
  have d_Y_K := (x_K11).lt
  have d_Y_T := (x_T11).lt
  have d_Y_E := (x_E11).lt
  have d_Y_Z := (x_Z11).lt
  have d_Y_0 := hs11
  go_upto_region 9 with (refine wpList_store_box (cs := Y) rfl _ _ _ rfl (Box.newc (l := zeroTk) rfl rfl) rfl rfl SY.out LY.out OY.out ?_; intro W11_0 hW11_0)
  have hN : Below w11.heap.size w11 W11_0 := (hW11_0.below _ _ (by omega) ((Below.refl _ w11).alloc (Nat.le_refl _) _))
  have x_Y12 : Box W11_0 (w11.heap.size) (Y) := hW11_0.box
  have hB12 : Below w.heap.size w W11_0 := below_thru hB11 hN
  have hs12 := hB12.size
  have x_K12 : Box W11_0 (w1.heap.size) (C) := Box.below x_K11 hN
  have x_T12 : Box W11_0 (w1.heap.size + 1) (V) := Box.below x_T11 hN
  have x_E12 : Box W11_0 (w3.heap.size) (U) := Box.below x_E11 hN
  have x_Z12 : Box W11_0 (w5.heap.size) (Q) := Box.below x_Z11 hN
  clear hB11 hs11 x_K11 x_T11 x_E11 x_Z11
  clear hN hW11_0
  clear x_Y12
  go_wp2_with fail
  refine (A4 _ _ _ IsL.none (by decide)).mono ?_
  rintro e w13 ⟨rfl, hb⟩
  clear A4
  have hB13 : Below w.heap.size w w13 := below_thru hB12 hb
  have hs13 := hB13.size
  have x_K13 : Box w13 (w1.heap.size) (C) := Box.below x_K12 hb
  have x_T13 : Box w13 (w1.heap.size + 1) (V) := Box.below x_T12 hb
  have x_E13 : Box w13 (w3.heap.size) (U) := Box.below x_E12 hb
  have x_Z13 : Box w13 (w5.heap.size) (Q) := Box.below x_Z12 hb
  clear hB12 hs12 x_K12 x_T12 x_E12 x_Z12
  clear hb
  have d_Y_K := (x_K13).lt
  have d_Y_T := (x_T13).lt
  have d_Y_E := (x_E13).lt
  have d_Y_Z := (x_Z13).lt
  have d_Y_0 := hs13
  go_upto_region 10 with (refine wpList_store_box (cs := Y) rfl _ _ _ rfl (Box.newc (l := zeroTk) rfl rfl) rfl rfl SY.out LY.out OY.out ?_; intro W13_0 hW13_0)
  have hN : Below w13.heap.size w13 W13_0 := (hW13_0.below _ _ (by omega) ((Below.refl _ w13).alloc (Nat.le_refl _) _))
  have x_Y14 : Box W13_0 (w13.heap.size) (Y) := hW13_0.box
  have hB14 : Below w.heap.size w W13_0 := below_thru hB13 hN
  have hs14 := hB14.size
  have x_K14 : Box W13_0 (w1.heap.size) (C) := Box.below x_K13 hN
  have x_T14 : Box W13_0 (w1.heap.size + 1) (V) := Box.below x_T13 hN
  have x_E14 : Box W13_0 (w3.heap.size) (U) := Box.below x_E13 hN
  have x_Z14 : Box W13_0 (w5.heap.size) (Q) := Box.below x_Z13 hN
  clear hB13 hs13 x_K13 x_T13 x_E13 x_Z13
  clear hN hW13_0
  clear x_Y14
  go_wp2_with (refine wpList_load_boxw rfl _ _ rfl x_E14 rfl Tryd.underlying27 rfl SE.out ?_)
  refine (A5 _).mono ?_
  rintro e w15 ⟨rfl, hb⟩
  clear A5
  have hB15 : Below w.heap.size w w15 := below_thru hB14 hb
  have hs15 := hB15.size
  have x_K15 : Box w15 (w1.heap.size) (C) := Box.below x_K14 hb
  have x_T15 : Box w15 (w1.heap.size + 1) (V) := Box.below x_T14 hb
  have x_E15 : Box w15 (w3.heap.size) (U) := Box.below x_E14 hb
  have x_Z15 : Box w15 (w5.heap.size) (Q) := Box.below x_Z14 hb
  clear hB14 hs14 x_K14 x_T14 x_E14 x_Z14
  clear hb
  have d_M_K := (x_K15).lt
  have d_M_T := (x_T15).lt
  have d_M_E := (x_E15).lt
  have d_M_Z := (x_Z15).lt
  have d_M_0 := hs15
  go_upto_region 11 with (refine wpList_store_box (cs := M) rfl _ _ _ rfl (Box.newc (l := zero20) rfl rfl) rfl rfl SM.out LM.out OM.out ?_; intro W15_0 hW15_0)
  have hN : Below w15.heap.size w15 W15_0 := (hW15_0.below _ _ (by omega) ((Below.refl _ w15).alloc (Nat.le_refl _) _))
  have x_M16 : Box W15_0 (w15.heap.size) (M) := hW15_0.box
  have hB16 : Below w.heap.size w W15_0 := below_thru hB15 hN
  have hs16 := hB16.size
  have x_K16 : Box W15_0 (w1.heap.size) (C) := Box.below x_K15 hN
  have x_T16 : Box W15_0 (w1.heap.size + 1) (V) := Box.below x_T15 hN
  have x_E16 : Box W15_0 (w3.heap.size) (U) := Box.below x_E15 hN
  have x_Z16 : Box W15_0 (w5.heap.size) (Q) := Box.below x_Z15 hN
  clear hB15 hs15 x_K15 x_T15 x_E15 x_Z15
  clear hN hW15_0
  simp only [List.append]
  have ct0 := (x_T16).c 0 _ v0
  have ct1 := (x_T16).c 1 _ v1
  have ct2 := (x_T16).c 2 _ v2
  have ct3 := (x_T16).c 3 _ v3
  have zt := (x_T16).lt
  go_wp2_with (first
    | (refine wpList_load_boxw rfl _ _ rfl x_K16 rfl Tryd.underlying23 rfl SK.out ?_)
    | (refine wpList_load_boxw rfl _ _ rfl x_E16 rfl Tryd.underlying27 rfl SE.out ?_))
  refine (A6 _ (Lib.hid (hL.out.below hB16))).mono ?_
  rintro e w17 ⟨rfl, hb⟩
  clear A6 ct0 ct1 ct2 ct3 zt
  have hB17 : Below w.heap.size w w17 := below_thru hB16 hb
  have hs17 := hB17.size
  have x_K17 : Box w17 (w1.heap.size) (C) := Box.below x_K16 hb
  have x_T17 : Box w17 (w1.heap.size + 1) (V) := Box.below x_T16 hb
  have x_E17 : Box w17 (w3.heap.size) (U) := Box.below x_E16 hb
  have x_Z17 : Box w17 (w5.heap.size) (Q) := Box.below x_Z16 hb
  have x_M17 : Box w17 (w15.heap.size) (M) := Box.below x_M16 hb
  clear hB16 hs16 x_K16 x_T16 x_E16 x_Z16 x_M16
  clear hb
  clear x_T17
  clear x_K17
  clear x_E17
  go_wp2_with (first
    | (refine wpList_load_boxw rfl _ _ rfl x_Z17 rfl Tryd.underlying27 rfl SF.out ?_)
    | (refine wpList_buildw rfl 23 _ rfl (us := #[]) (by rfl) (BK _) ?_))
  refine (A7 _ (Lib.hid (hL.out.below hB17))).mono ?_
  rintro e w18 ⟨rfl, hb⟩
  clear A7
  have hB18 : Below w.heap.size w w18 := below_thru hB17 hb
  have hs18 := hB18.size
  have x_Z18 : Box w18 (w5.heap.size) (Q) := Box.below x_Z17 hb
  have x_M18 : Box w18 (w15.heap.size) (M) := Box.below x_M17 hb
  clear hB17 hs17 x_Z17 x_M17
  clear hb
  go_wp2_with (first
    | (refine wpList_load_boxw rfl _ _ rfl x_Z18 rfl Tryd.underlying27 rfl SF.out ?_)
    | (refine wpList_buildw rfl 23 _ rfl (us := #[]) (by rfl) (BK _) ?_))
  refine (A8 _ (Lib.hid (hL.out.below hB18))).mono ?_
  rintro e w19 ⟨rfl, hb⟩
  clear A8
  have hB19 : Below w.heap.size w w19 := below_thru hB18 hb
  have hs19 := hB19.size
  have x_Z19 : Box w19 (w5.heap.size) (Q) := Box.below x_Z18 hb
  have x_M19 : Box w19 (w15.heap.size) (M) := Box.below x_M18 hb
  clear hB18 hs18 x_Z18 x_M18
  clear hb
  go_wp2_with (refine wpList_load_boxw rfl _ _ rfl x_Z19 rfl Tryd.underlying27 rfl SF.out ?_)
  refine (A9 _).mono ?_
  rintro e w20 ⟨rfl, hb⟩
  clear A9
  have hB20 : Below w.heap.size w w20 := below_thru hB19 hb
  have hs20 := hB20.size
  have x_Z20 : Box w20 (w5.heap.size) (Q) := Box.below x_Z19 hb
  have x_M20 : Box w20 (w15.heap.size) (M) := Box.below x_M19 hb
  clear hB19 hs19 x_Z19 x_M19
  clear hb
  clear x_Z20
  have g0 := (x_M20).c 0 _ m0
  have g19 := (x_M20).c 19 _ m19
  have gz := (x_M20).lt
  go_wp2_with (refine wpList_buildw rfl 36 _ rfl (us := #[]) (by rfl) (BM _) ?_)
  refine (alive8_is _ (Lib.hid (hL.out.below hB20))).mono ?_
  rintro e w21 ⟨rfl, hb⟩
  have hB21 : Below w.heap.size w w21 := below_thru hB20 hb
  have hs21 := hB21.size
  have x_M21 : Box w21 (w15.heap.size) (M) := Box.below x_M20 hb
  clear hB20 hs20 x_M20
  clear hb
  go_wp2_with fail
  go_returns
  exact ⟨rfl, hB21⟩

end Go.Proofs.YtlbbedknldmcpaaDoor
