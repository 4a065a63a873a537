/-
  KeysSigns, walked.
-/
import Derived.Test.YtofjpeplgagihaaDoorRKyB
import Derived.Test.YtofjpeplgagihaaDoorGO1
namespace Go.Proofs.YtofjpeplgagihaaDoor
open Go.RowKit

set_option maxRecDepth 100000 in
set_option maxHeartbeats 6400000 in
theorem signs11_is (c : Cmd) (f : Frm) {S : List Int} (hS : S.length = 32) (hSb : Byts S) (w : World) (hL : Hid (LaidS w)) : Calls Tryd.prog 5 #[(.agg (S.map (Value.int .u8)).toArray), .agg (ccell c).toArray, .agg (mcell f).toArray] w fun e w' => e = .returned (.bool true) ∧ Below w.heap.size w w' := by
  obtain ⟨d, q, h1⟩ := SigOf.ex S c
  obtain ⟨b, q2, h2⟩ := RigOf.ex S f
  have A1 := fun (W : World) (h : Hid (LaidS W)) => sign_is c hS hSb h1 W h; have A2 := fun (W : World) => rsign_is c hS hSb h1 W; have A3 := fun (W : World) (h : Hid (LaidS W)) => right_is f hS hSb h2 W h; have A4 := fun (W : World) => rright_is f hS hSb h2 W
  have E1 := fun (W : World) => eqc_t (rfl : d = d) W
  have SK := Lib.hid (size_dig hS); have LK := Lib.hid (len_dig hS); have OK := Lib.hid (oneCell_ints (k := .u8) S)
  have SV := Lib.hid (size_cmd c); have LV := Lib.hid (len_cmd Cmd.zero c); have OV := Lib.hid (one_cmd c)
  have SF := Lib.hid (size_frm f); have LF := Lib.hid (len_frm Frm.zero f); have OF := Lib.hid (one_frm f)
  have SU := Lib.hid (size_cmd d); have LU := Lib.hid (len_cmd Cmd.zero d); have OU := Lib.hid (one_cmd d)
  have b1 : (q == q) = true := beq_self_eq_true q; have b2 : (q2 == q2) = true := beq_self_eq_true q2; have b3 : (b == b) = true := beq_self_eq_true b
  obtain ⟨U, hU⟩ : ∃ X, ccell d = X := ⟨_, rfl⟩
  rw [hU] at A1 A2 E1 SU LU OU
  clear hU
  obtain ⟨V, hV⟩ : ∃ X, ccell c = X := ⟨_, rfl⟩
  rw [hV] at A1 A2 SV LV OV ⊢
  clear hV
  obtain ⟨F, hF⟩ : ∃ X, mcell f = X := ⟨_, rfl⟩
  rw [hF] at A3 A4 SF LF OF ⊢
  clear hF
  obtain ⟨C, hC⟩ : ∃ X, S.map (Value.int .u8) = X := ⟨_, rfl⟩
  rw [hC] at A1 A2 A3 A4 SK ⊢
  clear hC
  clear hS hSb h1 h2 LV OV LF OF
  go_enter Tryd.func5, Tryd.ntmps5
  go_upto_region 1 with fail
  refine F_gen (F := fun W => Code.wp _ _ _ _ W) (J := fun W => Box W (w.heap.size) (C) ∧ Box W (w.heap.size + 1) (V) ∧ Box W (w.heap.size + 2) (F) ∧ Below w.heap.size w W) (And.intro (Box.alloc (Box.alloc (Box.newc rfl rfl) _) _) (And.intro (Box.alloc (Box.newc rfl (by simp)) _) (And.intro (Box.newc rfl (by simp)) (by go_grown)))) ?_
  intro w0 ⟨e_s, e_c, e_f, hB0⟩
  have hs0 := hB0.size
  have x_s0 := e_s; clear e_s
  have x_c0 := e_c; clear e_c
  have x_f0 := e_f; clear e_f
  go_wp2_with (first
    | (refine wpList_load_box9 rfl _ _ rfl x_s0 rfl Tryd.underlying23 rfl SK.out ?_)
    | (refine wpList_load_box9 rfl _ _ rfl x_c0 rfl Tryd.underlying37 rfl SV.out ?_))
  refine (A1 _ (Lib.hid (hL.out.below hB0))).mono ?_
  rintro e w1 ⟨rfl, hb⟩
  have hB1 : Below w.heap.size w w1 := below_thru hB0 hb
  have hs1 := hB1.size
  have x_s1 : Box w1 (w.heap.size) (C) := Box.below x_s0 hb
  have x_c1 : Box w1 (w.heap.size + 1) (V) := Box.below x_c0 hb
  have x_f1 : Box w1 (w.heap.size + 2) (F) := Box.below x_f0 hb
  clear hB0 hs0 x_s0 x_c0 x_f0
  clear hb
  have d_a_s := (x_s1).lt
  have d_a_c := (x_c1).lt
  have d_a_f := (x_f1).lt
  have d_a_0 := hs1
  go_upto_region 2 with (refine wpList_store_box (cs := U) rfl _ _ _ rfl (Box.newc (l := ccell Cmd.zero) rfl rfl) rfl rfl SU.out LU.out OU.out ?_; intro W1_0 hW1_0)
  have hN : Below w1.heap.size w1 W1_0 := (hW1_0.below _ _ (by omega) ((Below.refl _ w1).alloc (Nat.le_refl _) _))
  have x_a2 : Box W1_0 (w1.heap.size) (U) := hW1_0.box
  have hB2 : Below w.heap.size w W1_0 := below_thru hB1 hN
  have hs2 := hB2.size
  have x_s2 : Box W1_0 (w.heap.size) (C) := Box.below x_s1 hN
  have x_c2 : Box W1_0 (w.heap.size + 1) (V) := Box.below x_c1 hN
  have x_f2 : Box W1_0 (w.heap.size + 2) (F) := Box.below x_f1 hN
  clear hB1 hs1 x_s1 x_c1 x_f1
  clear hN hW1_0
  go_wp2_with (first
    | (refine wpList_load_box9 rfl _ _ rfl x_s2 rfl Tryd.underlying23 rfl SK.out ?_)
    | (refine wpList_load_box9 rfl _ _ rfl x_c2 rfl Tryd.underlying37 rfl SV.out ?_))
  refine (A2 _).mono ?_
  rintro e w3 ⟨rfl, hb⟩
  have hB3 : Below w.heap.size w w3 := below_thru hB2 hb
  have hs3 := hB3.size
  have x_s3 : Box w3 (w.heap.size) (C) := Box.below x_s2 hb
  have x_c3 : Box w3 (w.heap.size + 1) (V) := Box.below x_c2 hb
  have x_f3 : Box w3 (w.heap.size + 2) (F) := Box.below x_f2 hb
  have x_a3 : Box w3 (w1.heap.size) (U) := Box.below x_a2 hb
  clear hB2 hs2 x_s2 x_c2 x_f2 x_a2
  clear hb
  have d_b_s := (x_s3).lt
  have d_b_c := (x_c3).lt
  have d_b_f := (x_f3).lt
  have d_b_a := (x_a3).lt
  have d_b_0 := hs3
  go_upto_region 3 with (refine wpList_store_box (cs := U) rfl _ _ _ rfl (Box.newc (l := ccell Cmd.zero) rfl rfl) rfl rfl SU.out LU.out OU.out ?_; intro W3_0 hW3_0)
  have hN : Below w3.heap.size w3 W3_0 := (hW3_0.below _ _ (by omega) ((Below.refl _ w3).alloc (Nat.le_refl _) _))
  have x_b4 : Box W3_0 (w3.heap.size) (U) := hW3_0.box
  have hB4 : Below w.heap.size w W3_0 := below_thru hB3 hN
  have hs4 := hB4.size
  have x_s4 : Box W3_0 (w.heap.size) (C) := Box.below x_s3 hN
  have x_c4 : Box W3_0 (w.heap.size + 1) (V) := Box.below x_c3 hN
  have x_f4 : Box W3_0 (w.heap.size + 2) (F) := Box.below x_f3 hN
  have x_a4 : Box W3_0 (w1.heap.size) (U) := Box.below x_a3 hN
  clear hB3 hs3 x_s3 x_c3 x_f3 x_a3
  clear hN hW3_0
  go_wp2_with (first
    | (refine wpList_load_box9 rfl _ _ rfl x_s4 rfl Tryd.underlying23 rfl SK.out ?_)
    | (refine wpList_load_box9 rfl _ _ rfl x_f4 rfl Tryd.underlying46 rfl SF.out ?_))
  refine (A3 _ (Lib.hid (hL.out.below hB4))).mono ?_
  rintro e w5 ⟨rfl, hb⟩
  have hB5 : Below w.heap.size w w5 := below_thru hB4 hb
  have hs5 := hB5.size
  have x_s5 : Box w5 (w.heap.size) (C) := Box.below x_s4 hb
  have x_c5 : Box w5 (w.heap.size + 1) (V) := Box.below x_c4 hb
  have x_f5 : Box w5 (w.heap.size + 2) (F) := Box.below x_f4 hb
  have x_a5 : Box w5 (w1.heap.size) (U) := Box.below x_a4 hb
  have x_b5 : Box w5 (w3.heap.size) (U) := Box.below x_b4 hb
  clear hB4 hs4 x_s4 x_c4 x_f4 x_a4 x_b4
  clear hb
  go_wp2_with (first
    | (refine wpList_load_box9 rfl _ _ rfl x_s5 rfl Tryd.underlying23 rfl SK.out ?_)
    | (refine wpList_load_box9 rfl _ _ rfl x_f5 rfl Tryd.underlying46 rfl SF.out ?_))
  refine (A4 _).mono ?_
  rintro e w6 ⟨rfl, hb⟩
  have hB6 : Below w.heap.size w w6 := below_thru hB5 hb
  have hs6 := hB6.size
  have x_s6 : Box w6 (w.heap.size) (C) := Box.below x_s5 hb
  have x_c6 : Box w6 (w.heap.size + 1) (V) := Box.below x_c5 hb
  have x_f6 : Box w6 (w.heap.size + 2) (F) := Box.below x_f5 hb
  have x_a6 : Box w6 (w1.heap.size) (U) := Box.below x_a5 hb
  have x_b6 : Box w6 (w3.heap.size) (U) := Box.below x_b5 hb
  clear hB5 hs5 x_s5 x_c5 x_f5 x_a5 x_b5
  clear hb
  go_wp2_with (first | (refine wpList_load_box9 rfl _ _ rfl x_a6 rfl Tryd.underlying37 rfl SU.out ?_) | (refine wpList_load_box9 rfl _ _ rfl x_b6 rfl Tryd.underlying37 rfl SU.out ?_))
  go_returns
  exact ⟨rfl, hB6⟩

end Go.Proofs.YtofjpeplgagihaaDoor
