/-
  KeysElse, walked.
-/
import Derived.Test.YtofjpeplgagihaaDoorRKyA
import Derived.Test.YtofjpeplgagihaaDoorAlive11
import Derived.Test.YtofjpeplgagihaaDoorGXR
import Derived.Test.YtofjpeplgagihaaDoorGO1
namespace Go.Proofs.YtofjpeplgagihaaDoor
open Go.RowKit

theorem rig11_cmd {S : List Int} {c : Cmd} (h : c.Ok) {b : Bool} (hb : b = true ↔ TruC S c) : RigOf S (Frm.cmd c) b 0 := Or.inl ⟨rfl, Frm.cmd_ok h, hb.trans (Tru.of2 (f := Frm.cmd c) rfl).symm⟩
theorem rig11_req {S : List Int} {r : Req} (h : r.k.t < 16) {b : Bool} (hb : b = true ↔ TruT S r.k r.g) : RigOf S (Frm.req r) b 0 := Or.inl ⟨rfl, Frm.req_ok h, hb.trans (Tru.of1 (f := Frm.req r) (show (1 : Int) ≠ 2 by decide)).symm⟩
def Req.moved (r : Req) (n m : Int) (hn : 0 ≤ n ∧ n ≤ 65535) (hm : 0 ≤ m ∧ m ≤ 4294967295) : Req := { r with ep := n, co := m, hep := hn, hco := hm }
theorem set_mid (x : Value) (L Z : List Value) (a b c d : Value) (h : L.length = 36) : x :: ((L ++ [c, d]) ++ Z) = ((x :: ((L ++ [a, b]) ++ Z)).set 37 c).set 38 d := by
  rw [List.set_cons_succ, List.set_cons_succ, List.append_assoc, List.append_assoc, List.set_append_right _ _ (by omega), h, List.set_append_right _ _ (by omega), h]
  rfl
theorem moved_set (r : Req) {n m : Int} (hn : 0 ≤ n ∧ n ≤ 65535) (hm : 0 ≤ m ∧ m ≤ 4294967295) : mcell (Frm.req (r.moved n m hn hm)) = ((mcell (Frm.req r)).set 37 (.int .u16 n)).set 38 (.int .u32 m) := set_mid _ _ _ _ _ _ _ (tcell_len r.k r.hg)
theorem size_u16n : (Tryd.prog.info? 42).map (·.size) = some 1 := by kernel_rfl

set_option maxRecDepth 100000 in
set_option maxHeartbeats 6400000 in
theorem else11_f (f : Frm) {S : List Int} {n m : Int} (hS : S.length = 32) (hSb : Byts S) (hn : 0 ≤ n ∧ n ≤ 65535) (hm : 0 ≤ m ∧ m ≤ 4294967295) (h : ¬ f.Ok) (w : World) (hL : Hid (LaidS w)) : Calls Tryd.prog 8 #[(.agg (S.map (Value.int .u8)).toArray), .agg (mcell f).toArray, .int .u16 n, .int .u32 m] w fun e w' => e = .returned (.bool true) ∧ Below w.heap.size w w' := by
  have CK := fun W => rchk_is f (q := 8) (Lib.hid (Or.inr ⟨rfl, h⟩)) W; have AL := fun (W : World) (h : Hid (LaidS W)) => alive11_is W h; have _ := hSb; have _ := hn; have _ := hm
  have SK := Lib.hid (size_dig hS); have LK := Lib.hid (len_dig hS); have OK := Lib.hid (oneCell_ints (k := .u8) S)
  have SF := Lib.hid (size_frm f); have LF := Lib.hid (len_frm Frm.zero f); have OF := Lib.hid (one_frm f)
  obtain ⟨F, hF⟩ : ∃ X, mcell f = X := ⟨_, rfl⟩
  rw [hF] at CK SF LF OF ⊢
  clear hF
  obtain ⟨C, hC⟩ : ∃ X, S.map (Value.int .u8) = X := ⟨_, rfl⟩
  rw [hC] at SK LK OK ⊢
  clear hC
  clear hS hSb hn hm h LK OK LF OF
  go_enter Tryd.func8, Tryd.ntmps8
  go_upto_region 1 with fail
  refine F_gen (F := fun W => Code.wp _ _ _ _ W) (J := fun W => Box W (w.heap.size) (C) ∧ Box W (w.heap.size + 1) (F) ∧ Below w.heap.size w W) (And.intro (Box.alloc (Box.newc rfl rfl) _) (And.intro (Box.newc rfl (by simp)) (by go_grown))) ?_
  intro w0 ⟨e_s, e_f, hB0⟩
  have hs0 := hB0.size
  have x_s0 := e_s; clear e_s
  have x_f0 := e_f; clear e_f
  go_wp2_with (refine wpList_load_box9 rfl _ _ rfl x_f0 rfl Tryd.underlying46 rfl SF.out ?_)
  refine (CK _).mono ?_
  rintro e w1 ⟨rfl, hb⟩
  have hB1 : Below w.heap.size w w1 := below_thru hB0 hb
  have hs1 := hB1.size
  have x_s1 : Box w1 (w.heap.size) (C) := Box.below x_s0 hb
  have x_f1 : Box w1 (w.heap.size + 1) (F) := Box.below x_f0 hb
  clear hB0 hs0 x_s0 x_f0
  clear hb
  go_wp2_with fail
  refine (AL _ (Lib.hid (hL.out.below hB1))).mono ?_
  rintro e w2 ⟨rfl, hb⟩
  have hB2 : Below w.heap.size w w2 := below_thru hB1 hb
  have hs2 := hB2.size
  have x_s2 : Box w2 (w.heap.size) (C) := Box.below x_s1 hb
  have x_f2 : Box w2 (w.heap.size + 1) (F) := Box.below x_f1 hb
  clear hB1 hs1 x_s1 x_f1
  clear hb
  go_wp2_with fail
  go_returns
  exact ⟨rfl, hB2⟩

set_option maxRecDepth 100000 in
set_option maxHeartbeats 6400000 in
theorem else11_t (r : Req) {S : List Int} {n m : Int} (hS : S.length = 32) (hSb : Byts S) (hn : 0 ≤ n ∧ n ≤ 65535) (hm : 0 ≤ m ∧ m ≤ 4294967295) (ht : r.k.t < 16) (h : HasKey r.k.t r.k.e) (h2 : minted S r.k = r.g) (w : World) (hL : Hid (LaidS w)) : Calls Tryd.prog 8 #[(.agg (S.map (Value.int .u8)).toArray), .agg (mcell (Frm.req r)).toArray, .int .u16 n, .int .u32 m] w fun e w' => e = .returned (.bool true) ∧ Below w.heap.size w w' := by
  have CK := fun W => rchk_is (Frm.req r) (q := 0) (Lib.hid (Or.inl ⟨rfl, Frm.req_ok ht⟩)) W; have AL := fun (W : World) (h : Hid (LaidS W)) => alive11_is W h
  have hb : true = true ↔ TruT S r.k r.g := ⟨fun _ => ⟨h, h2⟩, fun _ => rfl⟩
  have R1 := fun (W : World) (h1 : Hid (LaidS W)) => right_is (Frm.req r) hS hSb (rig11_req ht (b := true) hb) W h1
  have R2 := fun (W : World) (h1 : Hid (LaidS W)) => right_is (Frm.req (r.moved n m hn hm)) hS hSb (rig11_req (r := r.moved n m hn hm) ht (b := true) hb) W h1
  have TN := fun (W : World) (h1 : Hid (LaidS W)) => ten_is hS hSb r.k.ht r.k.he (Or.inl ⟨rfl, h, rfl⟩) W h1
  have B := fun (W : World) (h1 : Hid (LaidS W)) => verify_is r.k r.hg (q := 0) (tkeyL_len S r.k.t r.k.e) (tkeyL_byts S r.k.t r.k.e) (Lib.hid (ver11_t h2)) W h1
  have v0 : (mcell (Frm.req r))[0]? = some (.int .u8 1) := rfl; have N1 : Hid ((mcell (Frm.req r)).length = 86) := Lib.hid (mcell_len _); have N2 : Hid (((mcell (Frm.req r)).set 37 (.int .u16 n)).length = 86) := Lib.hid (by rw [List.length_set]; exact mcell_len _)
  have u1 : (mcell (Frm.req (r.moved n m hn hm)))[1]? = some (.int .u32 r.k.t) := rfl; have u3 : (mcell (Frm.req (r.moved n m hn hm)))[3]? = some (.int .u32 r.k.e) := rfl; have DT : Hid ((mcell (Frm.req (r.moved n m hn hm))).drop 1 = tcell r.k r.g ++ (.int .u16 n :: .int .u32 m :: ccell Cmd.zero)) := Lib.hid (mcell_t (Frm.req (r.moved n m hn hm)))
  have SK := Lib.hid (size_dig hS); have LK := Lib.hid (len_dig hS); have OK := Lib.hid (oneCell_ints (k := .u8) S)
  have SD := Lib.hid (size_dig (tkeyL_len S r.k.t r.k.e)); have LD := Lib.hid (len_dig (tkeyL_len S r.k.t r.k.e)); have OD := Lib.hid (oneCell_ints (k := .u8) (tkeyL S r.k.t r.k.e))
  have SF := Lib.hid (size_frm (Frm.req r)); have LF := Lib.hid (len_frm Frm.zero (Frm.req r)); have OF := Lib.hid (one_frm (Frm.req r))
  have SX := Lib.hid (size_frm (Frm.req (r.moved n m hn hm))); have LX := Lib.hid (len_frm Frm.zero (Frm.req (r.moved n m hn hm))); have OX := Lib.hid (one_frm (Frm.req (r.moved n m hn hm)))
  have SP := Lib.hid (size_tok r.k r.hg); have LP : Hid (zeroTk.length = (tcell r.k r.g).length) := Lib.hid (len_tok Nums.zero r.k zd32 r.hg); have OP := Lib.hid (tcell_one r.k r.g)
  have E1 := moved_set r hn hm
  obtain ⟨V1, hV1⟩ : ∃ X, (mcell (Frm.req r)).set 37 (.int .u16 n) = X := ⟨_, rfl⟩
  have E0 := Lib.hid hV1.symm
  rw [hV1] at E1 N2
  clear hV1
  obtain ⟨F2, hF2⟩ : ∃ X, mcell (Frm.req (r.moved n m hn hm)) = X := ⟨_, rfl⟩
  rw [hF2] at R2 u1 u3 DT SX LX OX E1
  clear hF2
  obtain ⟨F, hF⟩ : ∃ X, mcell (Frm.req r) = X := ⟨_, rfl⟩
  rw [hF] at CK R1 v0 N1 SF LF OF E0 ⊢
  clear hF
  replace E1 := Lib.hid E1
  obtain ⟨R, hR⟩ : ∃ X, (Value.int .u16 n :: .int .u32 m :: ccell Cmd.zero) = X := ⟨_, rfl⟩
  rw [hR] at DT
  clear hR
  obtain ⟨P, hP⟩ : ∃ X, tcell r.k r.g = X := ⟨_, rfl⟩
  rw [hP] at DT SP LP OP B
  clear hP
  obtain ⟨D, hD⟩ : ∃ X, (tkeyL S r.k.t r.k.e).map (Value.int .u8) = X := ⟨_, rfl⟩
  rw [hD] at TN SD LD OD B
  clear hD
  obtain ⟨C, hC⟩ : ∃ X, S.map (Value.int .u8) = X := ⟨_, rfl⟩
  rw [hC] at R1 R2 TN SK LK OK ⊢
  clear hC
  clear hS hSb ht h hb LK OK LF OF LX OX LP OP h2
  go_enter Tryd.func8, Tryd.ntmps8
  go_upto_region 1 with fail
  refine F_gen (F := fun W => Code.wp _ _ _ _ W) (J := fun W => Box W (w.heap.size) (C) ∧ Box W (w.heap.size + 1) (F) ∧ Below w.heap.size w W) (And.intro (Box.alloc (Box.newc rfl rfl) _) (And.intro (Box.newc rfl (by simp)) (by go_grown))) ?_
  intro w0 ⟨e_s, e_f, hB0⟩
  have hs0 := hB0.size
  have x_s0 := e_s; clear e_s
  have x_f0 := e_f; clear e_f
  go_wp2_with (refine wpList_load_box9 rfl _ _ rfl x_f0 rfl Tryd.underlying46 rfl SF.out ?_)
  refine (CK _).mono ?_
  rintro e w1 ⟨rfl, hb⟩
  have hB1 : Below w.heap.size w w1 := below_thru hB0 hb
  have hs1 := hB1.size
  have x_s1 : Box w1 (w.heap.size) (C) := Box.below x_s0 hb
  have x_f1 : Box w1 (w.heap.size + 1) (F) := Box.below x_f0 hb
  clear hB0 hs0 x_s0 x_f0
  clear hb
  go_wp2_with (first
    | (refine wpList_load_box9 rfl _ _ rfl x_s1 rfl Tryd.underlying23 rfl SK.out ?_)
    | (refine wpList_load_box9 rfl _ _ rfl x_f1 rfl Tryd.underlying46 rfl SF.out ?_))
  refine (R1 _ (Lib.hid (hL.out.below hB1))).mono ?_
  rintro e w2 ⟨rfl, hb⟩
  have hB2 : Below w.heap.size w w2 := below_thru hB1 hb
  have hs2 := hB2.size
  have x_s2 : Box w2 (w.heap.size) (C) := Box.below x_s1 hb
  have x_f2 : Box w2 (w.heap.size + 1) (F) := Box.below x_f1 hb
  clear hB1 hs1 x_s1 x_f1
  clear hb
  have ca := (x_f2).c 0 _ v0
  have za := (x_f2).lt
  go_upto_region 7 with fail
  clear ca za
  have lq_s := (x_s2).lt
  have lq_f := (x_f2).lt
  go_upto_region 8 with (first | (refine wpList_store_cell (k := 37) (ws := V1) (v := .int .u16 n) rfl _ _ _ rfl x_f2 rfl rfl rfl rfl (by first | exact size_u16n | exact size_u32n) (by rw [N1.out]; decide) E0.out ?_; intro S2_0 hS2_0) | (refine wpList_store_cell (k := 38) (ws := F2) (v := .int .u32 m) rfl _ _ _ rfl hS2_0.box rfl rfl rfl rfl (by first | exact size_u16n | exact size_u32n) (by rw [N2.out]; decide) E1.out ?_; intro S2_1 hS2_1))
  have x_s3 : Box S2_1 (w.heap.size) (C) := (hS2_1.past _ _ (by omega) (hS2_0.past _ _ (by omega) x_s2))
  have x_f3 := hS2_1.box
  have hB3 := (hS2_1.below _ _ (by omega) (hS2_0.below _ _ (by omega) hB2)); have hs3 := hB3.size
  clear x_s2 x_f2 hB2 hs2 lq_s lq_f
  clear hS2_0 hS2_1
  go_wp2_with (first
    | (refine wpList_load_box9 rfl _ _ rfl x_s3 rfl Tryd.underlying23 rfl SK.out ?_)
    | (refine wpList_load_box9 rfl _ _ rfl x_f3 rfl Tryd.underlying46 rfl SX.out ?_))
  refine (R2 _ (Lib.hid (hL.out.below hB3))).mono ?_
  rintro e w4 ⟨rfl, hb⟩
  have hB4 : Below w.heap.size w w4 := below_thru hB3 hb
  have hs4 := hB4.size
  have x_s4 : Box w4 (w.heap.size) (C) := Box.below x_s3 hb
  have x_f4 : Box w4 (w.heap.size + 1) (F2) := Box.below x_f3 hb
  clear hB3 hs3 x_s3 x_f3
  clear hb
  have cb := (x_f4).c 1 _ u1
  have zb := (x_f4).lt
  have cd := (x_f4).c 3 _ u3
  have zd := (x_f4).lt
  go_wp2_with (refine wpList_load_box9 rfl _ _ rfl x_s4 rfl Tryd.underlying23 rfl SK.out ?_)
  refine (TN _ (Lib.hid (hL.out.below hB4))).mono ?_
  rintro e w5 ⟨rfl, hb⟩
  clear cb zb cd zd
  have hB5 : Below w.heap.size w w5 := below_thru hB4 hb
  have hs5 := hB5.size
  have x_s5 : Box w5 (w.heap.size) (C) := Box.below x_s4 hb
  have x_f5 : Box w5 (w.heap.size + 1) (F2) := Box.below x_f4 hb
  clear hB4 hs4 x_s4 x_f4
  clear hb
  have d_k_s := (x_s5).lt
  have d_k_f := (x_f5).lt
  have d_k_0 := hs5
  go_upto_region 10 with (refine wpList_store_box (cs := D) rfl _ _ _ rfl (Box.newc (l := zero32) rfl rfl) rfl rfl SD.out LD.out OD.out ?_; intro W5_0 hW5_0)
  have hN : Below w5.heap.size w5 W5_0 := (hW5_0.below _ _ (by omega) ((Below.refl _ w5).alloc (Nat.le_refl _) _))
  have x_k6 : Box W5_0 (w5.heap.size) (D) := hW5_0.box
  have hB6 : Below w.heap.size w W5_0 := below_thru hB5 hN
  have hs6 := hB6.size
  have x_s6 : Box W5_0 (w.heap.size) (C) := Box.below x_s5 hN
  have x_f6 : Box W5_0 (w.heap.size + 1) (F2) := Box.below x_f5 hN
  clear hB5 hs5 x_s5 x_f5
  clear hN hW5_0
  go_wp2_with (first
    | (refine wpList_load_box9 rfl _ _ rfl x_k6 rfl Tryd.underlying23 rfl SD.out ?_)
    | (refine wpList_load_rangew rfl _ _ rfl (Box.rangeMid x_f6 1 (P) (R) DT.out) rfl Tryd.underlying30 rfl SP.out ?_))
  refine (B _ (Lib.hid (hL.out.below hB6))).mono ?_
  rintro e w7 ⟨rfl, hb⟩
  have hB7 : Below w.heap.size w w7 := below_thru hB6 hb
  have hs7 := hB7.size
  have x_s7 : Box w7 (w.heap.size) (C) := Box.below x_s6 hb
  have x_f7 : Box w7 (w.heap.size + 1) (F2) := Box.below x_f6 hb
  have x_k7 : Box w7 (w5.heap.size) (D) := Box.below x_k6 hb
  clear hB6 hs6 x_s6 x_f6 x_k6
  clear hb
  go_wp2_with fail
  refine (AL _ (Lib.hid (hL.out.below hB7))).mono ?_
  rintro e w8 ⟨rfl, hb⟩
  have hB8 : Below w.heap.size w w8 := below_thru hB7 hb
  have hs8 := hB8.size
  have x_s8 : Box w8 (w.heap.size) (C) := Box.below x_s7 hb
  have x_f8 : Box w8 (w.heap.size + 1) (F2) := Box.below x_f7 hb
  have x_k8 : Box w8 (w5.heap.size) (D) := Box.below x_k7 hb
  clear hB7 hs7 x_s7 x_f7 x_k7
  clear hb
  go_wp2_with fail
  go_returns
  exact ⟨rfl, hB8⟩

set_option maxRecDepth 100000 in
set_option maxHeartbeats 6400000 in
theorem else11_e (r : Req) {S : List Int} {n m : Int} (hS : S.length = 32) (hSb : Byts S) (hn : 0 ≤ n ∧ n ≤ 65535) (hm : 0 ≤ m ∧ m ≤ 4294967295) (ht : r.k.t < 16) (h : HasKey r.k.t r.k.e) (h2 : minted S r.k ≠ r.g) (w : World) (hL : Hid (LaidS w)) : Calls Tryd.prog 8 #[(.agg (S.map (Value.int .u8)).toArray), .agg (mcell (Frm.req r)).toArray, .int .u16 n, .int .u32 m] w fun e w' => e = .returned (.bool true) ∧ Below w.heap.size w w' := by
  have CK := fun W => rchk_is (Frm.req r) (q := 0) (Lib.hid (Or.inl ⟨rfl, Frm.req_ok ht⟩)) W; have AL := fun (W : World) (h : Hid (LaidS W)) => alive11_is W h
  have hb : false = true ↔ TruT S r.k r.g := ⟨fun g => (Bool.false_ne_true g).elim, fun g => absurd g.2 h2⟩
  have R1 := fun (W : World) (h1 : Hid (LaidS W)) => right_is (Frm.req r) hS hSb (rig11_req ht (b := false) hb) W h1
  have R2 := fun (W : World) (h1 : Hid (LaidS W)) => right_is (Frm.req (r.moved n m hn hm)) hS hSb (rig11_req (r := r.moved n m hn hm) ht (b := false) hb) W h1
  have TN := fun (W : World) (h1 : Hid (LaidS W)) => ten_is hS hSb r.k.ht r.k.he (Or.inl ⟨rfl, h, rfl⟩) W h1
  have B := fun (W : World) (h1 : Hid (LaidS W)) => verify_is r.k r.hg (q := 22) (tkeyL_len S r.k.t r.k.e) (tkeyL_byts S r.k.t r.k.e) (Lib.hid (ver11_f h2)) W h1
  have v0 : (mcell (Frm.req r))[0]? = some (.int .u8 1) := rfl; have N1 : Hid ((mcell (Frm.req r)).length = 86) := Lib.hid (mcell_len _); have N2 : Hid (((mcell (Frm.req r)).set 37 (.int .u16 n)).length = 86) := Lib.hid (by rw [List.length_set]; exact mcell_len _)
  have u1 : (mcell (Frm.req (r.moved n m hn hm)))[1]? = some (.int .u32 r.k.t) := rfl; have u3 : (mcell (Frm.req (r.moved n m hn hm)))[3]? = some (.int .u32 r.k.e) := rfl; have DT : Hid ((mcell (Frm.req (r.moved n m hn hm))).drop 1 = tcell r.k r.g ++ (.int .u16 n :: .int .u32 m :: ccell Cmd.zero)) := Lib.hid (mcell_t (Frm.req (r.moved n m hn hm)))
  have SK := Lib.hid (size_dig hS); have LK := Lib.hid (len_dig hS); have OK := Lib.hid (oneCell_ints (k := .u8) S)
  have SD := Lib.hid (size_dig (tkeyL_len S r.k.t r.k.e)); have LD := Lib.hid (len_dig (tkeyL_len S r.k.t r.k.e)); have OD := Lib.hid (oneCell_ints (k := .u8) (tkeyL S r.k.t r.k.e))
  have SF := Lib.hid (size_frm (Frm.req r)); have LF := Lib.hid (len_frm Frm.zero (Frm.req r)); have OF := Lib.hid (one_frm (Frm.req r))
  have SX := Lib.hid (size_frm (Frm.req (r.moved n m hn hm))); have LX := Lib.hid (len_frm Frm.zero (Frm.req (r.moved n m hn hm))); have OX := Lib.hid (one_frm (Frm.req (r.moved n m hn hm)))
  have SP := Lib.hid (size_tok r.k r.hg); have LP : Hid (zeroTk.length = (tcell r.k r.g).length) := Lib.hid (len_tok Nums.zero r.k zd32 r.hg); have OP := Lib.hid (tcell_one r.k r.g)
  have E1 := moved_set r hn hm
  obtain ⟨V1, hV1⟩ : ∃ X, (mcell (Frm.req r)).set 37 (.int .u16 n) = X := ⟨_, rfl⟩
  have E0 := Lib.hid hV1.symm
  rw [hV1] at E1 N2
  clear hV1
  obtain ⟨F2, hF2⟩ : ∃ X, mcell (Frm.req (r.moved n m hn hm)) = X := ⟨_, rfl⟩
  rw [hF2] at R2 u1 u3 DT SX LX OX E1
  clear hF2
  obtain ⟨F, hF⟩ : ∃ X, mcell (Frm.req r) = X := ⟨_, rfl⟩
  rw [hF] at CK R1 v0 N1 SF LF OF E0 ⊢
  clear hF
  replace E1 := Lib.hid E1
  obtain ⟨R, hR⟩ : ∃ X, (Value.int .u16 n :: .int .u32 m :: ccell Cmd.zero) = X := ⟨_, rfl⟩
  rw [hR] at DT
  clear hR
  obtain ⟨P, hP⟩ : ∃ X, tcell r.k r.g = X := ⟨_, rfl⟩
  rw [hP] at DT SP LP OP B
  clear hP
  obtain ⟨D, hD⟩ : ∃ X, (tkeyL S r.k.t r.k.e).map (Value.int .u8) = X := ⟨_, rfl⟩
  rw [hD] at TN SD LD OD B
  clear hD
  obtain ⟨C, hC⟩ : ∃ X, S.map (Value.int .u8) = X := ⟨_, rfl⟩
  rw [hC] at R1 R2 TN SK LK OK ⊢
  clear hC
  clear hS hSb ht h hb LK OK LF OF LX OX LP OP h2
  go_enter Tryd.func8, Tryd.ntmps8
  go_upto_region 1 with fail
  refine F_gen (F := fun W => Code.wp _ _ _ _ W) (J := fun W => Box W (w.heap.size) (C) ∧ Box W (w.heap.size + 1) (F) ∧ Below w.heap.size w W) (And.intro (Box.alloc (Box.newc rfl rfl) _) (And.intro (Box.newc rfl (by simp)) (by go_grown))) ?_
  intro w0 ⟨e_s, e_f, hB0⟩
  have hs0 := hB0.size
  have x_s0 := e_s; clear e_s
  have x_f0 := e_f; clear e_f
  go_wp2_with (refine wpList_load_box9 rfl _ _ rfl x_f0 rfl Tryd.underlying46 rfl SF.out ?_)
  refine (CK _).mono ?_
  rintro e w1 ⟨rfl, hb⟩
  have hB1 : Below w.heap.size w w1 := below_thru hB0 hb
  have hs1 := hB1.size
  have x_s1 : Box w1 (w.heap.size) (C) := Box.below x_s0 hb
  have x_f1 : Box w1 (w.heap.size + 1) (F) := Box.below x_f0 hb
  clear hB0 hs0 x_s0 x_f0
  clear hb
  go_wp2_with (first
    | (refine wpList_load_box9 rfl _ _ rfl x_s1 rfl Tryd.underlying23 rfl SK.out ?_)
    | (refine wpList_load_box9 rfl _ _ rfl x_f1 rfl Tryd.underlying46 rfl SF.out ?_))
  refine (R1 _ (Lib.hid (hL.out.below hB1))).mono ?_
  rintro e w2 ⟨rfl, hb⟩
  have hB2 : Below w.heap.size w w2 := below_thru hB1 hb
  have hs2 := hB2.size
  have x_s2 : Box w2 (w.heap.size) (C) := Box.below x_s1 hb
  have x_f2 : Box w2 (w.heap.size + 1) (F) := Box.below x_f1 hb
  clear hB1 hs1 x_s1 x_f1
  clear hb
  have ca := (x_f2).c 0 _ v0
  have za := (x_f2).lt
  go_upto_region 7 with fail
  clear ca za
  have lq_s := (x_s2).lt
  have lq_f := (x_f2).lt
  go_upto_region 8 with (first | (refine wpList_store_cell (k := 37) (ws := V1) (v := .int .u16 n) rfl _ _ _ rfl x_f2 rfl rfl rfl rfl (by first | exact size_u16n | exact size_u32n) (by rw [N1.out]; decide) E0.out ?_; intro S2_0 hS2_0) | (refine wpList_store_cell (k := 38) (ws := F2) (v := .int .u32 m) rfl _ _ _ rfl hS2_0.box rfl rfl rfl rfl (by first | exact size_u16n | exact size_u32n) (by rw [N2.out]; decide) E1.out ?_; intro S2_1 hS2_1))
  have x_s3 : Box S2_1 (w.heap.size) (C) := (hS2_1.past _ _ (by omega) (hS2_0.past _ _ (by omega) x_s2))
  have x_f3 := hS2_1.box
  have hB3 := (hS2_1.below _ _ (by omega) (hS2_0.below _ _ (by omega) hB2)); have hs3 := hB3.size
  clear x_s2 x_f2 hB2 hs2 lq_s lq_f
  clear hS2_0 hS2_1
  go_wp2_with (first
    | (refine wpList_load_box9 rfl _ _ rfl x_s3 rfl Tryd.underlying23 rfl SK.out ?_)
    | (refine wpList_load_box9 rfl _ _ rfl x_f3 rfl Tryd.underlying46 rfl SX.out ?_))
  refine (R2 _ (Lib.hid (hL.out.below hB3))).mono ?_
  rintro e w4 ⟨rfl, hb⟩
  have hB4 : Below w.heap.size w w4 := below_thru hB3 hb
  have hs4 := hB4.size
  have x_s4 : Box w4 (w.heap.size) (C) := Box.below x_s3 hb
  have x_f4 : Box w4 (w.heap.size + 1) (F2) := Box.below x_f3 hb
  clear hB3 hs3 x_s3 x_f3
  clear hb
  have cb := (x_f4).c 1 _ u1
  have zb := (x_f4).lt
  have cd := (x_f4).c 3 _ u3
  have zd := (x_f4).lt
  go_wp2_with (refine wpList_load_box9 rfl _ _ rfl x_s4 rfl Tryd.underlying23 rfl SK.out ?_)
  refine (TN _ (Lib.hid (hL.out.below hB4))).mono ?_
  rintro e w5 ⟨rfl, hb⟩
  clear cb zb cd zd
  have hB5 : Below w.heap.size w w5 := below_thru hB4 hb
  have hs5 := hB5.size
  have x_s5 : Box w5 (w.heap.size) (C) := Box.below x_s4 hb
  have x_f5 : Box w5 (w.heap.size + 1) (F2) := Box.below x_f4 hb
  clear hB4 hs4 x_s4 x_f4
  clear hb
  have d_k_s := (x_s5).lt
  have d_k_f := (x_f5).lt
  have d_k_0 := hs5
  go_upto_region 10 with (refine wpList_store_box (cs := D) rfl _ _ _ rfl (Box.newc (l := zero32) rfl rfl) rfl rfl SD.out LD.out OD.out ?_; intro W5_0 hW5_0)
  have hN : Below w5.heap.size w5 W5_0 := (hW5_0.below _ _ (by omega) ((Below.refl _ w5).alloc (Nat.le_refl _) _))
  have x_k6 : Box W5_0 (w5.heap.size) (D) := hW5_0.box
  have hB6 : Below w.heap.size w W5_0 := below_thru hB5 hN
  have hs6 := hB6.size
  have x_s6 : Box W5_0 (w.heap.size) (C) := Box.below x_s5 hN
  have x_f6 : Box W5_0 (w.heap.size + 1) (F2) := Box.below x_f5 hN
  clear hB5 hs5 x_s5 x_f5
  clear hN hW5_0
  go_wp2_with (first
    | (refine wpList_load_box9 rfl _ _ rfl x_k6 rfl Tryd.underlying23 rfl SD.out ?_)
    | (refine wpList_load_rangew rfl _ _ rfl (Box.rangeMid x_f6 1 (P) (R) DT.out) rfl Tryd.underlying30 rfl SP.out ?_))
  refine (B _ (Lib.hid (hL.out.below hB6))).mono ?_
  rintro e w7 ⟨rfl, hb⟩
  have hB7 : Below w.heap.size w w7 := below_thru hB6 hb
  have hs7 := hB7.size
  have x_s7 : Box w7 (w.heap.size) (C) := Box.below x_s6 hb
  have x_f7 : Box w7 (w.heap.size + 1) (F2) := Box.below x_f6 hb
  have x_k7 : Box w7 (w5.heap.size) (D) := Box.below x_k6 hb
  clear hB6 hs6 x_s6 x_f6 x_k6
  clear hb
  go_wp2_with fail
  refine (AL _ (Lib.hid (hL.out.below hB7))).mono ?_
  rintro e w8 ⟨rfl, hb⟩
  have hB8 : Below w.heap.size w w8 := below_thru hB7 hb
  have hs8 := hB8.size
  have x_s8 : Box w8 (w.heap.size) (C) := Box.below x_s7 hb
  have x_f8 : Box w8 (w.heap.size + 1) (F2) := Box.below x_f7 hb
  have x_k8 : Box w8 (w5.heap.size) (D) := Box.below x_k7 hb
  clear hB7 hs7 x_s7 x_f7 x_k7
  clear hb
  go_wp2_with fail
  go_returns
  exact ⟨rfl, hB8⟩

set_option maxRecDepth 100000 in
set_option maxHeartbeats 6400000 in
theorem else11_n (r : Req) {S : List Int} {n m : Int} (hS : S.length = 32) (hSb : Byts S) (hn : 0 ≤ n ∧ n ≤ 65535) (hm : 0 ≤ m ∧ m ≤ 4294967295) (ht : r.k.t < 16) (h : ¬ HasKey r.k.t r.k.e) (w : World) (hL : Hid (LaidS w)) : Calls Tryd.prog 8 #[(.agg (S.map (Value.int .u8)).toArray), .agg (mcell (Frm.req r)).toArray, .int .u16 n, .int .u32 m] w fun e w' => e = .returned (.bool true) ∧ Below w.heap.size w w' := by
  have CK := fun W => rchk_is (Frm.req r) (q := 0) (Lib.hid (Or.inl ⟨rfl, Frm.req_ok ht⟩)) W; have AL := fun (W : World) (h : Hid (LaidS W)) => alive11_is W h
  have hb : false = true ↔ TruT S r.k r.g := ⟨fun g => (Bool.false_ne_true g).elim, fun g => absurd g.1 h⟩
  have R1 := fun (W : World) (h1 : Hid (LaidS W)) => right_is (Frm.req r) hS hSb (rig11_req ht (b := false) hb) W h1
  have R2 := fun (W : World) (h1 : Hid (LaidS W)) => right_is (Frm.req (r.moved n m hn hm)) hS hSb (rig11_req (r := r.moved n m hn hm) ht (b := false) hb) W h1
  have TN := fun (W : World) (h1 : Hid (LaidS W)) => ten_is hS hSb r.k.ht r.k.he (Or.inr ⟨rfl, h, rfl⟩) W h1
  have v0 : (mcell (Frm.req r))[0]? = some (.int .u8 1) := rfl; have N1 : Hid ((mcell (Frm.req r)).length = 86) := Lib.hid (mcell_len _); have N2 : Hid (((mcell (Frm.req r)).set 37 (.int .u16 n)).length = 86) := Lib.hid (by rw [List.length_set]; exact mcell_len _)
  have u1 : (mcell (Frm.req (r.moved n m hn hm)))[1]? = some (.int .u32 r.k.t) := rfl; have u3 : (mcell (Frm.req (r.moved n m hn hm)))[3]? = some (.int .u32 r.k.e) := rfl; have DT : Hid ((mcell (Frm.req (r.moved n m hn hm))).drop 1 = tcell r.k r.g ++ (.int .u16 n :: .int .u32 m :: ccell Cmd.zero)) := Lib.hid (mcell_t (Frm.req (r.moved n m hn hm)))
  have SK := Lib.hid (size_dig hS); have LK := Lib.hid (len_dig hS); have OK := Lib.hid (oneCell_ints (k := .u8) S)
  have SD := Lib.hid (size_dig zd32); have LD := Lib.hid (len_dig zd32); have OD := Lib.hid (oneCell_ints (k := .u8) zeroD)
  have SF := Lib.hid (size_frm (Frm.req r)); have LF := Lib.hid (len_frm Frm.zero (Frm.req r)); have OF := Lib.hid (one_frm (Frm.req r))
  have SX := Lib.hid (size_frm (Frm.req (r.moved n m hn hm))); have LX := Lib.hid (len_frm Frm.zero (Frm.req (r.moved n m hn hm))); have OX := Lib.hid (one_frm (Frm.req (r.moved n m hn hm)))
  have SP := Lib.hid (size_tok r.k r.hg); have LP : Hid (zeroTk.length = (tcell r.k r.g).length) := Lib.hid (len_tok Nums.zero r.k zd32 r.hg); have OP := Lib.hid (tcell_one r.k r.g)
  have E1 := moved_set r hn hm
  obtain ⟨V1, hV1⟩ : ∃ X, (mcell (Frm.req r)).set 37 (.int .u16 n) = X := ⟨_, rfl⟩
  have E0 := Lib.hid hV1.symm
  rw [hV1] at E1 N2
  clear hV1
  obtain ⟨F2, hF2⟩ : ∃ X, mcell (Frm.req (r.moved n m hn hm)) = X := ⟨_, rfl⟩
  rw [hF2] at R2 u1 u3 DT SX LX OX E1
  clear hF2
  obtain ⟨F, hF⟩ : ∃ X, mcell (Frm.req r) = X := ⟨_, rfl⟩
  rw [hF] at CK R1 v0 N1 SF LF OF E0 ⊢
  clear hF
  replace E1 := Lib.hid E1
  obtain ⟨R, hR⟩ : ∃ X, (Value.int .u16 n :: .int .u32 m :: ccell Cmd.zero) = X := ⟨_, rfl⟩
  rw [hR] at DT
  clear hR
  obtain ⟨P, hP⟩ : ∃ X, tcell r.k r.g = X := ⟨_, rfl⟩
  rw [hP] at DT SP LP OP
  clear hP
  obtain ⟨D, hD⟩ : ∃ X, zeroD.map (Value.int .u8) = X := ⟨_, rfl⟩
  rw [hD] at TN SD LD OD
  clear hD
  obtain ⟨C, hC⟩ : ∃ X, S.map (Value.int .u8) = X := ⟨_, rfl⟩
  rw [hC] at R1 R2 TN SK LK OK ⊢
  clear hC
  clear hS hSb ht h hb LK OK LF OF LX OX LP OP
  go_enter Tryd.func8, Tryd.ntmps8
  go_upto_region 1 with fail
  refine F_gen (F := fun W => Code.wp _ _ _ _ W) (J := fun W => Box W (w.heap.size) (C) ∧ Box W (w.heap.size + 1) (F) ∧ Below w.heap.size w W) (And.intro (Box.alloc (Box.newc rfl rfl) _) (And.intro (Box.newc rfl (by simp)) (by go_grown))) ?_
  intro w0 ⟨e_s, e_f, hB0⟩
  have hs0 := hB0.size
  have x_s0 := e_s; clear e_s
  have x_f0 := e_f; clear e_f
  go_wp2_with (refine wpList_load_box9 rfl _ _ rfl x_f0 rfl Tryd.underlying46 rfl SF.out ?_)
  refine (CK _).mono ?_
  rintro e w1 ⟨rfl, hb⟩
  have hB1 : Below w.heap.size w w1 := below_thru hB0 hb
  have hs1 := hB1.size
  have x_s1 : Box w1 (w.heap.size) (C) := Box.below x_s0 hb
  have x_f1 : Box w1 (w.heap.size + 1) (F) := Box.below x_f0 hb
  clear hB0 hs0 x_s0 x_f0
  clear hb
  go_wp2_with (first
    | (refine wpList_load_box9 rfl _ _ rfl x_s1 rfl Tryd.underlying23 rfl SK.out ?_)
    | (refine wpList_load_box9 rfl _ _ rfl x_f1 rfl Tryd.underlying46 rfl SF.out ?_))
  refine (R1 _ (Lib.hid (hL.out.below hB1))).mono ?_
  rintro e w2 ⟨rfl, hb⟩
  have hB2 : Below w.heap.size w w2 := below_thru hB1 hb
  have hs2 := hB2.size
  have x_s2 : Box w2 (w.heap.size) (C) := Box.below x_s1 hb
  have x_f2 : Box w2 (w.heap.size + 1) (F) := Box.below x_f1 hb
  clear hB1 hs1 x_s1 x_f1
  clear hb
  have ca := (x_f2).c 0 _ v0
  have za := (x_f2).lt
  go_upto_region 7 with fail
  clear ca za
  have lq_s := (x_s2).lt
  have lq_f := (x_f2).lt
  go_upto_region 8 with (first | (refine wpList_store_cell (k := 37) (ws := V1) (v := .int .u16 n) rfl _ _ _ rfl x_f2 rfl rfl rfl rfl (by first | exact size_u16n | exact size_u32n) (by rw [N1.out]; decide) E0.out ?_; intro S2_0 hS2_0) | (refine wpList_store_cell (k := 38) (ws := F2) (v := .int .u32 m) rfl _ _ _ rfl hS2_0.box rfl rfl rfl rfl (by first | exact size_u16n | exact size_u32n) (by rw [N2.out]; decide) E1.out ?_; intro S2_1 hS2_1))
  have x_s3 : Box S2_1 (w.heap.size) (C) := (hS2_1.past _ _ (by omega) (hS2_0.past _ _ (by omega) x_s2))
  have x_f3 := hS2_1.box
  have hB3 := (hS2_1.below _ _ (by omega) (hS2_0.below _ _ (by omega) hB2)); have hs3 := hB3.size
  clear x_s2 x_f2 hB2 hs2 lq_s lq_f
  clear hS2_0 hS2_1
  go_wp2_with (first
    | (refine wpList_load_box9 rfl _ _ rfl x_s3 rfl Tryd.underlying23 rfl SK.out ?_)
    | (refine wpList_load_box9 rfl _ _ rfl x_f3 rfl Tryd.underlying46 rfl SX.out ?_))
  refine (R2 _ (Lib.hid (hL.out.below hB3))).mono ?_
  rintro e w4 ⟨rfl, hb⟩
  have hB4 : Below w.heap.size w w4 := below_thru hB3 hb
  have hs4 := hB4.size
  have x_s4 : Box w4 (w.heap.size) (C) := Box.below x_s3 hb
  have x_f4 : Box w4 (w.heap.size + 1) (F2) := Box.below x_f3 hb
  clear hB3 hs3 x_s3 x_f3
  clear hb
  have cb := (x_f4).c 1 _ u1
  have zb := (x_f4).lt
  have cd := (x_f4).c 3 _ u3
  have zd := (x_f4).lt
  go_wp2_with (refine wpList_load_box9 rfl _ _ rfl x_s4 rfl Tryd.underlying23 rfl SK.out ?_)
  refine (TN _ (Lib.hid (hL.out.below hB4))).mono ?_
  rintro e w5 ⟨rfl, hb⟩
  clear cb zb cd zd
  have hB5 : Below w.heap.size w w5 := below_thru hB4 hb
  have hs5 := hB5.size
  have x_s5 : Box w5 (w.heap.size) (C) := Box.below x_s4 hb
  have x_f5 : Box w5 (w.heap.size + 1) (F2) := Box.below x_f4 hb
  clear hB4 hs4 x_s4 x_f4
  clear hb
  have d_k_s := (x_s5).lt
  have d_k_f := (x_f5).lt
  have d_k_0 := hs5
  go_upto_region 10 with (refine wpList_store_box (cs := D) rfl _ _ _ rfl (Box.newc (l := zero32) rfl rfl) rfl rfl SD.out LD.out OD.out ?_; intro W5_0 hW5_0)
  have hN : Below w5.heap.size w5 W5_0 := (hW5_0.below _ _ (by omega) ((Below.refl _ w5).alloc (Nat.le_refl _) _))
  have x_k6 : Box W5_0 (w5.heap.size) (D) := hW5_0.box
  have hB6 : Below w.heap.size w W5_0 := below_thru hB5 hN
  have hs6 := hB6.size
  have x_s6 : Box W5_0 (w.heap.size) (C) := Box.below x_s5 hN
  have x_f6 : Box W5_0 (w.heap.size + 1) (F2) := Box.below x_f5 hN
  clear hB5 hs5 x_s5 x_f5
  clear hN hW5_0
  go_wp2_with fail
  refine (AL _ (Lib.hid (hL.out.below hB6))).mono ?_
  rintro e w7 ⟨rfl, hb⟩
  have hB7 : Below w.heap.size w w7 := below_thru hB6 hb
  have hs7 := hB7.size
  have x_s7 : Box w7 (w.heap.size) (C) := Box.below x_s6 hb
  have x_f7 : Box w7 (w.heap.size + 1) (F2) := Box.below x_f6 hb
  have x_k7 : Box w7 (w5.heap.size) (D) := Box.below x_k6 hb
  clear hB6 hs6 x_s6 x_f6 x_k6
  clear hb
  go_wp2_with fail
  go_returns
  exact ⟨rfl, hB7⟩

set_option maxRecDepth 100000 in
set_option maxHeartbeats 6400000 in
theorem else11_c (c : Cmd) {S : List Int} {n m : Int} (hS : S.length = 32) (hSb : Byts S) (hn : 0 ≤ n ∧ n ≤ 65535) (hm : 0 ≤ m ∧ m ≤ 4294967295) (h : c.Ok) (w : World) (hL : Hid (LaidS w)) : Calls Tryd.prog 8 #[(.agg (S.map (Value.int .u8)).toArray), .agg (mcell (Frm.cmd c)).toArray, .int .u16 n, .int .u32 m] w fun e w' => e = .returned (.bool true) ∧ Below w.heap.size w w' := by
  have _ := hn; have _ := hm
  obtain ⟨b, hb⟩ : ∃ b, sameB (cmdTag S c) c.g = b := ⟨_, rfl⟩
  have hb2 : b = true ↔ TruC S c := by rw [← hb]; unfold sameB; exact decide_eq_true_iff
  have CK := fun W => rchk_is (Frm.cmd c) (q := 0) (Lib.hid (Or.inl ⟨rfl, Frm.cmd_ok h⟩)) W; have AL := fun (W : World) (h : Hid (LaidS W)) => alive11_is W h
  have R1 := fun (W : World) (h1 : Hid (LaidS W)) => right_is (Frm.cmd c) hS hSb (rig11_cmd (b := b) h hb2) W h1
  have BE := fun W => bef_is c (xs := c.msg) (q := 0) (Or.inl ⟨rfl, h, rfl⟩) W; have CO := fun (W : World) (h1 : Hid (LaidS W)) => ord_is hS hSb W h1
  have IQ := Lib.hid (fun (W : World) (b : Nat) (h : Box W b ((ordL S).map (Value.int .u8))) => IsL.boxed 32 (ordL_len S) h (by omega))
  obtain ⟨E, hE⟩ : ∃ X, (cmdTag S c).map (Value.int .u8) = X := ⟨_, rfl⟩
  obtain ⟨G, hG⟩ : ∃ X, c.g.map (Value.int .u8) = X := ⟨_, rfl⟩
  have A : ∀ (W : World) (a b : Value), IsL W .u8 a (ordL S) → IsL W .u8 b c.msg → Hid (LaidS W) → Calls Tryd.prog 22 #[a, b] W fun e w' => e = .returned (.tuple #[.agg E.toArray, .int .i64 0]) ∧ Below W.heap.size W w' := by rw [← hE]; exact fun W a b h1 h2 h3 => tag_ok (D := cmdTag S c) W (Lib.hid h1) (Lib.hid h2) (by rw [ordL_len]; decide) (by rw [Cmd.msg_len (Cmd.ok_wd h)]; decide) (Lib.hid (ordL_byts S).l) (Lib.hid (Cmd.msg_byts c).l) (Lib.hid rfl) h3
  have M : ∀ W : World, Calls Tryd.prog 28 #[.agg E.toArray, .agg G.toArray] W fun e w' => e = .returned (.bool b) ∧ Below W.heap.size W w' := by rw [← hE, ← hG, ← hb]; exact fun W => mac_same W (cmdTag_len S c) c.hg
  have n1 : (b == b) = true := (by cases b <;> rfl)
  have v0 : (mcell (Frm.cmd c))[0]? = some (.int .u8 2) := rfl; have DC : Hid ((mcell (Frm.cmd c)).drop 39 = ccell c ++ []) := Lib.hid (mcell_c (Frm.cmd c)); have DG : Hid ((mcell (Frm.cmd c)).drop 54 = c.g.map (Value.int .u8) ++ []) := Lib.hid (mcell_g (Frm.cmd c))
  have SK := Lib.hid (size_dig hS); have LK := Lib.hid (len_dig hS); have OK := Lib.hid (oneCell_ints (k := .u8) S)
  have SQ := Lib.hid (size_dig (ordL_len S)); have LQ := Lib.hid (len_dig (ordL_len S)); have OQ := Lib.hid (oneCell_ints (k := .u8) (ordL S))
  have SE := Lib.hid (size_dig (cmdTag_len S c)); have LE := Lib.hid (len_dig (cmdTag_len S c)); have OE := Lib.hid (oneCell_ints (k := .u8) (cmdTag S c))
  have SG := Lib.hid (size_dig c.hg); have LG := Lib.hid (len_dig c.hg); have OG := Lib.hid (oneCell_ints (k := .u8) c.g)
  have SF := Lib.hid (size_frm (Frm.cmd c)); have LF := Lib.hid (len_frm Frm.zero (Frm.cmd c)); have OF := Lib.hid (one_frm (Frm.cmd c))
  have SP := Lib.hid (size_cmd c); have LP := Lib.hid (len_cmd Cmd.zero c); have OP := Lib.hid (one_cmd c)
  rw [hE] at SE LE OE; rw [hG] at SG LG OG DG
  obtain ⟨XM, hXM⟩ : ∃ X, c.msg = X := ⟨_, rfl⟩
  rw [hXM] at BE A
  clear hXM
  obtain ⟨Q, hQ⟩ : ∃ X, (ordL S).map (Value.int .u8) = X := ⟨_, rfl⟩
  rw [hQ] at CO IQ SQ LQ OQ
  clear hQ
  obtain ⟨P, hP⟩ : ∃ X, ccell c = X := ⟨_, rfl⟩
  rw [hP] at BE DC SP LP OP
  clear hP
  obtain ⟨F, hF⟩ : ∃ X, mcell (Frm.cmd c) = X := ⟨_, rfl⟩
  rw [hF] at CK R1 v0 DC DG SF LF OF ⊢
  clear hF
  obtain ⟨C, hC⟩ : ∃ X, S.map (Value.int .u8) = X := ⟨_, rfl⟩
  rw [hC] at R1 CO SK LK OK ⊢
  clear hC
  clear hS hSb hn hm h hb hb2 hE hG LK OK LF OF LP OP LG OG
  go_enter Tryd.func8, Tryd.ntmps8
  go_upto_region 1 with fail
  refine F_gen (F := fun W => Code.wp _ _ _ _ W) (J := fun W => Box W (w.heap.size) (C) ∧ Box W (w.heap.size + 1) (F) ∧ Below w.heap.size w W) (And.intro (Box.alloc (Box.newc rfl rfl) _) (And.intro (Box.newc rfl (by simp)) (by go_grown))) ?_
  intro w0 ⟨e_s, e_f, hB0⟩
  have hs0 := hB0.size
  have x_s0 := e_s; clear e_s
  have x_f0 := e_f; clear e_f
  go_wp2_with (refine wpList_load_box9 rfl _ _ rfl x_f0 rfl Tryd.underlying46 rfl SF.out ?_)
  refine (CK _).mono ?_
  rintro e w1 ⟨rfl, hb⟩
  have hB1 : Below w.heap.size w w1 := below_thru hB0 hb
  have hs1 := hB1.size
  have x_s1 : Box w1 (w.heap.size) (C) := Box.below x_s0 hb
  have x_f1 : Box w1 (w.heap.size + 1) (F) := Box.below x_f0 hb
  clear hB0 hs0 x_s0 x_f0
  clear hb
  go_wp2_with (first
    | (refine wpList_load_box9 rfl _ _ rfl x_s1 rfl Tryd.underlying23 rfl SK.out ?_)
    | (refine wpList_load_box9 rfl _ _ rfl x_f1 rfl Tryd.underlying46 rfl SF.out ?_))
  refine (R1 _ (Lib.hid (hL.out.below hB1))).mono ?_
  rintro e w2 ⟨rfl, hb⟩
  have hB2 : Below w.heap.size w w2 := below_thru hB1 hb
  have hs2 := hB2.size
  have x_s2 : Box w2 (w.heap.size) (C) := Box.below x_s1 hb
  have x_f2 : Box w2 (w.heap.size + 1) (F) := Box.below x_f1 hb
  clear hB1 hs1 x_s1 x_f1
  clear hb
  have ca := (x_f2).c 0 _ v0
  have za := (x_f2).lt
  go_wp2_with (refine wpList_load_rangew rfl _ _ rfl (Box.rangeMid x_f2 39 (P) ([]) DC.out) rfl Tryd.underlying37 rfl SP.out ?_)
  refine (BE _).mono ?_
  rintro e w3 ⟨vm, rfl, hv, hb⟩
  clear ca za
  have hB3 : Below w.heap.size w w3 := below_thru hB2 hb
  have hs3 := hB3.size
  have x_s3 : Box w3 (w.heap.size) (C) := Box.below x_s2 hb
  have x_f3 : Box w3 (w.heap.size + 1) (F) := Box.below x_f2 hb
  clear hB2 hs2 x_s2 x_f2
  clear hb
  have J_m3 : Hid (IsL w3 .u8 (vm) XM) := Lib.hid hv
  clear hv
  go_wp2_with (refine wpList_load_box9 rfl _ _ rfl x_s3 rfl Tryd.underlying23 rfl SK.out ?_)
  refine (CO _ (Lib.hid (hL.out.below hB3))).mono ?_
  rintro e w4 ⟨rfl, hb⟩
  have hB4 : Below w.heap.size w w4 := below_thru hB3 hb
  have hs4 := hB4.size
  have x_s4 : Box w4 (w.heap.size) (C) := Box.below x_s3 hb
  have x_f4 : Box w4 (w.heap.size + 1) (F) := Box.below x_f3 hb
  have J_m4 : Hid (IsL w4 .u8 (vm) XM) := Lib.hid (IsL.below J_m3.out hb)
  clear hB3 hs3 x_s3 x_f3 J_m3
  clear hb
  have d_k_s := (x_s4).lt
  have d_k_f := (x_f4).lt
  have d_k_0 := hs4
  go_upto_region 14 with (refine wpList_store_box (cs := Q) rfl _ _ _ rfl (Box.newc (l := zero32) rfl rfl) rfl rfl SQ.out LQ.out OQ.out ?_; intro W4_0 hW4_0)
  have hN : Below w4.heap.size w4 W4_0 := (hW4_0.below _ _ (by omega) ((Below.refl _ w4).alloc (Nat.le_refl _) _))
  have x_k5 : Box W4_0 (w4.heap.size) (Q) := hW4_0.box
  have hB5 : Below w.heap.size w W4_0 := below_thru hB4 hN
  have hs5 := hB5.size
  have x_s5 : Box W4_0 (w.heap.size) (C) := Box.below x_s4 hN
  have x_f5 : Box W4_0 (w.heap.size + 1) (F) := Box.below x_f4 hN
  have J_m5 : Hid (IsL W4_0 .u8 (vm) XM) := Lib.hid (IsL.below J_m4.out hN)
  clear hB4 hs4 x_s4 x_f4 J_m4
  clear hN hW4_0
  go_wp2_with fail
  refine (A _ _ _ (IQ.out _ _ x_k5) J_m5.out (Lib.hid (hL.out.below hB5))).mono ?_
  rintro e w6 ⟨rfl, hb⟩
  have hB6 : Below w.heap.size w w6 := below_thru hB5 hb
  have hs6 := hB6.size
  have x_s6 : Box w6 (w.heap.size) (C) := Box.below x_s5 hb
  have x_f6 : Box w6 (w.heap.size + 1) (F) := Box.below x_f5 hb
  have x_k6 : Box w6 (w4.heap.size) (Q) := Box.below x_k5 hb
  have J_m6 : Hid (IsL w6 .u8 (vm) XM) := Lib.hid (IsL.below J_m5.out hb)
  clear hB5 hs5 x_s5 x_f5 x_k5 J_m5
  clear hb
  clear J_m6
  have d_e_s := (x_s6).lt
  have d_e_f := (x_f6).lt
  have d_e_k := (x_k6).lt
  have d_e_0 := hs6
  go_upto_region 15 with (refine wpList_store_box (cs := E) rfl _ _ _ rfl (Box.newc (l := zero32) rfl rfl) rfl rfl SE.out LE.out OE.out ?_; intro W6_0 hW6_0)
  have hN : Below w6.heap.size w6 W6_0 := (hW6_0.below _ _ (by omega) ((Below.refl _ w6).alloc (Nat.le_refl _) _))
  have x_e7 : Box W6_0 (w6.heap.size) (E) := hW6_0.box
  have hB7 : Below w.heap.size w W6_0 := below_thru hB6 hN
  have hs7 := hB7.size
  have x_s7 : Box W6_0 (w.heap.size) (C) := Box.below x_s6 hN
  have x_f7 : Box W6_0 (w.heap.size + 1) (F) := Box.below x_f6 hN
  have x_k7 : Box W6_0 (w4.heap.size) (Q) := Box.below x_k6 hN
  clear hB6 hs6 x_s6 x_f6 x_k6
  clear hN hW6_0
  go_wp2_with (first
    | (refine wpList_load_box9 rfl _ _ rfl x_e7 rfl Tryd.underlying23 rfl SE.out ?_)
    | (refine wpList_load_rangew rfl _ _ rfl (Box.rangeMid x_f7 54 (G) ([]) DG.out) rfl Tryd.underlying23 rfl SG.out ?_))
  refine (M _).mono ?_
  rintro e w8 ⟨rfl, hb⟩
  have hB8 : Below w.heap.size w w8 := below_thru hB7 hb
  have hs8 := hB8.size
  have x_s8 : Box w8 (w.heap.size) (C) := Box.below x_s7 hb
  have x_f8 : Box w8 (w.heap.size + 1) (F) := Box.below x_f7 hb
  have x_k8 : Box w8 (w4.heap.size) (Q) := Box.below x_k7 hb
  have x_e8 : Box w8 (w6.heap.size) (E) := Box.below x_e7 hb
  clear hB7 hs7 x_s7 x_f7 x_k7 x_e7
  clear hb
  go_wp2_with fail
  refine (AL _ (Lib.hid (hL.out.below hB8))).mono ?_
  rintro e w9 ⟨rfl, hb⟩
  have hB9 : Below w.heap.size w w9 := below_thru hB8 hb
  have hs9 := hB9.size
  have x_s9 : Box w9 (w.heap.size) (C) := Box.below x_s8 hb
  have x_f9 : Box w9 (w.heap.size + 1) (F) := Box.below x_f8 hb
  have x_k9 : Box w9 (w4.heap.size) (Q) := Box.below x_k8 hb
  have x_e9 : Box w9 (w6.heap.size) (E) := Box.below x_e8 hb
  clear hB8 hs8 x_s8 x_f8 x_k8 x_e8
  clear hb
  go_wp2_with fail
  go_returns
  exact ⟨rfl, hB9⟩

theorem else11_is (f : Frm) {S : List Int} {n m : Int} (hS : S.length = 32) (hSb : Byts S) (hn : 0 ≤ n ∧ n ≤ 65535) (hm : 0 ≤ m ∧ m ≤ 4294967295) (w : World) (hL : Hid (LaidS w)) : Calls Tryd.prog 8 #[(.agg (S.map (Value.int .u8)).toArray), .agg (mcell f).toArray, .int .u16 n, .int .u32 m] w fun e w' => e = .returned (.bool true) ∧ Below w.heap.size w w' := by
  by_cases h : f.Ok
  · rcases Frm.ok_two h with ⟨e, h1, _⟩ | ⟨e, h1, _⟩
    · rw [e]
      by_cases hk : HasKey f.r.k.t f.r.k.e
      · by_cases h2 : minted S f.r.k = f.r.g
        · exact else11_t f.r hS hSb hn hm h1 hk h2 w hL
        · exact else11_e f.r hS hSb hn hm h1 hk h2 w hL
      · exact else11_n f.r hS hSb hn hm h1 hk w hL
    · rw [e]
      exact else11_c f.c hS hSb hn hm h1 w hL
  · exact else11_f f hS hSb hn hm h w hL

end Go.Proofs.YtofjpeplgagihaaDoor
