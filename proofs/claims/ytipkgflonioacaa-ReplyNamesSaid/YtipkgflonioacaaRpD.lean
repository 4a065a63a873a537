/-
  Package reply, walked: Write, Parse, Code.
-/
import Derived.Test.YtipkgflonioacaaRpC
namespace Go.Proofs.Ytipkgflonioacaa
open Go.RowKit

set_option maxRecDepth 100000 in
set_option maxHeartbeats 6400000 in
theorem pwr_f (r : Rep) (h : ¬ r.Ok) (w : World) : Calls Try.prog 10 #[.agg r.v.toArray] w (GivesOE [] 8 w) := by
  have SV := Lib.hid (size_rep r)
  have CK := fun W => chk_is r (q := 8) (Lib.hid (Or.inr ⟨rfl, h⟩)) W
  obtain ⟨V, hV⟩ : ∃ V, r.v = V := ⟨_, rfl⟩
  rw [hV] at SV CK ⊢
  clear hV h
  go_enter Try.func10, Try.ntmps10
  go_upto_region 1 with fail
  refine F_gen (F := fun W => Code.wp _ _ _ _ W) (J := fun W => Box W (w.heap.size) (V) ∧ Below w.heap.size w W) (And.intro (Box.newc rfl rfl) (by go_grown)) ?_
  intro w0 ⟨e_r, hB0⟩
  have hs0 := hB0.size
  have x_r0 := e_r; clear e_r
  go_wp2_with (refine wpList_load_box9 rfl _ _ rfl x_r0 rfl Try.underlying26 rfl SV.out ?_)
  refine (CK _).mono ?_
  rintro e w1 ⟨rfl, hb⟩
  have hB1 : Below w.heap.size w w1 := below_thru hB0 hb
  have hs1 := hB1.size
  have x_r1 : Box w1 (w.heap.size) (V) := Box.below x_r0 hb
  clear hB0 hs0 x_r0
  clear hb
  go_wp2_with fail
  go_returns
  exact ⟨_, rfl, ownU_nil, hB1⟩
set_option maxRecDepth 100000 in
set_option maxHeartbeats 6400000 in
theorem pwr_t (r : Rep) (h : r.Ok) (w : World) : Calls Try.prog 10 #[.agg r.v.toArray] w (GivesOE r.bs 0 w) := by
  have SV := Lib.hid (size_rep r)
  have CK := fun W => chk_is r (q := 0) (Lib.hid (Or.inl ⟨rfl, h⟩)) W
  have CR := fun W => rowof_is r W
  have HZ := fun W => zero_row W
  have SR := Lib.hid (row_size (xs := r.row) rfl); have OR := Lib.hid (flat_one r.row); have LR : Hid ((flatR LF (zrow 0)).length = (flatR LF r.row).length) := Lib.hid (by rw [flat_len (xs := r.row) rfl]; rfl)
  have WR := fun (W : World) (v : Value) (h : IsR LF W v r.row) => fwrite_own W h r.row_e
  rw [r.row_b] at WR
  have EF : Hid (flatR LF r.row = flatR LF r.row) := Lib.hid rfl
  obtain ⟨V, hV⟩ : ∃ V, r.v = V := ⟨_, rfl⟩
  rw [hV] at SV CK CR ⊢
  obtain ⟨Z, hZ⟩ : ∃ Z, flatR LF (zrow 0) = Z := ⟨_, rfl⟩
  rw [hZ] at HZ LR
  have hl : r.row.length = 13 := rfl
  obtain ⟨fs, hfs⟩ : ∃ f, r.row = f := ⟨_, rfl⟩
  rw [hfs] at CR SR OR LR WR EF hl
  obtain ⟨FR, hFR⟩ : ∃ F, flatR LF fs = F := ⟨_, rfl⟩
  rw [hFR] at CR SR OR LR EF
  have EF2 := Lib.hid hFR.symm
  have HL := Lib.hid hl.symm
  clear EF
  obtain ⟨X, hX⟩ : ∃ X, r.bs = X := ⟨_, rfl⟩
  rw [hX] at WR ⊢
  clear hV h hZ hfs hFR hl hX
  go_enter Try.func10, Try.ntmps10
  go_upto_region 1 with fail
  refine F_gen (F := fun W => Code.wp _ _ _ _ W) (J := fun W => Box W (w.heap.size) (V) ∧ Below w.heap.size w W) (And.intro (Box.newc rfl rfl) (by go_grown)) ?_
  intro w0 ⟨e_r, hB0⟩
  have hs0 := hB0.size
  have x_r0 := e_r; clear e_r
  go_wp2_with (refine wpList_load_box9 rfl _ _ rfl x_r0 rfl Try.underlying26 rfl SV.out ?_)
  refine (CK _).mono ?_
  rintro e w1 ⟨rfl, hb⟩
  have hB1 : Below w.heap.size w w1 := below_thru hB0 hb
  have hs1 := hB1.size
  have x_r1 : Box w1 (w.heap.size) (V) := Box.below x_r0 hb
  clear hB0 hs0 x_r0
  clear hb
  go_wp2_with (refine wpList_load_box9 rfl _ _ rfl x_r1 rfl Try.underlying26 rfl SV.out ?_)
  refine (CR _).mono ?_
  rintro e w2 ⟨rfl, hb⟩
  have hB2 : Below w.heap.size w w2 := below_thru hB1 hb
  have hs2 := hB2.size
  have x_r2 : Box w2 (w.heap.size) (V) := Box.below x_r1 hb
  clear hB1 hs1 x_r1
  clear hb
  have d_n_r := (x_r2).lt
  have d_n_0 := hs2
  go_upto_region 5 with (refine wpList_store_box (cs := FR) rfl _ _ _ rfl (Box.newc (l := Z) rfl rfl) rfl rfl SR.out LR.out OR.out ?_; intro W2_0 hW2_0)
  have hN : Below w2.heap.size w2 W2_0 := (hW2_0.below _ _ (by omega) ((Below.refl _ w2).alloc (Nat.le_refl _) _))
  have x_n3 : Box W2_0 (w2.heap.size) (FR) := hW2_0.box
  have hB3 : Below w.heap.size w W2_0 := below_thru hB2 hN
  have hs3 := hB3.size
  have x_r3 : Box W2_0 (w.heap.size) (V) := Box.below x_r2 hN
  clear hB2 hs2 x_r2
  clear hN hW2_0
  have HI : IsR LF W2_0 (.slice (some ⟨w2.heap.size, 0, none⟩) 13 13) fs := IsR.ofBox x_n3 EF2.out HL.out (by decide)
  go_wp2_with fail
  refine (WR _ _ HI).mono ?_
  rintro e w9 ⟨v, rfl, ho, hb⟩
  have ho := ownR_base ho hs3; have hB9 := below_thru hB3 hb
  go_wp2_with fail
  go_returns
  exact ⟨v, rfl, ho, hB9⟩
theorem pwr_is (r : Rep) {xs : List Int} {q : Int} (h : (q = 0 ∧ r.Ok ∧ xs = r.bs) ∨ (q = 8 ∧ ¬ r.Ok ∧ xs = [])) (w : World) : Calls Try.prog 10 #[.agg r.v.toArray] w (GivesOE xs q w) := by
  rcases h with ⟨rfl, h, rfl⟩ | ⟨rfl, h, rfl⟩
  · exact pwr_t r h w
  · exact pwr_f r h w

set_option maxRecDepth 100000 in
set_option maxHeartbeats 6400000 in
theorem par_t (r : Rep) (hok : r.Ok) {v : Value} (w : World) (h1 : IsL w .u8 v r.bs) : Calls Try.prog 11 #[v] w fun e w' => e = .returned (.tuple #[.agg r.v.toArray, .int .i64 0]) ∧ Below w.heap.size w w' := by
  obtain ⟨a0, c0, rfl, hr, _⟩ := id h1
  have i1 := hr.room
  have i2 := hr.most
  clear hr
  have CK := fun W => kinds_is W
  have RD := fun (W : World) (a b : Value) (h1 : IsL W .u8 a kinP) (h2 : IsL W .u8 b r.bs) => read_is W h1 h2 kinP_byts r.bs_byts
  rw [r.rea.1, r.rea.2] at RD
  have SK := Lib.hid (kin_size (xs := kinP) rfl); have OK := Lib.hid (oneCell_ints (k := .u8) kinP); have LK : Hid (((krow 0).map (Value.int .u8)).length = (kinP.map (Value.int .u8)).length) := Lib.hid rfl
  have SZ := Lib.hid (size_rep Rep.zero); have OZ := Lib.hid (one_rep Rep.zero); have BZ := fun W => build_rz W
  have RO := fun (W : World) (g c : Nat) (hc : 13 ≤ c) (hc2 : c ≤ 9223372036854775807) (hb : Box W g (flatR LF r.row)) => repof_is r hc hc2 W hb
  have CH := fun W => chk_is r (q := 0) (Lib.hid (Or.inl ⟨rfl, hok⟩)) W
  have SV := Lib.hid (size_rep r); have LV := Lib.hid (len_rep Rep.zero r); have OV := Lib.hid (one_rep r)
  have hl : r.row.length = 13 := rfl
  obtain ⟨fs, hfs⟩ : ∃ f, r.row = f := ⟨_, rfl⟩
  rw [hfs] at RD RO hl
  obtain ⟨FR, hFR⟩ : ∃ F, flatR LF fs = F := ⟨_, rfl⟩
  have HFR := Lib.hid hFR; have HL := Lib.hid hl
  rw [hFR] at RO
  obtain ⟨V, hV⟩ : ∃ V, r.v = V := ⟨_, rfl⟩
  rw [hV] at RO CH SV LV OV ⊢
  clear hfs hFR hV hl hok
  obtain ⟨bs, hbs⟩ : ∃ X, r.bs = X := ⟨_, rfl⟩
  rw [hbs] at RD h1 i1 ⊢
  clear hbs
  have HV := Lib.hid h1
  clear h1
  obtain ⟨KV, hKV⟩ : ∃ X, kinP.map (Value.int .u8) = X := ⟨_, rfl⟩
  have HKV := Lib.hid hKV
  rw [hKV] at CK SK OK LK
  clear hKV
  go_enter Try.func11, Try.ntmps11
  go_upto_region 1 with fail
  refine F_gen (F := fun W => Code.wp _ _ _ _ W) (J := fun W => Box W (w.heap.size) (Rep.zero.v) ∧ Below w.heap.size w W) (And.intro (Box.newc rfl rfl) (by go_grown)) ?_
  intro w0 ⟨e_r, hB0⟩
  have hs0 := hB0.size
  have x_r0 := e_r; clear e_r
  go_wp2_with fail
  refine (CK _).mono ?_
  rintro e w1 ⟨rfl, hb⟩
  have hB1 : Below w.heap.size w w1 := below_thru hB0 hb
  have hs1 := hB1.size
  have x_r1 : Box w1 (w.heap.size) (Rep.zero.v) := Box.below x_r0 hb
  clear hB0 hs0 x_r0
  clear hb
  have d_k_r := (x_r1).lt
  have d_k_0 := hs1
  go_upto_region 2 with (refine wpList_store_box (cs := KV) rfl _ _ _ rfl (Box.newc (l := (krow 0).map (Value.int .u8)) rfl rfl) rfl rfl SK.out LK.out OK.out ?_; intro W1_0 hW1_0)
  have hN : Below w1.heap.size w1 W1_0 := (hW1_0.below _ _ (by omega) ((Below.refl _ w1).alloc (Nat.le_refl _) _))
  have x_k2 : Box W1_0 (w1.heap.size) (KV) := hW1_0.box
  have hB2 : Below w.heap.size w W1_0 := below_thru hB1 hN
  have hs2 := hB2.size
  have x_r2 : Box W1_0 (w.heap.size) (Rep.zero.v) := Box.below x_r1 hN
  clear hB1 hs1 x_r1
  clear hN hW1_0
  have HI : IsL W1_0 .u8 (.slice (some ⟨w1.heap.size, 0, none⟩) 13 13) kinP := IsL.boxed 13 rfl (by rw [HKV.out]; exact x_k2) (by decide)
  go_wp2_with fail
  refine (RD _ _ _ HI (HV.out.below hB2)).mono ?_
  rintro e w4 ⟨vr, rfl, ho, hb⟩
  clear HI RD
  clear x_k2
  have lr := (x_r2).lt
  rw [HFR.out, HL.out] at ho
  obtain ⟨g, c, rfl, hg, hc, hc2, hx⟩ := own_box ho (by decide)
  have lg : w.heap.size < g := by omega
  clear ho lr hg
  have hB3 : Below w.heap.size w w4 := below_thru hB2 hb
  have hs3 := hB3.size
  have x_r3 : Box w4 (w.heap.size) (Rep.zero.v) := Box.below x_r2 hb
  clear hB2 hs2 x_r2
  clear hb
  have x_w3 : Box w4 (g) (FR) := hx
  clear hx
  have hc := Lib.hid hc; have hc2 := Lib.hid hc2
  go_wp2_with fail
  refine (RO _ g c hc.out hc2.out x_w3).mono ?_
  rintro e w4 ⟨rfl, hb⟩
  have hB4 : Below w.heap.size w w4 := below_thru hB3 hb
  have hs4 := hB4.size
  have x_r4 : Box w4 (w.heap.size) (Rep.zero.v) := Box.below x_r3 hb
  have x_w4 : Box w4 (g) (FR) := Box.below x_w3 hb
  clear hB3 hs3 x_r3 x_w3
  clear hb
  clear x_w4
  have d_a_r := (x_r4).lt
  have d_a_0 := hs4
  go_upto_region 6 with (refine wpList_store_box (cs := V) rfl _ _ _ rfl (Box.newc (l := Rep.zero.v) rfl rfl) rfl rfl SV.out LV.out OV.out ?_; intro W4_0 hW4_0)
  have hN : Below w4.heap.size w4 W4_0 := (hW4_0.below _ _ (by omega) ((Below.refl _ w4).alloc (Nat.le_refl _) _))
  have x_a5 : Box W4_0 (w4.heap.size) (V) := hW4_0.box
  have hB5 : Below w.heap.size w W4_0 := below_thru hB4 hN
  have hs5 := hB5.size
  have x_r5 : Box W4_0 (w.heap.size) (Rep.zero.v) := Box.below x_r4 hN
  clear hB4 hs4 x_r4
  clear hN hW4_0
  go_wp2_with (refine wpList_load_box9 rfl _ _ rfl x_a5 rfl Try.underlying26 rfl SV.out ?_)
  refine (CH _).mono ?_
  rintro e w6 ⟨rfl, hb⟩
  have hB6 : Below w.heap.size w w6 := below_thru hB5 hb
  have hs6 := hB6.size
  have x_r6 : Box w6 (w.heap.size) (Rep.zero.v) := Box.below x_r5 hb
  have x_a6 : Box w6 (w4.heap.size) (V) := Box.below x_a5 hb
  clear hB5 hs5 x_r5 x_a5
  clear hb
  have lq := (x_r6).lt
  go_wp2_with (first | (refine wpList_load_box9 rfl _ _ rfl x_a6 rfl Try.underlying26 rfl SV.out ?_) | (refine wpList_store_box (cs := V) rfl _ _ _ rfl x_r6 rfl rfl SV.out LV.out OV.out ?_; intro W99 hW99))
  exact bodyPost_ret (results_box2 Try.results11 hW99.box rfl rfl Try.underlying26 rfl SV.out) rfl ⟨rfl, hW99.below _ _ (by omega) hB6⟩
set_option maxRecDepth 100000 in
set_option maxHeartbeats 6400000 in
theorem par_f (r : Rep) (hok : ¬ r.Ok) {v : Value} (w : World) (h1 : IsL w .u8 v r.bs) : Calls Try.prog 11 #[v] w fun e w' => e = .returned (.tuple #[.agg Rep.zero.v.toArray, .int .i64 12]) ∧ Below w.heap.size w w' := by
  obtain ⟨a0, c0, rfl, hr, _⟩ := id h1
  have i1 := hr.room
  have i2 := hr.most
  clear hr
  have CK := fun W => kinds_is W
  have RD := fun (W : World) (a b : Value) (h1 : IsL W .u8 a kinP) (h2 : IsL W .u8 b r.bs) => read_is W h1 h2 kinP_byts r.bs_byts
  rw [r.rea.1, r.rea.2] at RD
  have SK := Lib.hid (kin_size (xs := kinP) rfl); have OK := Lib.hid (oneCell_ints (k := .u8) kinP); have LK : Hid (((krow 0).map (Value.int .u8)).length = (kinP.map (Value.int .u8)).length) := Lib.hid rfl
  have SZ := Lib.hid (size_rep Rep.zero); have OZ := Lib.hid (one_rep Rep.zero); have BZ := fun W => build_rz W
  have RO := fun (W : World) (g c : Nat) (hc : 13 ≤ c) (hc2 : c ≤ 9223372036854775807) (hb : Box W g (flatR LF r.row)) => repof_is r hc hc2 W hb
  have CH := fun W => chk_is r (q := 8) (Lib.hid (Or.inr ⟨rfl, hok⟩)) W
  have SV := Lib.hid (size_rep r); have LV := Lib.hid (len_rep Rep.zero r); have OV := Lib.hid (one_rep r)
  have hl : r.row.length = 13 := rfl
  obtain ⟨fs, hfs⟩ : ∃ f, r.row = f := ⟨_, rfl⟩
  rw [hfs] at RD RO hl
  obtain ⟨FR, hFR⟩ : ∃ F, flatR LF fs = F := ⟨_, rfl⟩
  have HFR := Lib.hid hFR; have HL := Lib.hid hl
  rw [hFR] at RO
  obtain ⟨V, hV⟩ : ∃ V, r.v = V := ⟨_, rfl⟩
  rw [hV] at RO CH SV LV OV
  clear hfs hFR hV hl hok
  obtain ⟨bs, hbs⟩ : ∃ X, r.bs = X := ⟨_, rfl⟩
  rw [hbs] at RD h1 i1 ⊢
  clear hbs
  have HV := Lib.hid h1
  clear h1
  obtain ⟨KV, hKV⟩ : ∃ X, kinP.map (Value.int .u8) = X := ⟨_, rfl⟩
  have HKV := Lib.hid hKV
  rw [hKV] at CK SK OK LK
  clear hKV
  go_enter Try.func11, Try.ntmps11
  go_upto_region 1 with fail
  refine F_gen (F := fun W => Code.wp _ _ _ _ W) (J := fun W => Box W (w.heap.size) (Rep.zero.v) ∧ Below w.heap.size w W) (And.intro (Box.newc rfl rfl) (by go_grown)) ?_
  intro w0 ⟨e_r, hB0⟩
  have hs0 := hB0.size
  have x_r0 := e_r; clear e_r
  go_wp2_with fail
  refine (CK _).mono ?_
  rintro e w1 ⟨rfl, hb⟩
  have hB1 : Below w.heap.size w w1 := below_thru hB0 hb
  have hs1 := hB1.size
  have x_r1 : Box w1 (w.heap.size) (Rep.zero.v) := Box.below x_r0 hb
  clear hB0 hs0 x_r0
  clear hb
  have d_k_r := (x_r1).lt
  have d_k_0 := hs1
  go_upto_region 2 with (refine wpList_store_box (cs := KV) rfl _ _ _ rfl (Box.newc (l := (krow 0).map (Value.int .u8)) rfl rfl) rfl rfl SK.out LK.out OK.out ?_; intro W1_0 hW1_0)
  have hN : Below w1.heap.size w1 W1_0 := (hW1_0.below _ _ (by omega) ((Below.refl _ w1).alloc (Nat.le_refl _) _))
  have x_k2 : Box W1_0 (w1.heap.size) (KV) := hW1_0.box
  have hB2 : Below w.heap.size w W1_0 := below_thru hB1 hN
  have hs2 := hB2.size
  have x_r2 : Box W1_0 (w.heap.size) (Rep.zero.v) := Box.below x_r1 hN
  clear hB1 hs1 x_r1
  clear hN hW1_0
  have HI : IsL W1_0 .u8 (.slice (some ⟨w1.heap.size, 0, none⟩) 13 13) kinP := IsL.boxed 13 rfl (by rw [HKV.out]; exact x_k2) (by decide)
  go_wp2_with fail
  refine (RD _ _ _ HI (HV.out.below hB2)).mono ?_
  rintro e w4 ⟨vr, rfl, ho, hb⟩
  clear HI RD
  clear x_k2
  have lr := (x_r2).lt
  rw [HFR.out, HL.out] at ho
  obtain ⟨g, c, rfl, hg, hc, hc2, hx⟩ := own_box ho (by decide)
  have lg : w.heap.size < g := by omega
  clear ho lr hg
  have hB3 : Below w.heap.size w w4 := below_thru hB2 hb
  have hs3 := hB3.size
  have x_r3 : Box w4 (w.heap.size) (Rep.zero.v) := Box.below x_r2 hb
  clear hB2 hs2 x_r2
  clear hb
  have x_w3 : Box w4 (g) (FR) := hx
  clear hx
  have hc := Lib.hid hc; have hc2 := Lib.hid hc2
  go_wp2_with fail
  refine (RO _ g c hc.out hc2.out x_w3).mono ?_
  rintro e w4 ⟨rfl, hb⟩
  have hB4 : Below w.heap.size w w4 := below_thru hB3 hb
  have hs4 := hB4.size
  have x_r4 : Box w4 (w.heap.size) (Rep.zero.v) := Box.below x_r3 hb
  have x_w4 : Box w4 (g) (FR) := Box.below x_w3 hb
  clear hB3 hs3 x_r3 x_w3
  clear hb
  clear x_w4
  have d_a_r := (x_r4).lt
  have d_a_0 := hs4
  go_upto_region 6 with (refine wpList_store_box (cs := V) rfl _ _ _ rfl (Box.newc (l := Rep.zero.v) rfl rfl) rfl rfl SV.out LV.out OV.out ?_; intro W4_0 hW4_0)
  have hN : Below w4.heap.size w4 W4_0 := (hW4_0.below _ _ (by omega) ((Below.refl _ w4).alloc (Nat.le_refl _) _))
  have x_a5 : Box W4_0 (w4.heap.size) (V) := hW4_0.box
  have hB5 : Below w.heap.size w W4_0 := below_thru hB4 hN
  have hs5 := hB5.size
  have x_r5 : Box W4_0 (w.heap.size) (Rep.zero.v) := Box.below x_r4 hN
  clear hB4 hs4 x_r4
  clear hN hW4_0
  go_wp2_with (refine wpList_load_box9 rfl _ _ rfl x_a5 rfl Try.underlying26 rfl SV.out ?_)
  refine (CH _).mono ?_
  rintro e w6 ⟨rfl, hb⟩
  have hB6 : Below w.heap.size w w6 := below_thru hB5 hb
  have hs6 := hB6.size
  have x_r6 : Box w6 (w.heap.size) (Rep.zero.v) := Box.below x_r5 hb
  have x_a6 : Box w6 (w4.heap.size) (V) := Box.below x_a5 hb
  clear hB5 hs5 x_r5 x_a5
  clear hb
  have lq := (x_r6).lt
  go_wp2_with (first | (refine wpList_build9 rfl 26 _ rfl (us := #[]) (by rfl) (BZ _) ?_) | (refine wpList_store_box (cs := Rep.zero.v) rfl _ _ _ rfl x_r6 rfl rfl SZ.out (len_rep Rep.zero Rep.zero) OZ.out ?_; intro W99 hW99))
  exact bodyPost_ret (results_box2 Try.results11 hW99.box rfl rfl Try.underlying26 rfl SZ.out) rfl ⟨rfl, hW99.below _ _ (by omega) hB6⟩
set_option maxRecDepth 100000 in
set_option maxHeartbeats 6400000 in
theorem par_n {bs : List Int} (hb : Byts bs) (he : reaE kinP bs = 12) (hf : reaF kinP bs = []) {v : Value} (w : World) (h1 : IsL w .u8 v bs) : Calls Try.prog 11 #[v] w fun e w' => e = .returned (.tuple #[.agg Rep.zero.v.toArray, .int .i64 12]) ∧ Below w.heap.size w w' := by
  obtain ⟨a0, c0, rfl, hr, _⟩ := id h1
  have i1 := hr.room
  have i2 := hr.most
  clear hr
  have CK := fun W => kinds_is W
  have RD := fun (W : World) (a b : Value) (h1 : IsL W .u8 a kinP) (h2 : IsL W .u8 b bs) => read_is W h1 h2 kinP_byts hb
  rw [he, hf] at RD
  have SK := Lib.hid (kin_size (xs := kinP) rfl); have OK := Lib.hid (oneCell_ints (k := .u8) kinP); have LK : Hid (((krow 0).map (Value.int .u8)).length = (kinP.map (Value.int .u8)).length) := Lib.hid rfl
  have SZ := Lib.hid (size_rep Rep.zero); have OZ := Lib.hid (one_rep Rep.zero); have BZ := fun W => build_rz W
  have HV := Lib.hid h1
  clear h1 he hf hb
  obtain ⟨KV, hKV⟩ : ∃ X, kinP.map (Value.int .u8) = X := ⟨_, rfl⟩
  have HKV := Lib.hid hKV
  rw [hKV] at CK SK OK LK
  clear hKV
  go_enter Try.func11, Try.ntmps11
  go_upto_region 1 with fail
  refine F_gen (F := fun W => Code.wp _ _ _ _ W) (J := fun W => Box W (w.heap.size) (Rep.zero.v) ∧ Below w.heap.size w W) (And.intro (Box.newc rfl rfl) (by go_grown)) ?_
  intro w0 ⟨e_r, hB0⟩
  have hs0 := hB0.size
  have x_r0 := e_r; clear e_r
  go_wp2_with fail
  refine (CK _).mono ?_
  rintro e w1 ⟨rfl, hb⟩
  have hB1 : Below w.heap.size w w1 := below_thru hB0 hb
  have hs1 := hB1.size
  have x_r1 : Box w1 (w.heap.size) (Rep.zero.v) := Box.below x_r0 hb
  clear hB0 hs0 x_r0
  clear hb
  have d_k_r := (x_r1).lt
  have d_k_0 := hs1
  go_upto_region 2 with (refine wpList_store_box (cs := KV) rfl _ _ _ rfl (Box.newc (l := (krow 0).map (Value.int .u8)) rfl rfl) rfl rfl SK.out LK.out OK.out ?_; intro W1_0 hW1_0)
  have hN : Below w1.heap.size w1 W1_0 := (hW1_0.below _ _ (by omega) ((Below.refl _ w1).alloc (Nat.le_refl _) _))
  have x_k2 : Box W1_0 (w1.heap.size) (KV) := hW1_0.box
  have hB2 : Below w.heap.size w W1_0 := below_thru hB1 hN
  have hs2 := hB2.size
  have x_r2 : Box W1_0 (w.heap.size) (Rep.zero.v) := Box.below x_r1 hN
  clear hB1 hs1 x_r1
  clear hN hW1_0
  have HI : IsL W1_0 .u8 (.slice (some ⟨w1.heap.size, 0, none⟩) 13 13) kinP := IsL.boxed 13 rfl (by rw [HKV.out]; exact x_k2) (by decide)
  go_wp2_with fail
  refine (RD _ _ _ HI (HV.out.below hB2)).mono ?_
  rintro e w4 ⟨vr, rfl, ho, hb⟩
  clear HI RD
  clear x_k2
  clear ho
  have hB3 : Below w.heap.size w w4 := below_thru hB2 hb
  have hs3 := hB3.size
  have x_r3 : Box w4 (w.heap.size) (Rep.zero.v) := Box.below x_r2 hb
  clear hB2 hs2 x_r2
  clear hb
  have lq := (x_r3).lt
  go_wp2_with (first | (refine wpList_build9 rfl 26 _ rfl (us := #[]) (by rfl) (BZ _) ?_) | (refine wpList_store_box (cs := Rep.zero.v) rfl _ _ _ rfl x_r3 rfl rfl SZ.out (len_rep Rep.zero Rep.zero) OZ.out ?_; intro W99 hW99))
  exact bodyPost_ret (results_box2 Try.results11 hW99.box rfl rfl Try.underlying26 rfl SZ.out) rfl ⟨rfl, hW99.below _ _ (by omega) hB3⟩
/-- f answers to these bytes. -/
def PReads (f : FuncId) (bs : List Int) (G : Rep) (q : Int) : Prop := ∀ (W : World) (v : Value), IsL W .u8 v bs → Calls Try.prog f #[v] W fun e w' => e = .returned (.tuple #[.agg G.v.toArray, .int .i64 q]) ∧ Below W.heap.size W w'
theorem pparse_is (bs : List Int) (hb : Byts bs) : ∃ (G : Rep) (q : Int), PParse bs G q ∧ PReads 11 bs G q := by
  rcases rea_two bs hb with ⟨r, rfl, _, _⟩ | ⟨he, hf, hn⟩
  · by_cases hok : r.Ok
    · exact ⟨r, 0, PParse.self hok, fun W _ h => par_t r hok W h⟩
    · exact ⟨Rep.zero, 12, (PParse.of r).2 hok, fun W _ h => par_f r hok W h⟩
  · exact ⟨Rep.zero, 12, Or.inr ⟨rfl, rfl, fun F _ => hn F⟩, fun W _ h => par_n hb he hf W h⟩
theorem pparse_self {r : Rep} (h : r.Ok) : PReads 11 r.bs r 0 := fun W _ h1 => par_t r h W h1
theorem pparse_of {bs : List Int} (hb : Byts bs) {G : Rep} {q : Int} (h : PParse bs G q) : PReads 11 bs G q := by
  obtain ⟨H, p, h2, P⟩ := pparse_is bs hb
  obtain ⟨rfl, rfl⟩ := h.uniq h2
  exact P

/-- What Code answers. -/
def CodeOf (n : Int) (G : Rep) (q : Int) : Prop := (q = 0 ∧ Sole n ∧ ∃ h, G = Rep.lone n h) ∨ (q = 2 ∧ ¬ Sole n ∧ G = Rep.zero)
theorem CodeOf.two (n : Int) (h : 0 ≤ n ∧ n ≤ 255) : ∃ G q, CodeOf n G q := by
  by_cases hs : Sole n
  · exact ⟨_, _, Or.inl ⟨rfl, hs, h, rfl⟩⟩
  · exact ⟨_, _, Or.inr ⟨rfl, hs, rfl⟩⟩
theorem CodeOf.uniq {n : Int} {G H : Rep} {p q : Int} (h1 : CodeOf n G p) (h2 : CodeOf n H q) : G = H ∧ p = q := by
  rcases h1 with ⟨rfl, h1, _, rfl⟩ | ⟨rfl, h1, rfl⟩ <;> rcases h2 with ⟨rfl, h2, _, rfl⟩ | ⟨rfl, h2, rfl⟩
  · exact ⟨rfl, rfl⟩
  · exact absurd h1 h2
  · exact absurd h2 h1
  · exact ⟨rfl, rfl⟩
set_option maxRecDepth 100000 in
set_option maxHeartbeats 6400000 in
theorem code_t (n : Int) (hn : 0 ≤ n ∧ n ≤ 255) (hs : Sole n) (w : World) : Calls Try.prog 9 #[.int .u8 n] w fun e w' => e = .returned (.tuple #[.agg (Rep.lone n hn).v.toArray, .int .i64 0]) ∧ Below w.heap.size w w' := by
  have SZ := Lib.hid (size_rep Rep.zero); have OZ := Lib.hid (one_rep Rep.zero); have BZ := fun W => build_rz W
  have BC := fun W => build_rc n hn W
  have SV := Lib.hid (size_rep (Rep.lone n hn)); have LV := Lib.hid (len_rep Rep.zero (Rep.lone n hn)); have OV := Lib.hid (one_rep (Rep.lone n hn))
  have CB := fun W => bare_is (Rep.lone n hn) (q := true) (Lib.hid ⟨fun _ => rfl, fun _ => ⟨hs, rfl⟩⟩) W
  obtain ⟨V, hV⟩ : ∃ V, (Rep.lone n hn).v = V := ⟨_, rfl⟩
  rw [hV] at BC SV LV OV CB ⊢
  clear hV hs
  go_enter Try.func9, Try.ntmps9
  go_upto_region 1 with fail
  refine F_gen (F := fun W => Code.wp _ _ _ _ W) (J := fun W => Box W (w.heap.size) (Rep.zero.v) ∧ Below w.heap.size w W) (And.intro (Box.newc rfl rfl) (by go_grown)) ?_
  intro w0 ⟨e_r, hB0⟩
  have hs0 := hB0.size
  have x_r0 := e_r; clear e_r
  have d_a_r := (x_r0).lt
  have d_a_0 := hs0
  go_upto_region 2 with (first
    | (refine wpList_build9 rfl 26 _ rfl (us := #[(0, .int .u8 n)]) (by rfl) (BC _) ?_)
    | (refine wpList_store_box (cs := V) rfl _ _ _ rfl (Box.newc (l := Rep.zero.v) rfl rfl) rfl rfl SV.out LV.out OV.out ?_; intro W0_0 hW0_0))
  have hN : Below w0.heap.size w0 W0_0 := (hW0_0.below _ _ (by omega) ((Below.refl _ w0).alloc (Nat.le_refl _) _))
  have x_a1 : Box W0_0 (w0.heap.size) (V) := hW0_0.box
  have hB1 : Below w.heap.size w W0_0 := below_thru hB0 hN
  have hs1 := hB1.size
  have x_r1 : Box W0_0 (w.heap.size) (Rep.zero.v) := Box.below x_r0 hN
  clear hB0 hs0 x_r0
  clear hN hW0_0
  go_wp2_with (refine wpList_load_box9 rfl _ _ rfl x_a1 rfl Try.underlying26 rfl SV.out ?_)
  refine (CB _).mono ?_
  rintro e w2 ⟨rfl, hb⟩
  have hB2 : Below w.heap.size w w2 := below_thru hB1 hb
  have hs2 := hB2.size
  have x_r2 : Box w2 (w.heap.size) (Rep.zero.v) := Box.below x_r1 hb
  have x_a2 : Box w2 (w0.heap.size) (V) := Box.below x_a1 hb
  clear hB1 hs1 x_r1 x_a1
  clear hb
  have lq := (x_r2).lt
  go_wp2_with (first | (refine wpList_load_box9 rfl _ _ rfl x_a2 rfl Try.underlying26 rfl SV.out ?_) | (refine wpList_store_box (cs := V) rfl _ _ _ rfl x_r2 rfl rfl SV.out LV.out OV.out ?_; intro W99 hW99))
  exact bodyPost_ret (results_box2 Try.results9 hW99.box rfl rfl Try.underlying26 rfl SV.out) rfl ⟨rfl, hW99.below _ _ (by omega) hB2⟩
set_option maxRecDepth 100000 in
set_option maxHeartbeats 6400000 in
theorem code_f (n : Int) (hn : 0 ≤ n ∧ n ≤ 255) (hs : ¬ Sole n) (w : World) : Calls Try.prog 9 #[.int .u8 n] w fun e w' => e = .returned (.tuple #[.agg Rep.zero.v.toArray, .int .i64 2]) ∧ Below w.heap.size w w' := by
  have SZ := Lib.hid (size_rep Rep.zero); have OZ := Lib.hid (one_rep Rep.zero); have BZ := fun W => build_rz W
  have BC := fun W => build_rc n hn W
  have SV := Lib.hid (size_rep (Rep.lone n hn)); have LV := Lib.hid (len_rep Rep.zero (Rep.lone n hn)); have OV := Lib.hid (one_rep (Rep.lone n hn))
  have CB := fun W => bare_is (Rep.lone n hn) (q := false) (Lib.hid ⟨fun h => absurd h.1 hs, fun h => by cases h⟩) W
  obtain ⟨V, hV⟩ : ∃ V, (Rep.lone n hn).v = V := ⟨_, rfl⟩
  rw [hV] at BC SV LV OV CB
  clear hV hs
  go_enter Try.func9, Try.ntmps9
  go_upto_region 1 with fail
  refine F_gen (F := fun W => Code.wp _ _ _ _ W) (J := fun W => Box W (w.heap.size) (Rep.zero.v) ∧ Below w.heap.size w W) (And.intro (Box.newc rfl rfl) (by go_grown)) ?_
  intro w0 ⟨e_r, hB0⟩
  have hs0 := hB0.size
  have x_r0 := e_r; clear e_r
  have d_a_r := (x_r0).lt
  have d_a_0 := hs0
  go_upto_region 2 with (first
    | (refine wpList_build9 rfl 26 _ rfl (us := #[(0, .int .u8 n)]) (by rfl) (BC _) ?_)
    | (refine wpList_store_box (cs := V) rfl _ _ _ rfl (Box.newc (l := Rep.zero.v) rfl rfl) rfl rfl SV.out LV.out OV.out ?_; intro W0_0 hW0_0))
  have hN : Below w0.heap.size w0 W0_0 := (hW0_0.below _ _ (by omega) ((Below.refl _ w0).alloc (Nat.le_refl _) _))
  have x_a1 : Box W0_0 (w0.heap.size) (V) := hW0_0.box
  have hB1 : Below w.heap.size w W0_0 := below_thru hB0 hN
  have hs1 := hB1.size
  have x_r1 : Box W0_0 (w.heap.size) (Rep.zero.v) := Box.below x_r0 hN
  clear hB0 hs0 x_r0
  clear hN hW0_0
  go_wp2_with (refine wpList_load_box9 rfl _ _ rfl x_a1 rfl Try.underlying26 rfl SV.out ?_)
  refine (CB _).mono ?_
  rintro e w2 ⟨rfl, hb⟩
  have hB2 : Below w.heap.size w w2 := below_thru hB1 hb
  have hs2 := hB2.size
  have x_r2 : Box w2 (w.heap.size) (Rep.zero.v) := Box.below x_r1 hb
  have x_a2 : Box w2 (w0.heap.size) (V) := Box.below x_a1 hb
  clear hB1 hs1 x_r1 x_a1
  clear hb
  have lq := (x_r2).lt
  go_wp2_with (first | (refine wpList_build9 rfl 26 _ rfl (us := #[]) (by rfl) (BZ _) ?_) | (refine wpList_store_box (cs := Rep.zero.v) rfl _ _ _ rfl x_r2 rfl rfl SZ.out (len_rep Rep.zero Rep.zero) OZ.out ?_; intro W99 hW99))
  exact bodyPost_ret (results_box2 Try.results9 hW99.box rfl rfl Try.underlying26 rfl SZ.out) rfl ⟨rfl, hW99.below _ _ (by omega) hB2⟩
theorem code_is (n : Int) (hn : 0 ≤ n ∧ n ≤ 255) {G : Rep} {q : Int} (h : CodeOf n G q) (w : World) : Calls Try.prog 9 #[.int .u8 n] w fun e w' => e = .returned (.tuple #[.agg G.v.toArray, .int .i64 q]) ∧ Below w.heap.size w w' := by
  rcases h with ⟨rfl, hs, _, rfl⟩ | ⟨rfl, hs, rfl⟩
  · exact code_t n hn hs w
  · exact code_f n hn hs w

end Go.Proofs.Ytipkgflonioacaa
