/-
  The reference of layer 9, walked: Check.
-/
import Derived.Test.YtkpdlbcmnfphmaaFmD
import Derived.Test.YtkpdlbcmnfphmaaRFmA
namespace Go.Proofs.Ytkpdlbcmnfphmaa
open Go.RowKit

set_option maxRecDepth 100000 in
set_option maxHeartbeats 3200000 in
theorem rchk_1a (f : Frm) (h0 : f.kd = 1) (d1 : decide (f.r.k.t < 16) = false) (hc : f.c = Cmd.zero) (w : World) : Calls Try.prog 21 #[.agg (mcell f).toArray] w fun e w' => e = .returned (.int .i64 8) ∧ Below w.heap.size w w' := by
  have SV := Lib.hid (size_frm f)
  have SC := Lib.hid (size_cmd f.c)
  have SR := Lib.hid (size_req f.r)
  have DC := Lib.hid (mcell_c f)
  have DR := Lib.hid (mcell_r f)
  have BC := fun W => build_c0 W
  have BR := fun W => build_r0 W
  have EC := fun W => eqc_t hc W
  have v0 : (mcell f)[0]? = some (.int .u8 1) := by rw [← h0]; rfl
  have v1 := mcell_kt f
  obtain ⟨V, hV⟩ : ∃ V, mcell f = V := ⟨_, rfl⟩
  obtain ⟨C, hC⟩ : ∃ V, ccell f.c = V := ⟨_, rfl⟩
  obtain ⟨R, hR⟩ : ∃ V, rcell f.r = V := ⟨_, rfl⟩
  obtain ⟨Z, hZ⟩ : ∃ V, ccell Cmd.zero = V := ⟨_, rfl⟩
  obtain ⟨Y, hY⟩ : ∃ V, rcell Req.zero = V := ⟨_, rfl⟩
  rw [hV] at SV DC DR v0 v1 ⊢
  rw [hC] at SC DC DR EC
  rw [hR] at SR DR
  rw [hZ] at BC EC
  rw [hY] at BR
  clear hV hC hR hZ hY hc
  go_enter Try.func21, Try.ntmps21
  go_upto_region 1 with fail
  refine F_gen (F := fun W => Code.wp _ _ _ _ W) (J := fun W => Box W (w.heap.size) (V) ∧ Below w.heap.size w W) (And.intro (Box.newc rfl rfl) (by go_grown)) ?_
  intro w0 ⟨e_f, hB0⟩
  have hs0 := hB0.size
  have x_f0 := e_f; clear e_f
  have ca := (x_f0).c 0 _ v0
  have za := (x_f0).lt
  have cb := (x_f0).c 1 _ v1
  have zb := (x_f0).lt
  go_wp2_with (first
    | (refine wpList_load_rangew rfl _ _ rfl (Box.rangeMid x_f0 39 (C) ([]) DC.out) rfl Try.underlying31 rfl SC.out ?_)
    | (refine wpList_load_rangew rfl _ _ rfl (Box.rangeMid x_f0 1 (R) (C) DR.out) rfl Try.underlying41 rfl SR.out ?_)
    | (refine wpList_build9 rfl 31 _ rfl (us := #[]) (by rfl) (BC _) ?_)
    | (refine wpList_build9 rfl 41 _ rfl (us := #[]) (by rfl) (BR _) ?_))
  go_returns
  exact ⟨rfl, hB0⟩

set_option maxRecDepth 100000 in
set_option maxHeartbeats 3200000 in
theorem rchk_1b (f : Frm) (h0 : f.kd = 1) (hc : f.c ≠ Cmd.zero) (w : World) : Calls Try.prog 21 #[.agg (mcell f).toArray] w fun e w' => e = .returned (.int .i64 8) ∧ Below w.heap.size w w' := by
  have SV := Lib.hid (size_frm f)
  have SC := Lib.hid (size_cmd f.c)
  have SR := Lib.hid (size_req f.r)
  have DC := Lib.hid (mcell_c f)
  have DR := Lib.hid (mcell_r f)
  have BC := fun W => build_c0 W
  have BR := fun W => build_r0 W
  have EC := fun W => eqc_f hc W
  have v0 : (mcell f)[0]? = some (.int .u8 1) := by rw [← h0]; rfl
  have v1 := mcell_kt f
  obtain ⟨V, hV⟩ : ∃ V, mcell f = V := ⟨_, rfl⟩
  obtain ⟨C, hC⟩ : ∃ V, ccell f.c = V := ⟨_, rfl⟩
  obtain ⟨R, hR⟩ : ∃ V, rcell f.r = V := ⟨_, rfl⟩
  obtain ⟨Z, hZ⟩ : ∃ V, ccell Cmd.zero = V := ⟨_, rfl⟩
  obtain ⟨Y, hY⟩ : ∃ V, rcell Req.zero = V := ⟨_, rfl⟩
  rw [hV] at SV DC DR v0 v1 ⊢
  rw [hC] at SC DC DR EC
  rw [hR] at SR DR
  rw [hZ] at BC EC
  rw [hY] at BR
  clear hV hC hR hZ hY hc
  go_enter Try.func21, Try.ntmps21
  go_upto_region 1 with fail
  refine F_gen (F := fun W => Code.wp _ _ _ _ W) (J := fun W => Box W (w.heap.size) (V) ∧ Below w.heap.size w W) (And.intro (Box.newc rfl rfl) (by go_grown)) ?_
  intro w0 ⟨e_f, hB0⟩
  have hs0 := hB0.size
  have x_f0 := e_f; clear e_f
  have ca := (x_f0).c 0 _ v0
  have za := (x_f0).lt
  have cb := (x_f0).c 1 _ v1
  have zb := (x_f0).lt
  go_wp2_with (first
    | (refine wpList_load_rangew rfl _ _ rfl (Box.rangeMid x_f0 39 (C) ([]) DC.out) rfl Try.underlying31 rfl SC.out ?_)
    | (refine wpList_load_rangew rfl _ _ rfl (Box.rangeMid x_f0 1 (R) (C) DR.out) rfl Try.underlying41 rfl SR.out ?_)
    | (refine wpList_build9 rfl 31 _ rfl (us := #[]) (by rfl) (BC _) ?_)
    | (refine wpList_build9 rfl 41 _ rfl (us := #[]) (by rfl) (BR _) ?_))
  go_returns
  exact ⟨rfl, hB0⟩

set_option maxRecDepth 100000 in
set_option maxHeartbeats 3200000 in
theorem rchk_1c (f : Frm) (h0 : f.kd = 1) (d1 : decide (f.r.k.t < 16) = true) (hc : f.c = Cmd.zero) (w : World) : Calls Try.prog 21 #[.agg (mcell f).toArray] w fun e w' => e = .returned (.int .i64 0) ∧ Below w.heap.size w w' := by
  have SV := Lib.hid (size_frm f)
  have SC := Lib.hid (size_cmd f.c)
  have SR := Lib.hid (size_req f.r)
  have DC := Lib.hid (mcell_c f)
  have DR := Lib.hid (mcell_r f)
  have BC := fun W => build_c0 W
  have BR := fun W => build_r0 W
  have EC := fun W => eqc_t hc W
  have v0 : (mcell f)[0]? = some (.int .u8 1) := by rw [← h0]; rfl
  have v1 := mcell_kt f
  obtain ⟨V, hV⟩ : ∃ V, mcell f = V := ⟨_, rfl⟩
  obtain ⟨C, hC⟩ : ∃ V, ccell f.c = V := ⟨_, rfl⟩
  obtain ⟨R, hR⟩ : ∃ V, rcell f.r = V := ⟨_, rfl⟩
  obtain ⟨Z, hZ⟩ : ∃ V, ccell Cmd.zero = V := ⟨_, rfl⟩
  obtain ⟨Y, hY⟩ : ∃ V, rcell Req.zero = V := ⟨_, rfl⟩
  rw [hV] at SV DC DR v0 v1 ⊢
  rw [hC] at SC DC DR EC
  rw [hR] at SR DR
  rw [hZ] at BC EC
  rw [hY] at BR
  clear hV hC hR hZ hY hc
  go_enter Try.func21, Try.ntmps21
  go_upto_region 1 with fail
  refine F_gen (F := fun W => Code.wp _ _ _ _ W) (J := fun W => Box W (w.heap.size) (V) ∧ Below w.heap.size w W) (And.intro (Box.newc rfl rfl) (by go_grown)) ?_
  intro w0 ⟨e_f, hB0⟩
  have hs0 := hB0.size
  have x_f0 := e_f; clear e_f
  have ca := (x_f0).c 0 _ v0
  have za := (x_f0).lt
  have cb := (x_f0).c 1 _ v1
  have zb := (x_f0).lt
  go_wp2_with (first
    | (refine wpList_load_rangew rfl _ _ rfl (Box.rangeMid x_f0 39 (C) ([]) DC.out) rfl Try.underlying31 rfl SC.out ?_)
    | (refine wpList_load_rangew rfl _ _ rfl (Box.rangeMid x_f0 1 (R) (C) DR.out) rfl Try.underlying41 rfl SR.out ?_)
    | (refine wpList_build9 rfl 31 _ rfl (us := #[]) (by rfl) (BC _) ?_)
    | (refine wpList_build9 rfl 41 _ rfl (us := #[]) (by rfl) (BR _) ?_))
  go_returns
  exact ⟨rfl, hB0⟩

set_option maxRecDepth 100000 in
set_option maxHeartbeats 3200000 in
theorem rchk_2a (f : Frm) (h0 : f.kd = 2) (hr : f.r ≠ Req.zero) (w : World) : Calls Try.prog 21 #[.agg (mcell f).toArray] w fun e w' => e = .returned (.int .i64 8) ∧ Below w.heap.size w w' := by
  have SV := Lib.hid (size_frm f)
  have SC := Lib.hid (size_cmd f.c)
  have SR := Lib.hid (size_req f.r)
  have DC := Lib.hid (mcell_c f)
  have DR := Lib.hid (mcell_r f)
  have BC := fun W => build_c0 W
  have BR := fun W => build_r0 W
  have ER := fun W => eqr_f hr W
  have v0 : (mcell f)[0]? = some (.int .u8 2) := by rw [← h0]; rfl
  have v1 := mcell_kt f
  obtain ⟨V, hV⟩ : ∃ V, mcell f = V := ⟨_, rfl⟩
  obtain ⟨C, hC⟩ : ∃ V, ccell f.c = V := ⟨_, rfl⟩
  obtain ⟨R, hR⟩ : ∃ V, rcell f.r = V := ⟨_, rfl⟩
  obtain ⟨Z, hZ⟩ : ∃ V, ccell Cmd.zero = V := ⟨_, rfl⟩
  obtain ⟨Y, hY⟩ : ∃ V, rcell Req.zero = V := ⟨_, rfl⟩
  rw [hV] at SV DC DR v0 v1 ⊢
  rw [hC] at SC DC DR
  rw [hR] at SR DR ER
  rw [hZ] at BC
  rw [hY] at BR ER
  clear hV hC hR hZ hY hr
  go_enter Try.func21, Try.ntmps21
  go_upto_region 1 with fail
  refine F_gen (F := fun W => Code.wp _ _ _ _ W) (J := fun W => Box W (w.heap.size) (V) ∧ Below w.heap.size w W) (And.intro (Box.newc rfl rfl) (by go_grown)) ?_
  intro w0 ⟨e_f, hB0⟩
  have hs0 := hB0.size
  have x_f0 := e_f; clear e_f
  have ca := (x_f0).c 0 _ v0
  have za := (x_f0).lt
  have cb := (x_f0).c 1 _ v1
  have zb := (x_f0).lt
  go_wp2_with (first
    | (refine wpList_load_rangew rfl _ _ rfl (Box.rangeMid x_f0 39 (C) ([]) DC.out) rfl Try.underlying31 rfl SC.out ?_)
    | (refine wpList_load_rangew rfl _ _ rfl (Box.rangeMid x_f0 1 (R) (C) DR.out) rfl Try.underlying41 rfl SR.out ?_)
    | (refine wpList_build9 rfl 31 _ rfl (us := #[]) (by rfl) (BC _) ?_)
    | (refine wpList_build9 rfl 41 _ rfl (us := #[]) (by rfl) (BR _) ?_))
  go_returns
  exact ⟨rfl, hB0⟩

set_option maxRecDepth 100000 in
set_option maxHeartbeats 3200000 in
theorem rchk_2b (f : Frm) (h0 : f.kd = 2) (hr : f.r = Req.zero) (hq : Hid (f.c.Ok ↔ false = true)) (w : World) : Calls Try.prog 21 #[.agg (mcell f).toArray] w fun e w' => e = .returned (.int .i64 8) ∧ Below w.heap.size w w' := by
  have SV := Lib.hid (size_frm f)
  have SC := Lib.hid (size_cmd f.c)
  have SR := Lib.hid (size_req f.r)
  have DC := Lib.hid (mcell_c f)
  have DR := Lib.hid (mcell_r f)
  have BC := fun W => build_c0 W
  have BR := fun W => build_r0 W
  have ER := fun W => eqr_t hr W
  have IC := fun W => risc_is f.c hq W
  have v0 : (mcell f)[0]? = some (.int .u8 2) := by rw [← h0]; rfl
  have v1 := mcell_kt f
  obtain ⟨V, hV⟩ : ∃ V, mcell f = V := ⟨_, rfl⟩
  obtain ⟨C, hC⟩ : ∃ V, ccell f.c = V := ⟨_, rfl⟩
  obtain ⟨R, hR⟩ : ∃ V, rcell f.r = V := ⟨_, rfl⟩
  obtain ⟨Z, hZ⟩ : ∃ V, ccell Cmd.zero = V := ⟨_, rfl⟩
  obtain ⟨Y, hY⟩ : ∃ V, rcell Req.zero = V := ⟨_, rfl⟩
  rw [hV] at SV DC DR v0 v1 ⊢
  rw [hC] at SC DC DR IC
  rw [hR] at SR DR ER
  rw [hZ] at BC
  rw [hY] at BR ER
  clear hV hC hR hZ hY hr hq
  go_enter Try.func21, Try.ntmps21
  go_upto_region 1 with fail
  refine F_gen (F := fun W => Code.wp _ _ _ _ W) (J := fun W => Box W (w.heap.size) (V) ∧ Below w.heap.size w W) (And.intro (Box.newc rfl rfl) (by go_grown)) ?_
  intro w0 ⟨e_f, hB0⟩
  have hs0 := hB0.size
  have x_f0 := e_f; clear e_f
  have ca := (x_f0).c 0 _ v0
  have za := (x_f0).lt
  have cb := (x_f0).c 1 _ v1
  have zb := (x_f0).lt
  go_wp2_with (first
    | (refine wpList_load_rangew rfl _ _ rfl (Box.rangeMid x_f0 39 (C) ([]) DC.out) rfl Try.underlying31 rfl SC.out ?_)
    | (refine wpList_load_rangew rfl _ _ rfl (Box.rangeMid x_f0 1 (R) (C) DR.out) rfl Try.underlying41 rfl SR.out ?_)
    | (refine wpList_build9 rfl 31 _ rfl (us := #[]) (by rfl) (BC _) ?_)
    | (refine wpList_build9 rfl 41 _ rfl (us := #[]) (by rfl) (BR _) ?_))
  refine (IC _).mono ?_
  rintro e w1 ⟨rfl, hb⟩
  clear ca za cb zb
  have hB1 : Below w.heap.size w w1 := below_thru hB0 hb
  have hs1 := hB1.size
  have x_f1 : Box w1 (w.heap.size) (V) := Box.below x_f0 hb
  clear hB0 hs0 x_f0
  clear hb
  go_wp2_with fail
  go_returns
  exact ⟨rfl, hB1⟩

set_option maxRecDepth 100000 in
set_option maxHeartbeats 3200000 in
theorem rchk_2c (f : Frm) (h0 : f.kd = 2) (hr : f.r = Req.zero) (hq : Hid (f.c.Ok ↔ true = true)) (w : World) : Calls Try.prog 21 #[.agg (mcell f).toArray] w fun e w' => e = .returned (.int .i64 0) ∧ Below w.heap.size w w' := by
  have SV := Lib.hid (size_frm f)
  have SC := Lib.hid (size_cmd f.c)
  have SR := Lib.hid (size_req f.r)
  have DC := Lib.hid (mcell_c f)
  have DR := Lib.hid (mcell_r f)
  have BC := fun W => build_c0 W
  have BR := fun W => build_r0 W
  have ER := fun W => eqr_t hr W
  have IC := fun W => risc_is f.c hq W
  have v0 : (mcell f)[0]? = some (.int .u8 2) := by rw [← h0]; rfl
  have v1 := mcell_kt f
  obtain ⟨V, hV⟩ : ∃ V, mcell f = V := ⟨_, rfl⟩
  obtain ⟨C, hC⟩ : ∃ V, ccell f.c = V := ⟨_, rfl⟩
  obtain ⟨R, hR⟩ : ∃ V, rcell f.r = V := ⟨_, rfl⟩
  obtain ⟨Z, hZ⟩ : ∃ V, ccell Cmd.zero = V := ⟨_, rfl⟩
  obtain ⟨Y, hY⟩ : ∃ V, rcell Req.zero = V := ⟨_, rfl⟩
  rw [hV] at SV DC DR v0 v1 ⊢
  rw [hC] at SC DC DR IC
  rw [hR] at SR DR ER
  rw [hZ] at BC
  rw [hY] at BR ER
  clear hV hC hR hZ hY hr hq
  go_enter Try.func21, Try.ntmps21
  go_upto_region 1 with fail
  refine F_gen (F := fun W => Code.wp _ _ _ _ W) (J := fun W => Box W (w.heap.size) (V) ∧ Below w.heap.size w W) (And.intro (Box.newc rfl rfl) (by go_grown)) ?_
  intro w0 ⟨e_f, hB0⟩
  have hs0 := hB0.size
  have x_f0 := e_f; clear e_f
  have ca := (x_f0).c 0 _ v0
  have za := (x_f0).lt
  have cb := (x_f0).c 1 _ v1
  have zb := (x_f0).lt
  go_wp2_with (first
    | (refine wpList_load_rangew rfl _ _ rfl (Box.rangeMid x_f0 39 (C) ([]) DC.out) rfl Try.underlying31 rfl SC.out ?_)
    | (refine wpList_load_rangew rfl _ _ rfl (Box.rangeMid x_f0 1 (R) (C) DR.out) rfl Try.underlying41 rfl SR.out ?_)
    | (refine wpList_build9 rfl 31 _ rfl (us := #[]) (by rfl) (BC _) ?_)
    | (refine wpList_build9 rfl 41 _ rfl (us := #[]) (by rfl) (BR _) ?_))
  refine (IC _).mono ?_
  rintro e w1 ⟨rfl, hb⟩
  clear ca za cb zb
  have hB1 : Below w.heap.size w w1 := below_thru hB0 hb
  have hs1 := hB1.size
  have x_f1 : Box w1 (w.heap.size) (V) := Box.below x_f0 hb
  clear hB0 hs0 x_f0
  clear hb
  go_wp2_with fail
  go_returns
  exact ⟨rfl, hB1⟩

set_option maxRecDepth 100000 in
set_option maxHeartbeats 3200000 in
theorem rchk_n (f : Frm) (e1 : (f.kd == 1) = false) (e2 : (f.kd == 2) = false) (w : World) : Calls Try.prog 21 #[.agg (mcell f).toArray] w fun e w' => e = .returned (.int .i64 8) ∧ Below w.heap.size w w' := by
  have SV := Lib.hid (size_frm f)
  have SC := Lib.hid (size_cmd f.c)
  have SR := Lib.hid (size_req f.r)
  have DC := Lib.hid (mcell_c f)
  have DR := Lib.hid (mcell_r f)
  have BC := fun W => build_c0 W
  have BR := fun W => build_r0 W
  have v0 : (mcell f)[0]? = some (.int .u8 f.kd) := by rfl
  have v1 := mcell_kt f
  obtain ⟨V, hV⟩ : ∃ V, mcell f = V := ⟨_, rfl⟩
  obtain ⟨C, hC⟩ : ∃ V, ccell f.c = V := ⟨_, rfl⟩
  obtain ⟨R, hR⟩ : ∃ V, rcell f.r = V := ⟨_, rfl⟩
  obtain ⟨Z, hZ⟩ : ∃ V, ccell Cmd.zero = V := ⟨_, rfl⟩
  obtain ⟨Y, hY⟩ : ∃ V, rcell Req.zero = V := ⟨_, rfl⟩
  rw [hV] at SV DC DR v0 v1 ⊢
  rw [hC] at SC DC DR
  rw [hR] at SR DR
  rw [hZ] at BC
  rw [hY] at BR
  clear hV hC hR hZ hY
  go_enter Try.func21, Try.ntmps21
  go_upto_region 1 with fail
  refine F_gen (F := fun W => Code.wp _ _ _ _ W) (J := fun W => Box W (w.heap.size) (V) ∧ Below w.heap.size w W) (And.intro (Box.newc rfl rfl) (by go_grown)) ?_
  intro w0 ⟨e_f, hB0⟩
  have hs0 := hB0.size
  have x_f0 := e_f; clear e_f
  have ca := (x_f0).c 0 _ v0
  have za := (x_f0).lt
  have cb := (x_f0).c 1 _ v1
  have zb := (x_f0).lt
  go_wp2_with (first
    | (refine wpList_load_rangew rfl _ _ rfl (Box.rangeMid x_f0 39 (C) ([]) DC.out) rfl Try.underlying31 rfl SC.out ?_)
    | (refine wpList_load_rangew rfl _ _ rfl (Box.rangeMid x_f0 1 (R) (C) DR.out) rfl Try.underlying41 rfl SR.out ?_)
    | (refine wpList_build9 rfl 31 _ rfl (us := #[]) (by rfl) (BC _) ?_)
    | (refine wpList_build9 rfl 41 _ rfl (us := #[]) (by rfl) (BR _) ?_))
  go_returns
  exact ⟨rfl, hB0⟩

theorem rchk_is (f : Frm) {q : Int} (hq : Hid ((q = 0 ∧ f.Ok) ∨ (q = 8 ∧ ¬ f.Ok))) (w : World) : Calls Try.prog 21 #[.agg (mcell f).toArray] w fun e w' => e = .returned (.int .i64 q) ∧ Below w.heap.size w w' := by
  have ht : f.Ok → q = 0 := fun h => by rcases hq.out with g | g; exact g.1; exact absurd h g.2
  have hf : ¬ f.Ok → q = 8 := fun h => by rcases hq.out with g | g; exact absurd g.2 h; exact g.1
  by_cases h0 : f.kd = 1
  · by_cases h1 : f.r.k.t < 16
    · by_cases hc : f.c = Cmd.zero
      · rw [ht (Or.inl ⟨h0, h1, hc⟩)]
        exact rchk_1c f h0 (decide_eq_true h1) hc w
      · rw [hf (fun h => by rcases h with g | g; exact hc g.2.2; omega)]
        exact rchk_1b f h0 hc w
    · rw [hf (fun h => by rcases h with g | g; exact h1 g.2.1; omega)]
      by_cases hc : f.c = Cmd.zero
      · exact rchk_1a f h0 (decide_eq_false h1) hc w
      · exact rchk_1b f h0 hc w
  by_cases h2 : f.kd = 2
  · by_cases hr : f.r = Req.zero
    · by_cases hc : f.c.Ok
      · rw [ht (Or.inr ⟨h2, hr, hc⟩)]
        exact rchk_2c f h2 hr (Lib.hid ⟨fun _ => rfl, fun _ => hc⟩) w
      · rw [hf (fun h => by rcases h with g | g; omega; exact hc g.2.2)]
        exact rchk_2b f h2 hr (Lib.hid ⟨fun h => absurd h hc, fun h => by cases h⟩) w
    · rw [hf (fun h => by rcases h with g | g; omega; exact hr g.2.1)]
      exact rchk_2a f h2 hr w
  rw [hf (fun h => by rcases h with g | g; exact h0 g.1; exact h2 g.1)]
  exact rchk_n f (by simpa using h0) (by simpa using h2) w

end Go.Proofs.Ytkpdlbcmnfphmaa
